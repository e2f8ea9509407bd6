import PyProof.Rows.All
import Wide.All
import OpenK.AllK
import Wide.FinOn
import HandS.ForMost
import HandS.IsInst
import HandS.SortInts
import HandS.Walk
import HandS.Property
import HandS.Style
import PyProof.ListRange
import HandS.Conv
import HandS.DictTup
import KE.SortData
import KE.KDictWalk
import HandS.OwnEq
import PyProof.InstNe
import KE.DataMinMax
import PyProof.Rows.StrStep
import HandS.Deep
import KE.GoesMore
import KE.GoesEnum
import HandS.Iter
import PyProof.ZipIter
import PyProof.ListNew
import PyProof.CollectWalk
import HandS.Zip
import HandS.More
import PySem.Challenge.RW_suretexts_k63_whole_times_in_a_round
set_option Elab.async false
set_option maxRecDepth 100000
set_option linter.all false
namespace My
/-! ### reading round and round -/
def rd (l : List Nat) (p n : Nat) : List Nat := (List.range n).map fun k => l.getD ((p + k) % l.length) 0
theorem rd_len (l : List Nat) (p n : Nat) : (rd l p n).length = n := by simp [rd]
theorem rd_zero (l : List Nat) (p : Nat) : rd l p 0 = [] := rfl
theorem rd_succ (l : List Nat) (p n : Nat) : rd l p (n + 1) = rd l p n ++ [l.getD ((p + n) % l.length) 0] := by
  simp [rd, List.range_succ]
theorem rd_get (l : List Nat) (p n k : Nat) (h : k < n) : (rd l p n)[k]? = some (l.getD ((p + k) % l.length) 0) := by
  simp [rd, h]
theorem rd_drop (l : List Nat) (p n k : Nat) : (rd l p n).drop k = rd l (p + k) (n - k) := by
  apply List.ext_getElem?
  intro i
  rw [List.getElem?_drop]
  by_cases h : k + i < n
  · rw [rd_get _ _ _ _ h, rd_get _ _ _ _ (by omega), Nat.add_assoc]
  · rw [List.getElem?_eq_none (by rw [rd_len]; omega), List.getElem?_eq_none (by rw [rd_len]; omega)]
theorem rd_mod (l : List Nat) (p n : Nat) : rd l (p % l.length) n = rd l p n := by
  unfold rd
  apply List.map_congr_left
  intro k _
  rw [Nat.mod_add_mod]
theorem rd_self (l : List Nat) : rd l 0 l.length = l := by
  apply List.ext_getElem?
  intro i
  by_cases h : i < l.length
  · rw [rd_get _ _ _ _ h, Nat.zero_add, Nat.mod_eq_of_lt h, List.getElem?_eq_getElem h, List.getD_eq_getElem?_getD, List.getElem?_eq_getElem h]
    rfl
  · rw [List.getElem?_eq_none (by rw [rd_len]; omega), List.getElem?_eq_none (by omega)]
/-- turned -/
theorem rd_turn (l : List Nat) (p : Nat) (h : p < l.length) : rd l p l.length = l.drop p ++ l.take p := by
  apply List.ext_getElem?
  intro i
  by_cases hi : i < l.length
  · rw [rd_get _ _ _ _ hi]
    by_cases h2 : i < l.length - p
    · rw [List.getElem?_append_left (by rw [List.length_drop]; exact h2), List.getElem?_drop, Nat.mod_eq_of_lt (by omega), List.getElem?_eq_getElem (by omega), List.getD_eq_getElem?_getD, List.getElem?_eq_getElem (by omega)]
      rfl
    · rw [List.getElem?_append_right (by rw [List.length_drop]; omega), List.length_drop, List.getElem?_take_of_lt (by omega)]
      have e : (p + i) % l.length = i - (l.length - p) := by
        rw [Nat.mod_eq_sub_mod (by omega), Nat.mod_eq_of_lt (by omega)]
        omega
      rw [e, List.getElem?_eq_getElem (by omega), List.getD_eq_getElem?_getD, List.getElem?_eq_getElem (by omega)]
      rfl
  · rw [List.getElem?_eq_none (by rw [rd_len]; omega), List.getElem?_eq_none (by rw [List.length_append, List.length_drop, List.length_take]; omega)]
/-- reading from a turned ring -/
theorem rd_turned (l : List Nat) (b p n : Nat) (hl : 0 < l.length) : rd (rd l b l.length) p n = rd l (b + p) n := by
  unfold rd
  apply List.map_congr_left
  intro k _
  have e : ((List.range l.length).map fun k => l.getD ((b + k) % l.length) 0).length = l.length := by simp
  rw [e]
  have h2 : (p + k) % l.length < l.length := Nat.mod_lt _ hl
  rw [List.getD_eq_getElem?_getD, List.getElem?_map, List.getElem?_range h2]
  show l.getD ((b + (p + k) % l.length) % l.length) 0 = _
  rw [Nat.add_mod_mod, Nat.add_assoc]

/-! ### beginnings that are endings -/
def Pre (w t : List Nat) (k : Nat) : Prop := k ≤ w.length ∧ w.take k <:+ t
def Longest (w t : List Nat) (k : Nat) : Prop := Pre w t k ∧ ∀ k', Pre w t k' → k' ≤ k
def IsLB (p : List Nat) (b : Nat) : Prop := b < p.length ∧ p.take b <:+ p ∧ ∀ b', b' < p.length → p.take b' <:+ p → b' ≤ b
def At (w t : List Nat) (c k : Nat) : Prop := Pre w t k ∧ ∀ k', Pre w t k' → w[k']? = some c → k' ≤ k
theorem suff_one {a t : List Nat} {x c : Nat} : a ++ [x] <:+ t ++ [c] ↔ a <:+ t ∧ x = c := by
  constructor
  · rintro ⟨u, hu⟩
    rw [← List.append_assoc] at hu
    have h := List.append_inj' hu rfl
    exact ⟨⟨u, h.1⟩, by simpa using h.2⟩
  · rintro ⟨⟨u, hu⟩, rfl⟩
    exact ⟨u, by rw [← hu, List.append_assoc]⟩
theorem pre_succ {w t : List Nat} {c k : Nat} : Pre w (t ++ [c]) (k + 1) ↔ Pre w t k ∧ w[k]? = some c := by
  unfold Pre
  constructor
  · rintro ⟨h1, h2⟩
    have hk : k < w.length := by omega
    rw [List.take_succ_eq_append_getElem hk, suff_one] at h2
    exact ⟨⟨by omega, h2.1⟩, by rw [List.getElem?_eq_getElem hk, h2.2]⟩
  · rintro ⟨⟨h1, h2⟩, h3⟩
    have hk : k < w.length := by
      rw [List.getElem?_eq_some_iff] at h3
      exact h3.1
    rw [List.take_succ_eq_append_getElem hk, suff_one]
    rw [List.getElem?_eq_getElem hk] at h3
    exact ⟨by omega, h2, Option.some.inj h3⟩
theorem pre_zero (w t : List Nat) : Pre w t 0 := ⟨Nat.zero_le _, by simp⟩
theorem at_start {w t : List Nat} {c k : Nat} (h : Longest w t k) : At w t c k := ⟨h.1, fun k' h' _ => h.2 k' h'⟩
theorem at_fall {w t : List Nat} {c k b : Nat} (h : At w t c k) (hne : w[k]? ≠ some c) (hb : IsLB (w.take k) b) : At w t c b := by
  obtain ⟨h1, h2⟩ := h
  obtain ⟨b1, b2, b3⟩ := hb
  have lk : (w.take k).length = k := by rw [List.length_take]; have := h1.1; omega
  rw [lk] at b1 b3
  have tk : ∀ j, j ≤ k → (w.take k).take j = w.take j := fun j hj => by rw [List.take_take, Nat.min_eq_left hj]
  refine ⟨⟨by have := h1.1; omega, ?_⟩, fun k' p' e' => ?_⟩
  · rw [← tk b (by omega)]
    exact b2.trans h1.2
  · have l1 := h2 k' p' e'
    have l2 : k' ≠ k := by rintro rfl; exact hne e'
    have l3 : k' < k := by omega
    refine b3 k' l3 ?_
    rw [tk k' (by omega)]
    refine List.suffix_of_suffix_length_le p'.2 h1.2 ?_
    rw [List.length_take, List.length_take]
    have := h1.1
    omega
theorem at_hit {w t : List Nat} {c k : Nat} (h : At w t c k) (he : w[k]? = some c) : Longest w (t ++ [c]) (k + 1) := by
  refine ⟨pre_succ.mpr ⟨h.1, he⟩, fun k' p' => ?_⟩
  cases k' with
  | zero => omega
  | succ j =>
    have q := pre_succ.mp p'
    have := h.2 j q.1 q.2
    omega
theorem at_miss {w t : List Nat} {c : Nat} (h : At w t c 0) (he : w[0]? ≠ some c) : Longest w (t ++ [c]) 0 := by
  refine ⟨pre_zero _ _, fun k' p' => ?_⟩
  cases k' with
  | zero => omega
  | succ j =>
    have q := pre_succ.mp p'
    have l := h.2 j q.1 q.2
    have e : j = 0 := by omega
    subst e
    exact absurd q.2 he
theorem longest_nil (w : List Nat) : Longest w [] 0 := by
  refine ⟨pre_zero _ _, fun k' p' => ?_⟩
  have h := List.suffix_nil.mp p'.2
  have h2 : (w.take k').length = 0 := by rw [h]; rfl
  rw [List.length_take] at h2
  have := p'.1
  omega
theorem longest_le {w t : List Nat} {k : Nat} (h : Longest w t k) : k ≤ t.length := by
  have h1 := h.1.2.length_le
  rw [List.length_take] at h1
  have := h.1.1
  omega
/-- the longest beginning that ends the letters behind the first one is the longest border -/
theorem lb_of_longest {w : List Nat} {i k : Nat} (hi : i < w.length) (h : Longest w ((w.drop 1).take i) k) : IsLB (w.take (i + 1)) k := by
  have hk := longest_le h
  have ht : ((w.drop 1).take i).length = i := by rw [List.length_take, List.length_drop]; omega
  rw [ht] at hk
  have hl : (w.take (i + 1)).length = i + 1 := by rw [List.length_take]; omega
  have tk : ∀ j, j ≤ i + 1 → (w.take (i + 1)).take j = w.take j := fun j hj => by rw [List.take_take, Nat.min_eq_left hj]
  obtain ⟨a, r, rfl⟩ : ∃ a r, w = a :: r := by
    cases w with
    | nil => simp at hi
    | cons a r => exact ⟨a, r, rfl⟩
  have e : (a :: r).take (i + 1) = a :: ((a :: r).drop 1).take i := by simp
  refine ⟨by omega, ?_, fun b' hb' hs => ?_⟩
  · rw [tk k (by omega), e]
    exact h.1.2.trans (List.suffix_cons _ _)
  · rw [hl] at hb'
    refine h.2 b' ⟨by omega, ?_⟩
    rw [tk b' (by omega), e, List.suffix_cons_iff] at hs
    rcases hs with hs | hs
    · have hq := congrArg List.length hs
      rw [List.length_take, ← e, hl] at hq
      omega
    · exact hs
theorem lb_one {w : List Nat} (h : 0 < w.length) : IsLB (w.take 1) 0 := lb_of_longest h (by simpa using longest_nil w)
theorem lb_unique {p : List Nat} {a b : Nat} (h1 : IsLB p a) (h2 : IsLB p b) : a = b := by
  have := h1.2.2 b h2.1 h2.2.1
  have := h2.2.2 a h1.1 h1.2.1
  omega
/-- the list of the longest borders -/
def Bords (w : List Nat) (L : List Nat) : Prop := L.length = w.length ∧ ∀ j, j < w.length → ∃ b, L[j]? = some b ∧ IsLB (w.take (j + 1)) b
theorem bords_unique {w A B : List Nat} (h1 : Bords w A) (h2 : Bords w B) : A = B := by
  apply List.ext_getElem?
  intro i
  by_cases h : i < w.length
  · obtain ⟨a, ea, la⟩ := h1.2 i h
    obtain ⟨b, eb, lb⟩ := h2.2 i h
    rw [ea, eb, lb_unique la lb]
  · rw [List.getElem?_eq_none (by rw [h1.1]; omega), List.getElem?_eq_none (by rw [h2.1]; omega)]
/-- some first ones of them -/
def BordsTo (w : List Nat) (n : Nat) (L : List Nat) : Prop := L.length = n ∧ ∀ j, j < n → ∃ b, L[j]? = some b ∧ IsLB (w.take (j + 1)) b
theorem bordsTo_one {w : List Nat} (h : 0 < w.length) : BordsTo w 1 [0] := by
  refine ⟨rfl, fun j hj => ?_⟩
  have e : j = 0 := by omega
  subst e
  exact ⟨0, rfl, lb_one h⟩
theorem bordsTo_succ {w L : List Nat} {i k : Nat} (hi : i < w.length) (hB : BordsTo w i L) (h : Longest w ((w.drop 1).take i) k) : BordsTo w (i + 1) (L ++ [k]) := by
  refine ⟨by rw [List.length_append, hB.1]; rfl, fun j hj => ?_⟩
  by_cases hji : j < i
  · obtain ⟨b, e, l⟩ := hB.2 j hji
    exact ⟨b, by rw [List.getElem?_append_left (by rw [hB.1]; exact hji)]; exact e, l⟩
  · have e : j = i := by omega
    subst e
    refine ⟨k, ?_, lb_of_longest hi h⟩
    rw [List.getElem?_append_right (by rw [hB.1]; omega), hB.1, Nat.sub_self]
    rfl
theorem bordsTo_at {w L : List Nat} {n k : Nat} (hB : BordsTo w n L) (h0 : 0 < k) (hk : k ≤ n) : ∃ b, L[k - 1]? = some b ∧ IsLB (w.take k) b ∧ b < k := by
  obtain ⟨b, e, l⟩ := hB.2 (k - 1) (by omega)
  rw [show k - 1 + 1 = k by omega] at l
  refine ⟨b, e, l, ?_⟩
  have := l.1
  rw [List.length_take] at this
  omega
theorem bords_of {w L : List Nat} : BordsTo w w.length L ↔ Bords w L := Iff.rfl

/-! ### a word begins at a place -/
def due (l w : List Nat) : List Nat := (List.range l.length).filter fun p => rd l p w.length == w
theorem mem_due {l w : List Nat} {p : Nat} : p ∈ due l w ↔ p < l.length ∧ rd l p w.length = w := by
  simp [due]
/-- of the first n letters read -/
def dueTo (l w : List Nat) (n : Nat) : List Nat := (List.range n).filter fun p => rd l p w.length == w
theorem dueTo_all (l w : List Nat) : dueTo l w l.length = due l w := rfl
theorem dueTo_succ_yes {l w : List Nat} {n : Nat} (h : rd l n w.length = w) : dueTo l w (n + 1) = dueTo l w n ++ [n] := by
  simp [dueTo, List.range_succ, List.filter_append, h]
theorem dueTo_succ_no {l w : List Nat} {n : Nat} (h : ¬ rd l n w.length = w) : dueTo l w (n + 1) = dueTo l w n := by
  simp [dueTo, List.range_succ, List.filter_append, h]
/-- the whole word was just read -/
theorem longest_full {l w : List Nat} {n k : Nat} (h : Longest w (rd l 0 n) k) : k = w.length ↔ w.length ≤ n ∧ rd l (n - w.length) w.length = w := by
  have key : w <:+ rd l 0 n ↔ w.length ≤ n ∧ rd l (n - w.length) w.length = w := by
    constructor
    · intro hs
      have hl := hs.length_le
      rw [rd_len] at hl
      refine ⟨hl, ?_⟩
      have e := List.suffix_iff_eq_drop.mp hs
      rw [rd_len, rd_drop, Nat.zero_add, show n - (n - w.length) = w.length by omega] at e
      exact e.symm
    · rintro ⟨hl, e⟩
      rw [List.suffix_iff_eq_drop, rd_len, rd_drop, Nat.zero_add, show n - (n - w.length) = w.length by omega]
      exact e.symm
  rw [← key]
  constructor
  · rintro rfl
    have := h.1.2
    rw [List.take_length] at this
    exact this
  · intro hs
    have h1 := h.1.1
    have h2 := h.2 w.length ⟨Nat.le_refl _, by rw [List.take_length]; exact hs⟩
    omega

/-! ### the period -/
theorem getD_lt {l : List Nat} {i : Nat} (h : i < l.length) : l[i]? = some (l.getD i 0) := by
  rw [List.getD_eq_getElem?_getD, List.getElem?_eq_getElem h]
  rfl
theorem line_period {l : List Nat} {b : Nat} (h : IsLB l b) (i : Nat) (hi : i + (l.length - b) < l.length) : l.getD (i + (l.length - b)) 0 = l.getD i 0 := by
  have hb := h.1
  have e := List.suffix_iff_eq_drop.mp h.2.1
  have hl : (l.take b).length = b := by rw [List.length_take]; omega
  rw [hl] at e
  have e2 := congrArg (fun z : List Nat => z[i]?) e
  simp only [List.getElem?_take, List.getElem?_drop] at e2
  rw [if_pos (by omega)] at e2
  rw [List.getD_eq_getElem?_getD, List.getD_eq_getElem?_getD, e2, Nat.add_comm]
theorem line_mult {l : List Nat} {s : Nat} (h : ∀ i, i + s < l.length → l.getD (i + s) 0 = l.getD i 0) : ∀ (m i : Nat), i + m * s < l.length → l.getD (i + m * s) 0 = l.getD i 0
  | 0, i, _ => by simp
  | m + 1, i, hi => by
    have e : i + (m + 1) * s = (i + m * s) + s := by rw [Nat.succ_mul]; omega
    rw [e] at hi ⊢
    rw [h _ hi]
    exact line_mult h m i (by omega)
theorem round_period {l : List Nat} {s : Nat} (_hs : 0 < s) (hsl : s ≤ l.length) (hd : l.length % s = 0) (h : ∀ i, i + s < l.length → l.getD (i + s) 0 = l.getD i 0) (i : Nat) (hi : i < l.length) : l.getD ((i + s) % l.length) 0 = l.getD i 0 := by
  by_cases hlt : i + s < l.length
  · rw [Nat.mod_eq_of_lt hlt]
    exact h i hlt
  · have e1 : (i + s) % l.length = i + s - l.length := by
      rw [Nat.mod_eq_sub_mod (by omega), Nat.mod_eq_of_lt (by omega)]
    rw [e1]
    obtain ⟨q, hq⟩ : ∃ q, l.length = s * q := ⟨l.length / s, by rw [Nat.mul_div_cancel' (Nat.dvd_of_mod_eq_zero hd)]⟩
    have hq0 : 0 < q := by
      rcases Nat.eq_zero_or_pos q with z | z
      · subst z; omega
      · exact z
    obtain ⟨r, rfl⟩ : ∃ r, q = r + 1 := ⟨q - 1, by omega⟩
    have e2 : l.length = r * s + s := by rw [hq, Nat.mul_succ, Nat.mul_comm]
    have e3 : i = (i + s - l.length) + r * s := by omega
    have := line_mult h r (i + s - l.length) (by omega)
    rw [← e3] at this
    exact this.symm
/-- the told period -/
def per (l : List Nat) (b : Nat) : Nat := if l.length % (l.length - b) = 0 then l.length - b else l.length
theorem per_turns {l : List Nat} {b : Nat} (h : IsLB l b) (i : Nat) (hi : i < l.length) : l.getD ((i + per l b) % l.length) 0 = l.getD i 0 := by
  have hb := h.1
  unfold per
  split
  · exact round_period (by omega) (by omega) (by assumption) (fun j hj => line_period h j hj) i hi
  · rw [Nat.add_mod_right, Nat.mod_eq_of_lt hi]
theorem rd_per {l : List Nat} {b : Nat} (h : IsLB l b) (p n : Nat) : rd l (p + per l b) n = rd l p n := by
  have hb := h.1
  unfold rd
  apply List.map_congr_left
  intro k _
  rw [show p + per l b + k = (p + k) + per l b by omega, ← Nat.mod_add_mod]
  rw [per_turns h ((p + k) % l.length) (Nat.mod_lt _ (by omega))]
theorem per_pos {l : List Nat} {b : Nat} (h : IsLB l b) : 0 < per l b ∧ per l b ≤ l.length := by
  have hb := h.1
  unfold per
  split <;> omega

/-! ### rising lists of the same numbers are one list -/
theorem rising_ext : ∀ {a b : List Int}, a.Pairwise (· < ·) → b.Pairwise (· < ·) → (∀ x, x ∈ a ↔ x ∈ b) → a = b
  | [], [], _, _, _ => rfl
  | [], y :: ys, _, _, h => by have := (h y).mpr (by simp); simp at this
  | x :: xs, [], _, _, h => by have := (h x).mp (by simp); simp at this
  | x :: xs, y :: ys, ha, hb, h => by
    rw [List.pairwise_cons] at ha hb
    have e : x = y := by
      have h1 := (h x).mp (by simp)
      have h2 := (h y).mpr (by simp)
      rw [List.mem_cons] at h1 h2
      rcases h1 with h1 | h1
      · exact h1
      · rcases h2 with h2 | h2
        · exact h2.symm
        · have := ha.1 y h2
          have := hb.1 x h1
          omega
    subst e
    congr 1
    refine rising_ext ha.2 hb.2 fun z => ?_
    constructor
    · intro hz
      have := (h z).mp (List.mem_cons_of_mem _ hz)
      rw [List.mem_cons] at this
      rcases this with rfl | this
      · have := ha.1 _ hz; omega
      · exact this
    · intro hz
      have := (h z).mpr (List.mem_cons_of_mem _ hz)
      rw [List.mem_cons] at this
      rcases this with rfl | this
      · have := hb.1 _ hz; omega
      · exact this
theorem rising_of {s : List Int} (h : s.Pairwise (· ≤ ·)) (n : s.Nodup) : s.Pairwise (· < ·) := by
  have := h.and n
  exact this.imp fun ⟨h1, h2⟩ => by omega
/-- sorted, and the same numbers, none twice: that is it -/
theorem sorted_is {s m d : List Int} (hp : List.Perm s m) (hs : s.Pairwise (· ≤ ·)) (hn : m.Nodup) (hd : d.Pairwise (· < ·)) (h : ∀ x, x ∈ m ↔ x ∈ d) : s = d := by
  refine rising_ext (rising_of hs (hp.nodup_iff.mpr hn)) hd fun x => ?_
  rw [hp.mem_iff]
  exact h x
theorem due_rising (l w : List Nat) : ((due l w).map fun n : Nat => (n : Int)).Pairwise (· < ·) := by
  rw [List.pairwise_map]
  refine List.Pairwise.imp (fun {a b} (h : a < b) => by omega) ?_
  exact List.Pairwise.filter _ List.pairwise_lt_range
end My
namespace My
/-! ### turnings in their order -/
def rot (l : List Nat) (p : Nat) : List Nat := rd l p l.length
theorem rot_len (l : List Nat) (p : Nat) : (rot l p).length = l.length := rd_len _ _ _
def gt (l : List Nat) (i : Nat) : Nat := l.getD (i % l.length) 0
theorem rd_gt (l : List Nat) (p n : Nat) : rd l p n = (List.range n).map fun k => gt l (p + k) := rfl
theorem rd_split (l : List Nat) (p a b : Nat) : rd l p (a + b) = rd l p a ++ rd l (p + a) b := by
  induction b with
  | zero => simp [rd_zero]
  | succ b ih => rw [← Nat.add_assoc, rd_succ, ih, rd_succ, List.append_assoc, Nat.add_assoc]
theorem rd_cons (l : List Nat) (p n : Nat) : rd l p (n + 1) = gt l p :: rd l (p + 1) n := by
  rw [Nat.add_comm n 1, rd_split]
  rfl
theorem rd_congr {l : List Nat} {p q n : Nat} (h : ∀ j, j < n → gt l (p + j) = gt l (q + j)) : rd l p n = rd l q n := by
  rw [rd_gt, rd_gt]
  apply List.map_congr_left
  intro k hk
  exact h k (List.mem_range.mp hk)
theorem gt_congr {l : List Nat} {p q n : Nat} (h : rd l p n = rd l q n) (j : Nat) (hj : j < n) : gt l (p + j) = gt l (q + j) := by
  have e := congrArg (fun z : List Nat => z[j]?) h
  simp only [rd_get _ _ _ _ hj] at e
  exact Option.some.inj e
theorem lt_append {a x y : List Nat} (h : x < y) : a ++ x < a ++ y := by
  induction a with
  | nil => exact h
  | cons c r ih =>
    rw [List.cons_append, List.cons_append, List.cons_lt_cons_iff]
    exact .inr ⟨rfl, ih⟩
/-- alike for k letters, then less: less -/
theorem rot_lt {l : List Nat} {p q k : Nat} (hk : k < l.length) (h : ∀ j, j < k → gt l (p + j) = gt l (q + j)) (hl : gt l (p + k) < gt l (q + k)) : rot l p < rot l q := by
  unfold rot
  rw [show l.length = k + ((l.length - k - 1) + 1) by omega, rd_split l p, rd_split l q, rd_congr h]
  apply lt_append
  rw [rd_cons, rd_cons, List.cons_lt_cons_iff]
  exact .inl hl
def Bad (l : List Nat) (p : Nat) : Prop := ∃ q, rot l q < rot l p
def Opt (l : List Nat) (p : Nat) : Prop := ∀ q, ¬ rot l q < rot l p
theorem opt_bad {l : List Nat} {p : Nat} (h : Opt l p) (b : Bad l p) : False := by
  obtain ⟨q, hq⟩ := b
  exact h q hq
theorem rot_mod (l : List Nat) (p : Nat) : rot l (p % l.length) = rot l p := rd_mod _ _ _
/-- there is a least one -/
theorem opt_ex {l : List Nat} (h0 : 0 < l.length) : ∃ p, p < l.length ∧ Opt l p := by
  have key : ∀ n, 0 < n → ∃ p, p < n ∧ ∀ q, q < n → ¬ rot l q < rot l p := by
    intro n
    induction n with
    | zero => intro h; omega
    | succ n ih =>
      intro _
      rcases Nat.eq_zero_or_pos n with z | z
      · subst z
        refine ⟨0, by omega, fun q hq => ?_⟩
        have e : q = 0 := by omega
        subst e
        exact List.lt_irrefl _
      · obtain ⟨p, hp, hm⟩ := ih z
        by_cases c : rot l n < rot l p
        · refine ⟨n, by omega, fun q hq hlt => ?_⟩
          by_cases e : q = n
          · subst e; exact List.lt_irrefl _ hlt
          · exact hm q (by omega) (List.lt_trans hlt c)
        · refine ⟨p, by omega, fun q hq => ?_⟩
          by_cases e : q = n
          · subst e; exact c
          · exact hm q (by omega)
  obtain ⟨p, hp, hm⟩ := key l.length h0
  refine ⟨p, hp, fun q => ?_⟩
  rw [← rot_mod l q]
  exact hm _ (Nat.mod_lt _ h0)
structure Two (l : List Nat) (one two alike : Nat) : Prop where
  ne : one ≠ two
  in_ : one < l.length ∨ two < l.length
  same : ∀ j, j < alike → gt l (one + j) = gt l (two + j)
  bad : ∀ p, p < max one two → p ≠ one → p ≠ two → Bad l p
  b1 : one ≤ 2 * l.length
  b2 : two ≤ 2 * l.length + 1
  b3 : alike ≤ l.length
theorem two_start {l : List Nat} (h : 0 < l.length) : Two l 0 1 0 := by
  refine ⟨by omega, .inl h, fun j hj => by omega, fun p hp h0 h1 => ?_, by omega, by omega, by omega⟩
  have : max 0 1 = 1 := rfl
  omega
theorem two_alike {l : List Nat} {one two alike : Nat} (h : Two l one two alike) (ha : alike < l.length) (e : gt l (one + alike) = gt l (two + alike)) : Two l one two (alike + 1) := by
  refine ⟨h.ne, h.in_, fun j hj => ?_, h.bad, h.b1, h.b2, by omega⟩
  by_cases c : j = alike
  · subst c; exact e
  · exact h.same j (by omega)
theorem bad_run {l : List Nat} {a b alike : Nat} (ha : alike < l.length) (hs : ∀ j, j < alike → gt l (a + j) = gt l (b + j)) (hg : gt l (b + alike) < gt l (a + alike)) {p : Nat} (h1 : a ≤ p) (h2 : p ≤ a + alike) : Bad l p := by
  refine ⟨b + (p - a), rot_lt (k := alike - (p - a)) (by omega) (fun j hj => ?_) ?_⟩
  · have := hs (p - a + j) (by omega)
    rw [show b + (p - a) + j = b + (p - a + j) by omega, show p + j = a + (p - a + j) by omega]
    exact this.symm
  · rw [show b + (p - a) + (alike - (p - a)) = b + alike by omega, show p + (alike - (p - a)) = a + alike by omega]
    exact hg
theorem two_one {l : List Nat} {one two alike : Nat} (h : Two l one two alike) (h1 : one < l.length) (h2 : two < l.length) (ha : alike < l.length) (hg : gt l (two + alike) < gt l (one + alike)) :
    Two l (one + alike + 1) (if one + alike + 1 = two then two + 1 else two) 0 := by
  have run := fun p => bad_run (p := p) ha h.same hg
  have old := h.bad
  by_cases c : one + alike + 1 = two
  · rw [if_pos c]
    refine ⟨by omega, .inl (by omega), fun j hj => by omega, fun p hp n1 n2 => ?_, by omega, by omega, by omega⟩
    by_cases p1 : p < one
    · exact old p (by omega) (by omega) (by omega)
    · exact run p (by omega) (by omega)
  · rw [if_neg c]
    refine ⟨by omega, .inr h2, fun j hj => by omega, fun p hp n1 n2 => ?_, by omega, by omega, by omega⟩
    by_cases p1 : p < one
    · exact old p (by omega) (by omega) (by omega)
    · by_cases p2 : p ≤ one + alike
      · exact run p (by omega) p2
      · exact old p (by omega) (by omega) n2
theorem two_two {l : List Nat} {one two alike : Nat} (h : Two l one two alike) (h1 : one < l.length) (h2 : two < l.length) (ha : alike < l.length) (hg : gt l (one + alike) < gt l (two + alike)) :
    Two l one (if one = two + alike + 1 then two + alike + 1 + 1 else two + alike + 1) 0 := by
  have run := fun p => bad_run (p := p) ha (fun j hj => (h.same j hj).symm) hg
  have old := h.bad
  by_cases c : one = two + alike + 1
  · rw [if_pos c]
    refine ⟨by omega, .inl h1, fun j hj => by omega, fun p hp n1 n2 => ?_, by omega, by omega, by omega⟩
    by_cases p1 : p < two
    · exact old p (by omega) (by omega) (by omega)
    · exact run p (by omega) (by omega)
  · rw [if_neg c]
    refine ⟨by omega, .inl h1, fun j hj => by omega, fun p hp n1 n2 => ?_, by omega, by omega, by omega⟩
    by_cases p1 : p < two
    · exact old p (by omega) (by omega) (by omega)
    · by_cases p2 : p ≤ two + alike
      · exact run p (by omega) p2
      · exact old p (by omega) n1 (by omega)
theorem rot_shift {l : List Nat} {a b : Nat} (h0 : 0 < l.length) (h : rot l a = rot l b) (i : Nat) : rot l (a + i) = rot l (b + i) := by
  unfold rot at *
  refine rd_congr fun j _ => ?_
  have := gt_congr h ((i + j) % l.length) (Nat.mod_lt _ h0)
  unfold gt at *
  rw [Nat.add_mod_mod, Nat.add_mod_mod] at this
  rw [Nat.add_assoc, Nat.add_assoc]
  exact this
theorem two_end {l : List Nat} {one two alike : Nat} (h0 : 0 < l.length) (h : Two l one two alike) (e : ¬ (one < l.length ∧ two < l.length ∧ alike < l.length)) : min one two < l.length ∧ Opt l (min one two) := by
  obtain ⟨p, hp, ho⟩ := opt_ex h0
  have hne := h.ne
  by_cases c1 : one < l.length
  · by_cases c2 : two < l.length
    · have e3 : rot l one = rot l two := rd_congr fun j hj => h.same j (by omega)
      refine ⟨by omega, ?_⟩
      have both : rot l (min one two) = rot l (max one two) := by
        rcases Nat.lt_or_ge one two with z | z
        · rw [Nat.min_eq_left (by omega), Nat.max_eq_right (by omega)]; exact e3
        · rw [Nat.min_eq_right (by omega), Nat.max_eq_left (by omega)]; exact e3.symm
      have lo_opt : ∀ p, Opt l p → Opt l (min one two) := by
        intro p
        induction p using Nat.strongRecOn with
        | _ p ih =>
          intro ho
          by_cases q1 : p = min one two
          · rw [← q1]; exact ho
          by_cases q2 : p = max one two
          · unfold Opt
            rw [both, ← q2]
            exact ho
          by_cases q3 : p < max one two
          · exact (opt_bad ho (h.bad p q3 (by omega) (by omega))).elim
          · have hs := rot_shift h0 both (p - max one two)
            rw [show max one two + (p - max one two) = p by omega] at hs
            refine ih (min one two + (p - max one two)) (by omega) ?_
            unfold Opt
            rw [hs]
            exact ho
      exact lo_opt p ho
    · have ep : p = one := by
        by_cases q : p = one
        · exact q
        · exact (opt_bad ho (h.bad p (by omega) q (by omega))).elim
      rw [Nat.min_eq_left (by omega), ← ep]
      exact ⟨hp, ho⟩
  · have c2 : two < l.length := by rcases h.in_ with z | z <;> omega
    have ep : p = two := by
      by_cases q : p = two
      · exact q
      · exact (opt_bad ho (h.bad p (by omega) (by omega) q)).elim
    rw [Nat.min_eq_right (by omega), ← ep]
    exact ⟨hp, ho⟩
/-! ### the normal -/
def IsLeast (l m : List Nat) : Prop := ∃ p, p < l.length ∧ m = rot l p ∧ Opt l p
theorem least_unique {l a b : List Nat} (h1 : IsLeast l a) (h2 : IsLeast l b) : a = b := by
  obtain ⟨p, _, rfl, ho⟩ := h1
  obtain ⟨q, _, rfl, hq⟩ := h2
  exact List.le_antisymm (List.not_lt.mp (ho q)) (List.not_lt.mp (hq p))
theorem rot_rot (l : List Nat) (b p : Nat) (h0 : 0 < l.length) : rot (rot l b) p = rot l (b + p) := by
  unfold rot
  rw [rd_len]
  exact rd_turned l b p l.length h0
theorem least_rot {l m : List Nat} {b : Nat} (h0 : 0 < l.length) (h : IsLeast (rot l b) m) : IsLeast l m := by
  obtain ⟨p, hp, rfl, ho⟩ := h
  rw [rot_rot _ _ _ h0]
  refine ⟨(b + p) % l.length, Nat.mod_lt _ h0, (rot_mod _ _).symm, fun q hq => ?_⟩
  rw [rot_mod] at hq
  refine ho (q + (l.length - b % l.length)) ?_
  rw [rot_rot _ _ _ h0, rot_rot _ _ _ h0]
  have e : rot l (b + (q + (l.length - b % l.length))) = rot l q := by
    rw [← rot_mod]
    have h1 := Nat.div_add_mod b l.length
    have h2 : b % l.length < l.length := Nat.mod_lt _ h0
    have e : b + (q + (l.length - b % l.length)) = q + l.length * (b / l.length + 1) := by
      rw [Nat.mul_succ]
      omega
    rw [e, Nat.add_mul_mod_self_left, rot_mod]
  rw [e]
  exact hq
/-- one ring is the other one turned exactly if they have one normal -/
theorem alike_iff {l o a b : List Nat} (h0 : 0 < l.length) (h1 : 0 < o.length) (ha : IsLeast l a) (hb : IsLeast o b) : a = b ↔ ∃ p, p < l.length ∧ o = rot l p := by
  constructor
  · rintro rfl
    obtain ⟨p, _, e1, _⟩ := ha
    obtain ⟨q, hq, e2, _⟩ := hb
    have en : o.length = l.length := by
      have e3 := congrArg List.length e1
      have e4 := congrArg List.length e2
      rw [rot_len] at e3 e4
      omega
    have e5 : rot a (o.length - q) = o := by
      rw [e2, rot_rot _ _ _ h1, show q + (o.length - q) = o.length by omega, ← rot_mod, Nat.mod_self]
      exact rd_self o
    rw [e1, rot_rot _ _ _ h0] at e5
    exact ⟨(p + (o.length - q)) % l.length, Nat.mod_lt _ h0, by rw [rot_mod]; exact e5.symm⟩
  · rintro ⟨p, _, rfl⟩
    exact least_unique ha (least_rot h0 hb)
/-! ### the period is the least -/
theorem rot_zero (l : List Nat) : rot l 0 = l := rd_self l
theorem per_cyc {l : List Nat} {d : Nat} (h0 : 0 < l.length) (h : rot l d = l) (q : Nat) : gt l (q + d) = gt l q := by
  have h2 : rot l d = rot l 0 := by rw [h, rot_zero]
  have h3 := rot_shift h0 h2 q
  have := gt_congr h3 0 (by omega)
  rw [Nat.zero_add, Nat.add_comm d q] at this
  exact this
theorem per_mult {l : List Nat} {d : Nat} (h0 : 0 < l.length) (h : rot l d = l) : ∀ (k q : Nat), gt l (q + k * d) = gt l q
  | 0, q => by simp
  | k + 1, q => by
    rw [Nat.succ_mul, ← Nat.add_assoc, per_cyc h0 h]
    exact per_mult h0 h k q
theorem cyc_rot {l : List Nat} {d : Nat} (h : ∀ q, q < l.length → gt l (q + d) = gt l q) : rot l d = l := by
  have e : rd l d l.length = rd l 0 l.length := rd_congr fun j hj => by rw [Nat.zero_add, Nat.add_comm]; exact h j hj
  unfold rot
  rw [e, rd_self]
theorem least_per {l : List Nat} (h0 : 0 < l.length) : ∃ d, 0 < d ∧ d ≤ l.length ∧ rot l d = l ∧ ∀ p, 0 < p → p < d → rot l p ≠ l := by
  have key : ∀ n, 0 < n → rot l n = l → ∃ d, 0 < d ∧ d ≤ n ∧ rot l d = l ∧ ∀ p, 0 < p → p < d → rot l p ≠ l := by
    intro n
    induction n using Nat.strongRecOn with
    | _ n ih =>
      intro hn hr
      by_cases c : ∃ p, 0 < p ∧ p < n ∧ rot l p = l
      · obtain ⟨p, p0, pn, pr⟩ := c
        obtain ⟨d, d0, dn, dr, dm⟩ := ih p pn p0 pr
        exact ⟨d, d0, by omega, dr, dm⟩
      · exact ⟨n, hn, Nat.le_refl _, hr, fun p p0 pn pr => c ⟨p, p0, pn, pr⟩⟩
  exact key l.length h0 (by rw [← rot_mod, Nat.mod_self, rot_zero])
theorem per_divides {l : List Nat} {d : Nat} (h0 : 0 < l.length) (d0 : 0 < d) (hr : rot l d = l) (hm : ∀ p, 0 < p → p < d → rot l p ≠ l) : l.length % d = 0 := by
  by_cases c : l.length % d = 0
  · exact c
  · exfalso
    have hlt : l.length % d < d := Nat.mod_lt _ d0
    refine hm (l.length % d) (by omega) hlt (cyc_rot fun q _ => ?_)
    have e := Nat.div_add_mod l.length d
    have h1 := per_mult h0 hr (l.length / d) (q + l.length % d)
    rw [← h1, show q + l.length % d + l.length / d * d = q + l.length by rw [Nat.mul_comm (l.length / d) d]; omega]
    unfold gt
    rw [Nat.add_mod_right]
theorem gt_lt {l : List Nat} {i : Nat} (h : i < l.length) : gt l i = l.getD i 0 := by
  unfold gt
  rw [Nat.mod_eq_of_lt h]
theorem per_is {l : List Nat} {b d : Nat} (h : IsLB l b) (d0 : 0 < d) (dn : d ≤ l.length) (hr : rot l d = l) (hm : ∀ p, 0 < p → p < d → rot l p ≠ l) : per l b = d := by
  have hb := h.1
  have h0 : 0 < l.length := by omega
  have sd : l.length - b ≤ d := by
    by_cases c : d = l.length
    · omega
    · have e : rd l d l.length = l := hr
      rw [rd_turn l d (by omega)] at e
      have e2 : l.take (l.length - d) = l.drop d := by
        have := congrArg (List.take (l.length - d)) e
        rw [List.take_append_of_le_length (by rw [List.length_drop]; omega), List.take_of_length_le (by rw [List.length_drop]; omega)] at this
        exact this.symm
      have hs : l.take (l.length - d) <:+ l := by
        rw [e2]
        exact List.drop_suffix _ _
      have := h.2.2 (l.length - d) (by omega) hs
      omega
  have back : (∀ q, q < l.length → gt l (q + (l.length - b)) = gt l q) → d ≤ l.length - b := fun hc => by
    by_cases c : d ≤ l.length - b
    · exact c
    · exact absurd (cyc_rot hc) (hm _ (by omega) (by omega))
  have hline := line_period h
  unfold per
  split
  · rename_i c
    have := back fun q hq => by
      unfold gt
      rw [Nat.mod_eq_of_lt hq]
      exact round_period (by omega) (by omega) c hline q hq
    omega
  · rename_i c
    by_cases cd : d = l.length
    · exact cd.symm
    · exfalso
      have dd := per_divides h0 d0 hr hm
      have d2 : d + d ≤ l.length := by
        have e := Nat.div_add_mod l.length d
        rw [dd, Nat.add_zero] at e
        have q2 : 2 ≤ l.length / d := by
          rcases Nat.lt_or_ge (l.length / d) 2 with z | z
          · exfalso
            have : l.length / d = 0 ∨ l.length / d = 1 := by
              generalize l.length / d = x at z ⊢
              omega
            rcases this with z | z <;> rw [z] at e <;> omega
          · exact z
        have := Nat.mul_le_mul_left d q2
        omega
      have hcyc : ∀ q, q < l.length → gt l (q + (l.length - b)) = gt l q := fun q hq => by
        by_cases c1 : q + (l.length - b) < l.length
        · rw [gt_lt c1, gt_lt hq]
          exact hline q c1
        · have e1 : gt l q = gt l (q - d) := by
            have := per_cyc h0 hr (q - d)
            rw [show q - d + d = q by omega] at this
            exact this
          have e2 : gt l (q - d + (l.length - b)) = gt l (q - d) := by
            rw [gt_lt (by omega), gt_lt (by omega)]
            exact hline (q - d) (by omega)
          have e3 := per_cyc h0 hr (q - d + (l.length - b))
          rw [show q - d + (l.length - b) + d = q + (l.length - b) by omega] at e3
          rw [e3, e2, e1]
      have := back hcyc
      have e : d = l.length - b := by omega
      rw [← e] at c
      exact c dd
theorem per_facts {l : List Nat} {b : Nat} (h : IsLB l b) : 0 < per l b ∧ per l b ≤ l.length ∧ rot l (per l b) = l ∧ (∀ p, 0 < p → p < per l b → rot l p ≠ l) ∧ l.length % per l b = 0 := by
  have h0 : 0 < l.length := by have := h.1; omega
  obtain ⟨d, d0, dn, dr, dm⟩ := least_per h0
  rw [per_is h d0 dn dr dm]
  exact ⟨d0, dn, dr, dm, per_divides h0 d0 dr dm⟩
/-- as many unlike turnings as the period -/
theorem rot_per {l : List Nat} {d : Nat} (h0 : 0 < l.length) (_d0 : 0 < d) (h : rot l d = l) (p : Nat) : rot l p = rot l (p % d) := by
  unfold rot
  refine rd_congr fun j _ => ?_
  have e := Nat.div_add_mod p d
  have := per_mult h0 h (p / d) (p % d + j)
  rw [← this, show p % d + j + p / d * d = p + j by rw [Nat.mul_comm (p / d) d]; omega]
theorem rot_unlike {l : List Nat} {d : Nat} (h0 : 0 < l.length) (dn : d ≤ l.length) (hm : ∀ p, 0 < p → p < d → rot l p ≠ l) {p q : Nat} (hp : p < q) (hq : q < d) : rot l p ≠ rot l q := by
  intro e
  have h1 := rot_shift h0 e (l.length - p)
  rw [show p + (l.length - p) = l.length by omega, ← rot_mod, Nat.mod_self, rot_zero, ← rot_mod, show q + (l.length - p) = (q - p) + l.length by omega, Nat.add_mod_right, rot_mod] at h1
  exact hm (q - p) (by omega) (by omega) h1.symm
/-- the root again and again -/
theorem root_again {l : List Nat} {d : Nat} (h0 : 0 < l.length) (h : rot l d = l) : ∀ k, k * d ≤ l.length → (List.replicate k (l.take d)).flatten = l.take (k * d)
  | 0, _ => by simp
  | k + 1, hk => by
    rw [Nat.succ_mul] at hk
    rw [List.replicate_succ', List.flatten_append, root_again h0 h k (by omega), List.flatten_singleton, Nat.succ_mul, List.take_add]
    congr 1
    apply List.ext_getElem?
    intro i
    by_cases hi : i < d
    · rw [List.getElem?_take_of_lt hi, List.getElem?_take_of_lt hi, List.getElem?_drop, getD_lt (by omega), getD_lt (by omega)]
      have := per_mult h0 h k i
      rw [gt_lt (by omega), gt_lt (by omega)] at this
      rw [Nat.add_comm (k * d) i, this]
    · rw [List.getElem?_eq_none (by rw [List.length_take]; omega), List.getElem?_eq_none (by rw [List.length_take, List.length_drop]; omega)]
end My
namespace My
open PySem L2 PyProof.Rows
/-- a text by its letters -/
abbrev T (l : List Nat) : V := .str ⟨l.toArray⟩
section
variable {X : Cx}
theorem mul_flat (l : List Nat) (n : Nat) : ((List.replicate n l.toArray).foldl (· ++ ·) (#[] : Array Nat)) = (List.replicate n l).flatten.toArray := by
  have h : ∀ (m : Nat) (acc : List Nat), (List.replicate m l.toArray).foldl (· ++ ·) acc.toArray = (acc ++ (List.replicate m l).flatten).toArray := by
    intro m
    induction m with
    | zero => intro acc; simp
    | succ m ih =>
      intro acc
      rw [List.replicate_succ, List.foldl_cons]
      have e : acc.toArray ++ l.toArray = (acc ++ l).toArray := by simp
      rw [e, ih, List.replicate_succ, List.flatten_cons, List.append_assoc]
  have := h n []
  simpa using this
theorem op_mul_str : OpR X (binaryOp .Mult) (fun x y H Q => ∃ l n, x = T l ∧ y = .int (n : Nat) ∧ 1 ≤ n ∧ n ≤ 1000 ∧ l.length ≤ 1000 ∧ Q (T (List.replicate n l).flatten) H) := by
  intro pins s σ H x y v u Q I rx ry h
  obtain ⟨l, n, rfl, rfl, h1, h2, h3, q⟩ := h
  obtain ⟨t, rfl⟩ := rx
  obtain ⟨t', rfl⟩ := ry
  have hlen : (⟨l.toArray⟩ : Str).length = l.length := by simp [Str.length]
  have ok : MulOk ⟨l.toArray⟩ (n : Int) := by
    refine ⟨?_, fun _ _ => ?_, fun _ _ => ?_⟩
    · have a1 : decide ((n : Int) < -(2 ^ 63 : Int)) = false := decide_eq_false (by omega)
      have a2 : decide ((n : Int) ≥ 2 ^ 63) = false := decide_eq_false (by omega)
      rw [a1, a2]
      rfl
    · rw [hlen]
      have : (1000000 : Int) ≤ (2 ^ 63 - 1) / (n : Int) := by
        rw [Int.le_ediv_iff_mul_le (by omega)]
        omega
      omega
    · rw [hlen]
      have e : (n : Int).toNat = n := by omega
      rw [e]
      have : l.length * n ≤ 1000 * 1000 := Nat.mul_le_mul h3 h2
      have z : (1000000 : Nat) ≤ sizeLine := by decide
      simp [Builtin.Str.tooLong]
      omega
  refine SB.mul ok fun t'' k => ?_
  have em : Txt.mul ⟨l.toArray⟩ (n : Int) = ⟨(List.replicate n l).flatten.toArray⟩ := by
    unfold Txt.mul
    rw [if_neg (by omega)]
    split
    · rename_i c
      rw [hlen] at c
      simp at c
      rcases c with c | c
      · have : n = 1 := by omega
        subst this
        simp
      · subst c
        simp
    · have e : (n : Int).toNat = n := by omega
      rw [e]
      exact congrArg Str.mk (mul_flat l n)
  rw [em]
  exact ⟨.str _, H, I.tok _, ⟨_, rfl⟩, q⟩
theorem call_repr_bl : CallR X (.builtin "repr") (fun xs H Q => ∃ b, xs = [.bl b] ∧ Q (.str (if b then "True" else "False")) H) := by
  intro pins s σ H xs us Q I r h
  obtain ⟨b, rfl, q⟩ := h
  obtain ⟨u, rfl, e⟩ := vals1 r
  cases e
  exact PySem.P.repr_of_bool ⟨.str _, H, I.tok _, ⟨_, rfl⟩, q⟩
/-- a module's constant that is an int -/
theorem pe_globI {x : Str} {n : Int} {pos : Pos} (h : ∃ t, X.mg x = some (.int n t)) (hg : Gl X x := by rfl) (hd : (x == ("__debug__" : Str)) = false := by decide) : PE X (.Name x pos) (tC (.int n)) := by
  obtain ⟨t, e⟩ := h
  exact pe_glob (v := .int n) hg e ⟨t, rfl⟩ hd
variable {CX : CXT} {k : Nat} {f : Addr} {fd : FuncData} {ps ks : List Str} {sp : Sp} {E : XK} {x : Str} {p pos : Pos} {kws : List Keyword} {tk : TA} {g : List Value → List Value → List Value} {gV : List V → List V → List V}
/-- f(a=.., b=..) -/
theorem pe_callKK (F : FnOk X.prog X.w X.K X.mg X.base CX k f fd ps sp) (hr : Room k X.A) (hg : Gl X x) (hm : X.mg x = some (.ref f)) (hk : PySem.W.keepIn X.K (.ref f) = true) (hb : KBinds X.K fd ps ks g gV) (hx : Passes CX X E)
    (hkw : PK X kws tk) (hall : (backToKw pos (keywordEach kws X.env)).all (·.1.isSome) = true := by rfl) (hks : (backToKw pos (keywordEach kws X.env)).filterMap (·.1) = ks := by rfl)
    (hdb : (x == ("__debug__" : Str)) = false := by decide)
    (hpl : ((backTo pos (starEach [] X.env)).any (·.1) || (backToKw pos (keywordEach kws X.env)).any (·.1.isNone)) = false := by rfl) :
    PE X (.Call (.Name x p) [] kws pos) (tCallK sp gV E tNil tk) := by
  refine ⟨fun pins s σ H Q I h => ?_⟩
  refine wpAny_Call_Name_kw (ld_glob I hg hm ?_ hdb)
  refine PySem.W.callWith_KW0 (h₀ := X.base) I.ok.mod.kin hk hall (thn (hkw.run pos pins s σ H _ I h) fun ws s2 ⟨zs, H2, I2, rz, q2⟩ => ⟨I2.kIn, ?_⟩) hpl
  rw [hks]
  exact run_fnk F hr hb hx I2 .nil rz q2
end
/-! ### a def that stands, and one that keeps a promise -/
def Def (K : PySem.W.Frag) (mg : Str → Option Value) (x : Str) (st : Stmt) (ps : List Str) : Prop := ∃ (f : Addr) (fd : FuncData), Fun K x x st f fd ∧ mg x = some (.ref f) ∧ Binds K fd ps []
section
variable {P : Program} {w : World} {K : PySem.W.Frag} {mg : Str → Option Value} {base : Heap}
def Good (P : Program) (w : World) (K : PySem.W.Frag) (mg : Str → Option Value) (base : Heap) (x : Str) (st : Stmt) (ps : List Str) (k : Nat) (sp : Sp) : Prop := ∃ (f : Addr) (fd : FuncData), FnOk P w K mg base CX0 k f fd ps sp ∧ mg x = some (.ref f) ∧ PySem.W.keepIn K (.ref f) = true ∧ Binds K fd ps [] ∧ Fun K x x st f fd
theorem Def.good {x : Str} {st : Stmt} {ps : List Str} {k : Nat} {sp : Sp} (D : Def K mg x st ps) (h : ∀ f fd, Fun K x x st f fd → FnOk P w K mg base CX0 k f fd ps sp) : Good P w K mg base x st ps k sp := by
  obtain ⟨f, fd, F, m, b⟩ := D
  exact ⟨f, fd, h f fd F, m, F.kp, b, F⟩
theorem def_mk {h : Heap} (X : K.In h) (G : h.Ns mainGlobals mg) {x : Str} {st : Stmt} {ps : List Str} {f : Addr} {oc : Value} {od an : Option Addr} {osl : Array (Option Value)} {kV doc pm cdv ct : Value} (a : PySem.W.nsIn K mainGlobals x = some (some (.ref f)))
    (l : K.lookup f = some ⟨oc, od, .func (PySem.W.fnOf x x (defArgs st) (defBody st) (defScope st) .none kV doc pm an cdv ct), osl⟩) (c : PySem.W.codeIn K cdv x = true) (k : PySem.W.keepIn K (.ref f) = true)
    (hb : ∀ (kV doc pm : Value) (an : Option Addr) (cdv ct : Value) (us : List Value), us.length = ps.length → bindArgs (PySem.W.fnOf x x (defArgs st) (defBody st) (defScope st) .none kV doc pm an cdv ct) ⟨us, []⟩ = pure (ps.zip us)) : Def K mg x st ps :=
  ⟨f, _, fun_mk l c k, PySem.W.mg_of X G a, (fun_mk l c k).binds hb⟩
theorem fun_kbinds {x qual : Str} {st : Stmt} {f : Addr} {fd : FuncData} {ps ks : List Str} (F : Fun K x qual st f fd) (g : List Value → List Value → List Value) (gV : List V → List V → List V)
    (hrel : ∀ {vs : List V} {us : List Value} {zs : List V} {ws : List Value}, Vals vs us → Vals zs ws → Vals (gV vs zs) (g us ws))
    (h : ∀ (kV doc pm : Value) (an : Option Addr) (cdv ct : Value) (us ws : List Value), (g us ws).length = ps.length → bindArgs (PySem.W.fnOf x qual (defArgs st) (defBody st) (defScope st) .none kV doc pm an cdv ct) ⟨us, ks.zip ws⟩ = pure (ps.zip (g us ws))) : KBinds K fd ps ks g gV := by
  obtain ⟨oc, od, kV, doc, pm, an, cdv, ct, osl, rfl, lk, hcd⟩ := F.ex
  exact ⟨fun s us ws X hl => .of_eq (h kV doc pm an cdv ct us ws hl), hrel⟩
/-- two keywords, in the parameters' order, or turned; one -/
def g12 {α : Type} : List α → List α → List α | [], [a, b] => [a, b] | _, _ => []
def g21 {α : Type} : List α → List α → List α | [], [a, b] => [b, a] | _, _ => []
def g1 {α : Type} : List α → List α → List α | [], [a] => [a] | _, _ => []
theorem g12_inv {α : Type} {us ws : List α} (h : (g12 us ws).length = 2) : us = [] ∧ ∃ a b, ws = [a, b] := by
  match us, ws, h with
  | [], [a, b], _ => exact ⟨rfl, a, b, rfl⟩
  | [], [], h => exact absurd h (by simp [g12, g21, g1])
  | [], [_], h => exact absurd h (by simp [g12])
  | [], _ :: _ :: _ :: _, h => exact absurd h (by simp [g12])
  | _ :: _, _, h => exact absurd h (by simp [g12])
theorem g21_inv {α : Type} {us ws : List α} (h : (g21 us ws).length = 2) : us = [] ∧ ∃ a b, ws = [a, b] := by
  match us, ws, h with
  | [], [a, b], _ => exact ⟨rfl, a, b, rfl⟩
  | [], [], h => exact absurd h (by simp [g12, g21, g1])
  | [], [_], h => exact absurd h (by simp [g21])
  | [], _ :: _ :: _ :: _, h => exact absurd h (by simp [g21])
  | _ :: _, _, h => exact absurd h (by simp [g21])
theorem g1_inv {α : Type} {us ws : List α} (h : (g1 us ws).length = 1) : us = [] ∧ ∃ a, ws = [a] := by
  match us, ws, h with
  | [], [a], _ => exact ⟨rfl, a, rfl⟩
  | [], [], h => exact absurd h (by simp [g12, g21, g1])
  | [], _ :: _ :: _, h => exact absurd h (by simp [g1])
  | _ :: _, _, h => exact absurd h (by simp [g1])
theorem rel12 {vs : List V} {us : List Value} {zs : List V} {ws : List Value} (a : Vals vs us) (b : Vals zs ws) : Vals (g12 vs zs) (g12 us ws) := by
  cases a with
  | nil =>
    cases b with
    | nil => exact .nil
    | cons r b =>
      cases b with
      | nil => exact .nil
      | cons r2 b =>
        cases b with
        | nil => exact .cons r (.cons r2 .nil)
        | cons r3 b => exact .nil
  | cons r a => exact .nil
theorem rel21 {vs : List V} {us : List Value} {zs : List V} {ws : List Value} (a : Vals vs us) (b : Vals zs ws) : Vals (g21 vs zs) (g21 us ws) := by
  cases a with
  | nil =>
    cases b with
    | nil => exact .nil
    | cons r b =>
      cases b with
      | nil => exact .nil
      | cons r2 b =>
        cases b with
        | nil => exact .cons r2 (.cons r .nil)
        | cons r3 b => exact .nil
  | cons r a => exact .nil
theorem rel1 {vs : List V} {us : List Value} {zs : List V} {ws : List Value} (a : Vals vs us) (b : Vals zs ws) : Vals (g1 vs zs) (g1 us ws) := by
  cases a with
  | nil =>
    cases b with
    | nil => exact .nil
    | cons r b =>
      cases b with
      | nil => exact .cons r .nil
      | cons r3 b => exact .nil
  | cons r a => exact .nil
end
end My
namespace My
/-! ### columns: the last letters of the sorted turnings -/
theorem countP_none {α : Type} {P : α → Bool} {l : List α} (h : ∀ a ∈ l, P a ≠ true) : l.countP P = 0 := List.countP_eq_zero.mpr h
/-- a wish that falls along a list cuts it -/
theorem take_filter {α : Type} {P : α → Bool} : ∀ {l : List α}, l.Pairwise (fun a b => P b = true → P a = true) → l.take (l.countP P) = l.filter P
  | [], _ => rfl
  | a :: r, h => by
    obtain ⟨h1, h2⟩ := List.pairwise_cons.mp h
    by_cases c : P a = true
    · rw [List.countP_cons_of_pos c, List.filter_cons_of_pos c, List.take_succ_cons, take_filter h2]
    · have hr : ∀ b ∈ r, P b ≠ true := fun b hb z => c (h1 b hb z)
      rw [List.countP_cons_of_neg c, List.filter_cons_of_neg c, ← take_filter h2, countP_none hr]
      rfl
theorem cut_at {α : Type} {P : α → Bool} : ∀ {l : List α} {i : Nat} {a : α}, l.Pairwise (fun a b => P b = true → P a = true) → l[i]? = some a → (i < l.countP P ↔ P a = true)
  | [], _, _, _, h => by simp at h
  | b :: r, i, a, h, hi => by
    obtain ⟨h1, h2⟩ := List.pairwise_cons.mp h
    by_cases c : P b = true
    · rw [List.countP_cons_of_pos c]
      cases i with
      | zero =>
        have : b = a := by simpa using hi
        subst this
        exact ⟨fun _ => c, fun _ => by omega⟩
      | succ i =>
        have hi : r[i]? = some a := by simpa using hi
        rw [← cut_at h2 hi]
        omega
    · have hr : ∀ b ∈ r, P b ≠ true := fun b hb z => c (h1 b hb z)
      rw [List.countP_cons_of_neg c, countP_none hr]
      refine ⟨fun z => by omega, fun z => ?_⟩
      exfalso
      cases i with
      | zero =>
        have : b = a := by simpa using hi
        subst this
        exact c z
      | succ i => exact hr a (List.mem_of_getElem? (by simpa using hi)) z
theorem countP_or {α : Type} {P Q R : α → Bool} : ∀ {l : List α}, (∀ a ∈ l, R a = (P a || Q a)) → (∀ a ∈ l, P a = true → Q a = false) → l.countP R = l.countP P + l.countP Q
  | [], _, _ => rfl
  | a :: r, h, k => by
    have ih := countP_or (l := r) (fun b hb => h b (List.mem_cons_of_mem _ hb)) (fun b hb => k b (List.mem_cons_of_mem _ hb))
    have h1 := h a List.mem_cons_self
    have k1 := k a List.mem_cons_self
    rw [List.countP_cons, List.countP_cons, List.countP_cons, ih, h1]
    cases hp : P a
    · cases hq : Q a <;> simp <;> omega
    · rw [k1 hp]
      simp
      omega
theorem count_shift {n : Nat} : ∀ (s : Nat) {g : Nat → Bool}, (∀ j, g (j % n) = g j) → (List.range n).countP (fun p => g (p + s)) = (List.range n).countP g
  | 0, _, _ => rfl
  | s + 1, g, hg => by
    have h1 : ∀ j, (fun p => g (p + 1)) (j % n) = (fun p => g (p + 1)) j := fun j => by
      show g (j % n + 1) = g (j + 1)
      rw [← hg (j % n + 1), Nat.mod_add_mod, hg]
    have h2 := count_shift s (g := fun p => g (p + 1)) h1
    have h3 : (fun p => g (p + (s + 1))) = fun p => (fun p => g (p + 1)) (p + s) := rfl
    rw [h3, h2]
    cases n with
    | zero => rfl
    | succ m =>
      rw [List.range_succ_eq_map, List.countP_cons, List.countP_cons, List.countP_map]
      have e1 : (List.map Nat.succ (List.range m)).countP (fun p => g (p + 1)) + (if g (0 + 1) = true then 1 else 0) = (List.range (m + 1)).countP (fun p => g (p + 1)) := by
        rw [List.range_succ_eq_map, List.countP_cons]
      rw [List.countP_map] at e1
      rw [e1, List.range_succ, List.countP_append, List.countP_singleton]
      have e2 : g (m + 1) = g 0 := by rw [← hg (m + 1), Nat.mod_self]
      rw [e2, List.countP_map]
      rfl
def ordLe (r : List Nat) (p q : Nat) : Bool := decide (rot r p ≤ rot r q)
/-- the places, sorted by their turnings -/
def ord (r : List Nat) : List Nat := (List.range r.length).mergeSort (ordLe r)
theorem ord_perm (r : List Nat) : (ord r).Perm (List.range r.length) := List.mergeSort_perm _ _
theorem ord_len (r : List Nat) : (ord r).length = r.length := by rw [(ord_perm r).length_eq, List.length_range]
theorem ord_lt {r : List Nat} {i p : Nat} (h : (ord r)[i]? = some p) : p < r.length := List.mem_range.mp ((ord_perm r).mem_iff.mp (List.mem_of_getElem? h))
theorem ord_sorted (r : List Nat) : (ord r).Pairwise (fun p q => rot r p ≤ rot r q) := by
  have h := List.pairwise_mergeSort (le := ordLe r) (fun a b c h1 h2 => decide_eq_true (List.le_trans (of_decide_eq_true h1) (of_decide_eq_true h2))) (fun a b => by
    rcases List.le_total (rot r a) (rot r b) with z | z
    · rw [show ordLe r a b = true from decide_eq_true z]; rfl
    · rw [show ordLe r b a = true from decide_eq_true z, Bool.or_true]) (List.range r.length)
  exact h.imp fun z => of_decide_eq_true z
theorem gt_all {r : List Nat} {p q : Nat} (h0 : 0 < r.length) (h : rot r p = rot r q) (i : Nat) : gt r (p + i) = gt r (q + i) := by
  have := gt_congr (rot_shift h0 h i) 0 (by omega)
  simpa using this
theorem rd_mono {r : List Nat} {p q : Nat} (h0 : 0 < r.length) (h : rot r p ≤ rot r q) (m : Nat) : rd r p m ≤ rd r q m := by
  refine List.not_lt.mp fun z => ?_
  rw [List.lt_iff_exists] at z
  rcases z with ⟨_, z⟩ | ⟨i, h1, h2, h3, h4⟩
  · rw [rd_len, rd_len] at z; omega
  rw [rd_len] at h1
  have get : ∀ (p j : Nat) (hj : j < (rd r p m).length), (rd r p m)[j] = gt r (p + j) := fun p j hj => by
    have h5 := rd_get r p m j (by rw [rd_len] at hj; exact hj)
    rw [List.getElem?_eq_getElem hj] at h5
    exact Option.some.inj h5
  rw [get, get] at h4
  have h5 : ∀ j, j < i → gt r (q + j) = gt r (p + j) := fun j hj => by
    have := h3 j hj
    rwa [get, get] at this
  by_cases c : i < r.length
  · exact absurd (rot_lt c h5 h4) (List.not_lt.mpr h)
  · have e : rot r q = rot r p := rd_congr fun j hj => h5 j (by omega)
    rw [gt_all h0 e i] at h4
    exact absurd h4 (Nat.lt_irrefl _)
def col (r : List Nat) : List Nat := (ord r).map fun p => gt r (p + (r.length - 1))
theorem col_len (r : List Nat) : (col r).length = r.length := by rw [col, List.length_map, ord_len]
theorem col_get {r : List Nat} {i p : Nat} (h : (ord r)[i]? = some p) : (col r)[i]? = some (gt r (p + (r.length - 1))) := by
  rw [col, List.getElem?_map, h]
  rfl
theorem gt_mod (r : List Nat) (j : Nat) : gt r (j % r.length) = gt r j := by unfold gt; rw [Nat.mod_mod]
theorem gt_mem {r : List Nat} (h0 : 0 < r.length) (j : Nat) : gt r j ∈ r := by
  unfold gt
  rw [List.getD_eq_getElem?_getD, List.getElem?_eq_getElem (Nat.mod_lt _ h0)]
  exact List.getElem_mem _
theorem col_mem {r : List Nat} (h0 : 0 < r.length) {c : Nat} (h : c ∈ col r) : c ∈ r := by
  obtain ⟨p, _, rfl⟩ := List.mem_map.mp h
  exact gt_mem h0 _
/-- an order of words: less, or at most -/
structure Cmp (R : List Nat → List Nat → Bool) : Prop where
  cons : ∀ a c x w, R (a :: x) (c :: w) = (decide (a < c) || (decide (a = c) && R x w))
  mono : ∀ x y w, x ≤ y → R y w = true → R x w = true
def ltR (x w : List Nat) : Bool := decide (x < w)
def leR (x w : List Nat) : Bool := decide (x ≤ w)
theorem cmp_lt : Cmp ltR := by
  refine ⟨fun a c x w => ?_, fun x y w h k => decide_eq_true (List.lt_of_le_of_lt h (of_decide_eq_true k))⟩
  rw [Bool.eq_iff_iff]
  simp [ltR, List.cons_lt_cons_iff]
theorem cmp_le : Cmp leR := by
  refine ⟨fun a c x w => ?_, fun x y w h k => decide_eq_true (List.le_trans h (of_decide_eq_true k))⟩
  rw [Bool.eq_iff_iff]
  simp [leR, List.cons_le_cons_iff]
/-- how many rows are so -/
def cut (R : List Nat → List Nat → Bool) (r w : List Nat) : Nat := (ord r).countP fun p => R (rd r p w.length) w
theorem cut_pair {R : List Nat → List Nat → Bool} (C : Cmp R) {r : List Nat} (h0 : 0 < r.length) (w : List Nat) : (ord r).Pairwise (fun p q => R (rd r q w.length) w = true → R (rd r p w.length) w = true) :=
  (ord_sorted r).imp fun h k => C.mono _ _ _ (rd_mono h0 h _) k
theorem cut_le (R : List Nat → List Nat → Bool) (r w : List Nat) : cut R r w ≤ r.length := by
  have := List.countP_le_length (p := fun p => R (rd r p w.length) w) (l := ord r)
  rw [ord_len] at this
  exact this
theorem cut_row {R : List Nat → List Nat → Bool} (C : Cmp R) {r w : List Nat} (h0 : 0 < r.length) {i p : Nat} (h : (ord r)[i]? = some p) : i < cut R r w ↔ R (rd r p w.length) w = true := cut_at (cut_pair C h0 w) h
theorem lt_nil (r : List Nat) : cut ltR r [] = 0 := countP_none fun p _ => by simp [ltR, rd_zero]
theorem le_nil (r : List Nat) : cut leR r [] = r.length := by
  rw [cut, List.countP_eq_length.mpr fun p _ => by simp [leR, rd_zero], ord_len]
theorem cut_cons {R : List Nat → List Nat → Bool} (C : Cmp R) {r : List Nat} (h0 : 0 < r.length) (c : Nat) (w : List Nat) : cut R r (c :: w) = (col r).countP (fun a => decide (a < c)) + ((col r).take (cut R r w)).count c := by
  have e1 : (col r).countP (fun a => decide (a < c)) = (List.range r.length).countP fun p => decide (gt r p < c) := by
    rw [col, List.countP_map, (ord_perm r).countP_eq]
    exact count_shift (r.length - 1) (g := fun p => decide (gt r p < c)) fun j => by rw [gt_mod]
  have e2 : ((col r).take (cut R r w)).count c = (List.range r.length).countP fun p => (gt r p == c) && R (rd r (p + 1) w.length) w := by
    rw [col, ← List.map_take, cut, take_filter (cut_pair C h0 w), List.count_eq_countP, List.countP_map, List.countP_filter, (ord_perm r).countP_eq, ← count_shift (r.length - 1) (g := fun p => (gt r p == c) && R (rd r (p + 1) w.length) w)]
    · refine List.countP_congr fun p _ => ?_
      have : rd r (p + (r.length - 1) + 1) w.length = rd r p w.length := by
        rw [← rd_mod r (p + (r.length - 1) + 1), show p + (r.length - 1) + 1 = p + r.length by omega, Nat.add_mod_right, rd_mod]
      rw [this]
      rfl
    · intro j
      have : rd r (j % r.length + 1) w.length = rd r (j + 1) w.length := by
        rw [← rd_mod r (j % r.length + 1), Nat.mod_add_mod, rd_mod]
      rw [gt_mod, this]
  rw [e1, e2, cut, (ord_perm r).countP_eq]
  refine countP_or (fun p _ => ?_) (fun p _ h => ?_)
  · rw [List.length_cons, rd_cons, C.cons]
    rfl
  · have : gt r p < c := of_decide_eq_true h
    have e : (gt r p == c) = false := by simp; omega
    rw [e]
    rfl
theorem lt_le (r w : List Nat) : cut leR r w = cut ltR r w + (due r w).length := by
  have e : (due r w).length = (ord r).countP fun p => rd r p w.length == w := by
    rw [(ord_perm r).countP_eq, List.countP_eq_length_filter]
    rfl
  rw [e]
  refine countP_or (fun p _ => ?_) (fun p _ h => ?_)
  · rw [Bool.eq_iff_iff]
    simp only [leR, ltR, Bool.or_eq_true, decide_eq_true_eq, beq_iff_eq]
    constructor
    · intro h
      by_cases c : rd r p w.length = w
      · exact .inr c
      · refine .inl ?_
        by_cases z : rd r p w.length < w
        · exact z
        · exact absurd (List.le_antisymm h (List.not_lt.mp z)) c
    · rintro (h | h)
      · exact List.le_of_lt h
      · rw [h]; exact List.le_refl _
  · have h := of_decide_eq_true h
    cases e : rd r p w.length == w with
    | false => rfl
    | true => rw [beq_iff_eq.mp e] at h; exact absurd h (List.lt_irrefl _)
theorem row_is {r w : List Nat} (h0 : 0 < r.length) {i p : Nat} (h : (ord r)[i]? = some p) : rd r p w.length = w ↔ cut ltR r w ≤ i ∧ i < cut leR r w := by
  have h1 := cut_row cmp_lt (w := w) h0 h
  have h2 := cut_row cmp_le (w := w) h0 h
  have h3 : ltR (rd r p w.length) w = true ↔ rd r p w.length < w := by simp [ltR]
  have h4 : leR (rd r p w.length) w = true ↔ rd r p w.length ≤ w := by simp [leR]
  rw [h3] at h1
  rw [h4] at h2
  rw [h2, ← Nat.not_lt, h1]
  constructor
  · intro e
    rw [e]
    exact ⟨List.lt_irrefl _, List.le_refl _⟩
  · rintro ⟨a, b⟩
    exact List.le_antisymm b (List.not_lt.mp a)
theorem range_cut {a b : Nat} : ∀ n, b ≤ n → (List.range n).filter (fun k => decide (a ≤ k ∧ k < b)) = List.range' a (b - a)
  | 0, h => by
    have : b = 0 := by omega
    subst this
    simp
  | n + 1, h => by
    rw [List.range_succ, List.filter_append]
    by_cases c : b ≤ n
    · rw [range_cut n c, List.filter_cons_of_neg (by simp; omega)]
      simp
    · have e : b = n + 1 := by omega
      subst e
      have ih := range_cut (a := a) (b := n) n (Nat.le_refl _)
      have e2 : (List.range n).filter (fun k => decide (a ≤ k ∧ k < n + 1)) = (List.range n).filter (fun k => decide (a ≤ k ∧ k < n)) := List.filter_congr fun k hk => by
        have := List.mem_range.mp hk
        simp only [decide_eq_decide]
        omega
      rw [e2, ih]
      by_cases c2 : a ≤ n
      · rw [List.filter_cons_of_pos (by simp; omega), show n + 1 - a = (n - a) + 1 by omega, List.range'_concat]
        simp
        omega
      · rw [List.filter_cons_of_neg (by simp; omega), show n - a = 0 by omega, show n + 1 - a = 0 by omega]
        rfl
/-! ### formers -/
def lf (c : List Nat) (i : Nat) : Nat := c.countP (fun a => decide (a < c.getD i 0)) + (c.take i).count (c.getD i 0)
theorem count_take {l : List Nat} {a b : Nat} (h : a ≤ b) (c : Nat) : (l.take a).count c ≤ (l.take b).count c := by
  refine List.Sublist.count_le c ?_
  rw [show l.take a = (l.take b).take a by rw [List.take_take, Nat.min_eq_left h]]
  exact List.take_sublist _ _
theorem count_next {l : List Nat} {i c : Nat} (h : l[i]? = some c) : (l.take (i + 1)).count c = (l.take i).count c + 1 := by
  rw [List.take_add_one, h, List.count_append]
  simp
abbrev oat (r : List Nat) (i : Nat) : Nat := (ord r).getD i 0
theorem oat_get {r : List Nat} {i : Nat} (h : i < r.length) : (ord r)[i]? = some (oat r i) := getD_lt (by rw [ord_len]; exact h)
theorem col_at {r : List Nat} {i : Nat} (h : i < r.length) : (col r).getD i 0 = gt r (oat r i + (r.length - 1)) := by
  rw [List.getD_eq_getElem?_getD, col_get (oat_get h)]
  rfl
theorem rot_back {r : List Nat} (h0 : 0 < r.length) (p : Nat) : rot r (p + (r.length - 1)) = gt r (p + (r.length - 1)) :: rd r p (r.length - 1) := by
  unfold rot
  obtain ⟨m, em⟩ : ∃ m, r.length = m + 1 := ⟨r.length - 1, by omega⟩
  have e : rd r (p + (r.length - 1) + 1) m = rd r p m := by
    rw [← rd_mod r (p + (r.length - 1) + 1), show p + (r.length - 1) + 1 = p + r.length by omega, Nat.add_mod_right, rd_mod]
  rw [show rd r (p + (r.length - 1)) r.length = rd r (p + (r.length - 1)) (m + 1) by rw [← em], rd_cons, e, show r.length - 1 = m by omega]
theorem lf_row {r : List Nat} (h0 : 0 < r.length) {i : Nat} (hi : i < r.length) : lf (col r) i < r.length ∧ rot r (oat r (lf (col r) i)) = rot r (oat r i + (r.length - 1)) := by
  have hp := oat_get hi
  generalize ep : oat r i = p at hp
  have hc := col_get hp
  have hcD : (col r).getD i 0 = gt r (p + (r.length - 1)) := by rw [col_at hi, ep]
  obtain ⟨w, ew⟩ : ∃ w, w = rd r p (r.length - 1) := ⟨_, rfl⟩
  have wl : w.length = r.length - 1 := by rw [ew, rd_len]
  obtain ⟨c, ec⟩ : ∃ c, c = gt r (p + (r.length - 1)) := ⟨_, rfl⟩
  have ek : lf (col r) i = (col r).countP (fun a => decide (a < c)) + ((col r).take i).count c := by rw [lf, hcD, ← ec]
  rw [← ec] at hc
  have h1 : cut ltR r w ≤ i := by
    refine Nat.not_lt.mp fun z => ?_
    have := (cut_row cmp_lt h0 hp).mp z
    rw [wl, ← ew] at this
    exact absurd (of_decide_eq_true this) (List.lt_irrefl _)
  have h2 : i < cut leR r w := (cut_row cmp_le h0 hp).mpr (by rw [wl, ← ew]; exact decide_eq_true (List.le_refl _))
  have h3 : cut ltR r (c :: w) ≤ lf (col r) i := by
    rw [cut_cons cmp_lt h0, ek]
    exact Nat.add_le_add_left (count_take h1 c) _
  have h4 : lf (col r) i < cut leR r (c :: w) := by
    rw [cut_cons cmp_le h0, ek]
    have := count_take (l := col r) (show i + 1 ≤ cut leR r w from h2) c
    rw [count_next hc] at this
    omega
  have h5 : lf (col r) i < r.length := Nat.lt_of_lt_of_le h4 (cut_le _ _ _)
  refine ⟨h5, ?_⟩
  have h6 := (row_is h0 (oat_get h5)).mpr ⟨h3, h4⟩
  rw [rot_back h0, ← ec, ← ew]
  unfold rot
  rw [← h6, List.length_cons, wl]
  congr 2
  omega
theorem lf_mono {r : List Nat} (h0 : 0 < r.length) {i j : Nat} (hij : i < j) (hj : j < r.length) (e : rot r (oat r i) = rot r (oat r j)) : lf (col r) i < lf (col r) j := by
  have hi : i < r.length := by omega
  have ec : (col r).getD i 0 = (col r).getD j 0 := by rw [col_at hi, col_at hj, gt_all h0 e]
  have hc : (col r)[i]? = some ((col r).getD j 0) := by rw [← ec]; exact getD_lt (by rw [col_len]; exact hi)
  unfold lf
  rw [ec]
  have h1 := count_next hc
  have h2 := count_take (l := col r) (show i + 1 ≤ j from hij) ((col r).getD j 0)
  omega
/-- f, so often -/
def itn (f : Nat → Nat) : Nat → Nat → Nat
  | 0, x => x
  | k + 1, x => f (itn f k x)
theorem itn_add (f : Nat → Nat) (b x : Nat) : ∀ a, itn f (a + b) x = itn f a (itn f b x)
  | 0 => by rw [Nat.zero_add]; rfl
  | a + 1 => by
    rw [show a + 1 + b = (a + b) + 1 by omega]
    show f (itn f (a + b) x) = f (itn f a (itn f b x))
    rw [itn_add f b x a]
theorem itn_row {r : List Nat} {d : Nat} (h0 : 0 < r.length) (hd : rot r d = r) {i : Nat} (hi : i < r.length) : ∀ m, m ≤ d → itn (lf (col r)) m i < r.length ∧ rot r (oat r (itn (lf (col r)) m i)) = rot r (oat r i + (d - m))
  | 0, _ => by
    refine ⟨hi, ?_⟩
    have := rot_shift h0 (show rot r d = rot r 0 by rw [hd, rot_zero]) (oat r i)
    rw [Nat.zero_add] at this
    rw [Nat.sub_zero, Nat.add_comm, this]
    rfl
  | m + 1, hm => by
    obtain ⟨h1, h2⟩ := itn_row h0 hd hi m (by omega)
    obtain ⟨h3, h4⟩ := lf_row h0 h1
    refine ⟨h3, ?_⟩
    show rot r (oat r (lf (col r) (itn (lf (col r)) m i))) = _
    rw [h4, rot_shift h0 h2 (r.length - 1), ← rot_mod, show oat r i + (d - m) + (r.length - 1) = oat r i + (d - (m + 1)) + r.length by omega, Nat.add_mod_right, rot_mod]
theorem self_map {f : Nat → Nat} {a b : Nat} (hf : ∀ x, a ≤ x → x < b → a ≤ f x ∧ f x < b) (hm : ∀ x y, a ≤ x → x < y → y < b → f x < f y) {x : Nat} (h1 : a ≤ x) (h2 : x < b) : f x = x := by
  have up : ∀ k, a + k < b → a + k ≤ f (a + k) := by
    intro k
    induction k with
    | zero => intro h; exact (hf _ (Nat.le_refl _) h).1
    | succ k ih =>
      intro h
      have := ih (by omega)
      have := hm (a + k) (a + (k + 1)) (by omega) (by omega) h
      omega
  have down : ∀ k, a + k < b → f (b - 1 - k) ≤ b - 1 - k := by
    intro k
    induction k with
    | zero =>
      intro h
      have := (hf (b - 1 - 0) (by omega) (by omega)).2
      omega
    | succ k ih =>
      intro h
      have := ih (by omega)
      have := hm (b - 1 - (k + 1)) (b - 1 - k) (by omega) (by omega) (by omega)
      omega
  have h3 := up (x - a) (by omega)
  have h4 := down (b - 1 - x) (by omega)
  rw [show a + (x - a) = x by omega] at h3
  rw [show b - 1 - (b - 1 - x) = x by omega] at h4
  omega
theorem itn_home {r : List Nat} {d : Nat} (h0 : 0 < r.length) (hd : rot r d = r) {i : Nat} (hi : i < r.length) : itn (lf (col r)) d i = i := by
  have key : ∀ k, k < r.length → (rot r (oat r k) = rot r (oat r i) ↔ cut ltR r (rot r (oat r i)) ≤ k ∧ k < cut leR r (rot r (oat r i))) := fun k hk => by
    have := row_is (w := rot r (oat r i)) h0 (oat_get hk)
    rw [rot_len] at this
    exact this
  have hb := cut_le leR r (rot r (oat r i))
  have mono : ∀ m, m ≤ d → ∀ x y, x < y → y < r.length → rot r (oat r x) = rot r (oat r y) → itn (lf (col r)) m x < itn (lf (col r)) m y := by
    intro m
    induction m with
    | zero => intro _ x y h _ _; exact h
    | succ m ih =>
      intro hm x y h hy e
      have h1 := ih (by omega) x y h hy e
      obtain ⟨_, h2⟩ := itn_row h0 hd (show x < r.length by omega) m (by omega)
      obtain ⟨h3, h4⟩ := itn_row h0 hd hy m (by omega)
      exact lf_mono h0 h1 h3 (by rw [h2, h4, rot_shift h0 e])
  obtain ⟨g1, g2⟩ := (key i hi).mp rfl
  refine self_map (a := cut ltR r (rot r (oat r i))) (b := cut leR r (rot r (oat r i))) (f := itn (lf (col r)) d) (fun x h1 h2 => ?_) (fun x y h1 h2 h3 => ?_) g1 g2
  · have hx : x < r.length := by omega
    obtain ⟨h3, h4⟩ := itn_row h0 hd hx d (Nat.le_refl _)
    rw [Nat.sub_self, Nat.add_zero] at h4
    exact (key _ h3).mp (by rw [h4]; exact (key x hx).mpr ⟨h1, h2⟩)
  · have hy : y < r.length := by omega
    exact mono d (Nat.le_refl _) x y h2 hy (by rw [(key x (by omega)).mpr ⟨h1, by omega⟩, (key y hy).mpr ⟨by omega, h3⟩])
theorem itn_away {r : List Nat} {d : Nat} (h0 : 0 < r.length) (hd : rot r d = r) (hm : ∀ p, 0 < p → p < d → rot r p ≠ r) {i k : Nat} (hi : i < r.length) (k0 : 0 < k) (kd : k < d) : itn (lf (col r)) k i ≠ i := by
  intro e
  obtain ⟨_, h2⟩ := itn_row h0 hd hi k (by omega)
  rw [e] at h2
  have h3 := rot_shift h0 h2 (r.length - oat r i % r.length)
  have hp := Nat.mod_lt (oat r i) h0
  have e1 : ∀ s, rot r (oat r i + s + (r.length - oat r i % r.length)) = rot r s := fun s => by
    have h4 := Nat.div_add_mod (oat r i) r.length
    rw [← rot_mod, show oat r i + s + (r.length - oat r i % r.length) = s + r.length * (oat r i / r.length + 1) by rw [Nat.mul_succ]; omega, Nat.add_mul_mod_self_left, rot_mod]
  have e2 := e1 0
  rw [Nat.add_zero] at e2
  rw [e1, e2, rot_zero] at h3
  exact hm (d - k) (by omega) (by omega) h3.symm
/-- the letter that is met at the m-th former -/
theorem itn_letter {r : List Nat} {d : Nat} (h0 : 0 < r.length) (hd : rot r d = r) {i m : Nat} (hi : i < r.length) (hm : m < d) : (col r)[itn (lf (col r)) m i]? = some (gt r (oat r i + (d - (m + 1)))) := by
  obtain ⟨h1, h2⟩ := itn_row h0 hd hi m (by omega)
  rw [col_get (oat_get h1), gt_all h0 h2, ← gt_mod, show oat r i + (d - m) + (r.length - 1) = oat r i + (d - (m + 1)) + r.length by omega, Nat.add_mod_right, gt_mod]
def metN (r : List Nat) (p d m : Nat) : List Nat := (List.range m).map fun k => gt r (p + (d - (k + 1)))
theorem metN_succ (r : List Nat) (p d m : Nat) : metN r p d (m + 1) = metN r p d m ++ [gt r (p + (d - (m + 1)))] := by
  unfold metN
  rw [List.range_succ, List.map_append]
  rfl
theorem metN_len (r : List Nat) (p d m : Nat) : (metN r p d m).length = m := by simp [metN]
theorem metN_rev (r : List Nat) (p d : Nat) : (metN r p d d).reverse = rd r p d := by
  refine List.ext_getElem? fun j => ?_
  by_cases c : j < d
  · rw [rd_get _ _ _ _ c, List.getElem?_reverse (by rw [metN_len]; exact c), metN_len, metN, List.getElem?_map, List.getElem?_range (by omega)]
    show some (gt r _) = some (gt r (p + j))
    congr 3
    omega
  · rw [List.getElem?_eq_none (by rw [List.length_reverse, metN_len]; omega), List.getElem?_eq_none (by rw [rd_len]; omega)]
/-- a part of a ring that comes again and again, read from another place on -/
theorem root_rot {r : List Nat} {d : Nat} (h0 : 0 < r.length) (d0 : 0 < d) (hd : rot r d = r) (p : Nat) : rd r p d = rot (rd r 0 d) p := by
  unfold rot
  rw [rd_len]
  have hg : ∀ i, gt (rd r 0 d) i = gt r i := fun i => by
    have h1 : i % d < d := Nat.mod_lt _ d0
    have h2 := rd_get r 0 d (i % d) h1
    unfold gt
    rw [rd_len, List.getD_eq_getElem?_getD, h2]
    show gt r (0 + i % d) = gt r i
    rw [Nat.zero_add]
    conv => rhs; rw [← Nat.mod_add_div i d, Nat.mul_comm]
    exact (per_mult h0 hd _ _).symm
  rw [rd_gt, rd_gt]
  refine List.map_congr_left fun k _ => ?_
  exact (hg _).symm
/-- the places at which a word begins: as often as the period tells -/
theorem countP_per {g : Nat → Bool} {d : Nat} (hg : ∀ j, g (j + d) = g j) : ∀ k, (List.range (k * d)).countP g = k * (List.range d).countP g
  | 0 => by simp
  | k + 1 => by
    rw [Nat.succ_mul, Nat.succ_mul, List.range_add, List.countP_append, countP_per hg k, List.countP_map]
    congr 1
    refine List.countP_congr fun j _ => ?_
    have : ∀ k, g (k * d + j) = g j := by
      intro k
      induction k with
      | zero => simp
      | succ k ih => rw [Nat.succ_mul, show k * d + d + j = k * d + j + d by omega, hg, ih]
    show g (k * d + j) = true ↔ _
    rw [this]
theorem due_per {r w : List Nat} {d : Nat} (h0 : 0 < r.length) (d0 : 0 < d) (hd : rot r d = r) (hdiv : r.length % d = 0) : (due r w).length % (r.length / d) = 0 := by
  have e : (due r w).length = (List.range r.length).countP fun p => rd r p w.length == w := by
    rw [List.countP_eq_length_filter]
    rfl
  have h1 : r.length = r.length / d * d := by
    have := Nat.div_add_mod r.length d
    rw [hdiv, Nat.mul_comm] at this
    omega
  rw [e, h1, countP_per (fun j => by
    have : rd r (j + d) w.length = rd r j w.length := rd_congr fun i _ => by
      rw [show j + d + i = j + i + d by omega, per_cyc h0 hd]
    rw [this]), Nat.mul_div_cancel _ d0, Nat.mul_mod_right]
end My
namespace My
open PySem L2 PyProof.Rows
/-! ### methods, properties, __init__ of a class at C -/
section
variable {P : Program} {w : World} {K : PySem.W.Frag} {mg : Str → Option Value} {base : Heap} {C : Addr}
def DefM (K : PySem.W.Frag) (C : Addr) (x qual : Str) (st : Stmt) (ps : List Str) : Prop := ∃ (f : Addr) (fd : FuncData), Fun K x qual st f fd ∧ Meth K C x f ∧ Binds K fd ps []
def DefP (K : PySem.W.Frag) (C : Addr) (x qual : Str) (st : Stmt) (ps : List Str) : Prop := ∃ (p f : Addr) (fd : FuncData), Fun K x qual st f fd ∧ PropOf K C x p f ∧ Binds K fd ps []
def DefI (K : PySem.W.Frag) (C : Addr) (x qual : Str) (st : Stmt) (ps : List Str) : Prop := ∃ (f : Addr) (fd : FuncData), Fun K x qual st f fd ∧ Mk K C f ∧ Binds K fd ps []
def GoodM (P : Program) (w : World) (K : PySem.W.Frag) (mg : Str → Option Value) (base : Heap) (C : Addr) (x qual : Str) (st : Stmt) (ps : List Str) (k : Nat) (sp : Sp) : Prop := ∃ (f : Addr) (fd : FuncData), FnOk P w K mg base CX0 k f fd ps sp ∧ Meth K C x f ∧ Binds K fd ps [] ∧ Fun K x qual st f fd
def GoodP (P : Program) (w : World) (K : PySem.W.Frag) (mg : Str → Option Value) (base : Heap) (C : Addr) (x _qual : Str) (_st : Stmt) (ps : List Str) (k : Nat) (sp : Sp) : Prop := ∃ (p f : Addr) (fd : FuncData), FnOk P w K mg base CX0 k f fd ps sp ∧ PropOf K C x p f ∧ Binds K fd ps []
def GoodI (P : Program) (w : World) (K : PySem.W.Frag) (mg : Str → Option Value) (base : Heap) (C : Addr) (x _qual : Str) (_st : Stmt) (ps : List Str) (k : Nat) (sp : Sp) : Prop := ∃ (f : Addr) (fd : FuncData), FnOk P w K mg base CX0 k f fd ps sp ∧ Mk K C f ∧ Binds K fd ps []
theorem DefM.good {x qual : Str} {st : Stmt} {ps : List Str} {k : Nat} {sp : Sp} (D : DefM K C x qual st ps) (h : ∀ f fd, Fun K x qual st f fd → FnOk P w K mg base CX0 k f fd ps sp) : GoodM P w K mg base C x qual st ps k sp := by
  obtain ⟨f, fd, F, m, b⟩ := D
  exact ⟨f, fd, h f fd F, m, b, F⟩
theorem DefP.good {x qual : Str} {st : Stmt} {ps : List Str} {k : Nat} {sp : Sp} (D : DefP K C x qual st ps) (h : ∀ f fd, Fun K x qual st f fd → FnOk P w K mg base CX0 k f fd ps sp) : GoodP P w K mg base C x qual st ps k sp := by
  obtain ⟨p, f, fd, F, m, b⟩ := D
  exact ⟨p, f, fd, h f fd F, m, b⟩
theorem DefI.good {x qual : Str} {st : Stmt} {ps : List Str} {k : Nat} {sp : Sp} (D : DefI K C x qual st ps) (h : ∀ f fd, Fun K x qual st f fd → FnOk P w K mg base CX0 k f fd ps sp) : GoodI P w K mg base C x qual st ps k sp := by
  obtain ⟨f, fd, F, m, b⟩ := D
  exact ⟨f, fd, h f fd F, m, b⟩
end
def g123 {α : Type} : List α → List α → List α | [], [a, b, c] => [a, b, c] | _, _ => []
theorem g123_inv {α : Type} {us ws : List α} (h : (g123 us ws).length = 3) : us = [] ∧ ∃ a b c, ws = [a, b, c] := by
  unfold g123 at h
  split at h
  · exact ⟨rfl, _, _, _, rfl⟩
  · simp at h
theorem rel123 {vs : List V} {us : List Value} {zs : List V} {ws : List Value} (a : Vals vs us) (b : Vals zs ws) : Vals (g123 vs zs) (g123 us ws) := by
  cases a with
  | cons h t => exact .nil
  | nil => cases b with
    | nil => exact .nil
    | cons h1 t => cases t with
      | nil => exact .nil
      | cons h2 t => cases t with
        | nil => exact .nil
        | cons h3 t => cases t with
          | nil => exact .cons h1 (.cons h2 (.cons h3 .nil))
          | cons h4 t => exact .nil
/-- self, then one keyword -/
def gm1 {α : Type} : List α → List α → List α | [a], [b] => [a, b] | _, _ => []
theorem gm1_inv {α : Type} {us ws : List α} (h : (gm1 us ws).length = 2) : ∃ a b, us = [a] ∧ ws = [b] := by
  unfold gm1 at h
  split at h
  · exact ⟨_, _, rfl, rfl⟩
  · simp at h
theorem relm1 {vs : List V} {us : List Value} {zs : List V} {ws : List Value} (a : Vals vs us) (b : Vals zs ws) : Vals (gm1 vs zs) (gm1 us ws) := by
  cases a with
  | nil => exact .nil
  | cons h t => cases t with
    | cons h2 t => exact .nil
    | nil => cases b with
      | nil => exact .nil
      | cons h1 t => cases t with
        | nil => exact .cons h (.cons h1 .nil)
        | cons h2 t => exact .nil
/-! ### a list or a tuple, gone through -/
section
variable {X : Cx}
theorem pi_or {tg e : Expr} {w1 w2 : TI} (h1 : PI X tg e w1) (h2 : PI X tg e w2) : PI X tg e (fun σ H R => w1 σ H R ∨ w2 σ H R) := by
  constructor
  intro pins s σ H R I h
  rcases h with h | h
  · exact h1.run pins s σ H R I h
  · exact h2.run pins s σ H R I h
end
end My
/-! list(range(n)) -/
namespace My
open PySem PySem.Spec PyProof.Rows L2
section
variable {X : Cx}
theorem cr_range1 : CallR X (.type "range") (fun vs H Q => ∃ j, vs = [V.int j] ∧ ∀ p, H p = none → Q (.ref p) (upd H p (.rng 0 j))) := by
  intro pins s σ H vs us Q I r h
  obtain ⟨j, rfl, q⟩ := h
  obtain ⟨u1, rfl, ri⟩ := vals1 r
  obtain ⟨t, rfl⟩ := ri
  refine call_range_1 ⟨.ref s.heap.objs.size, upd H s.heap.objs.size (.rng 0 j), I.laid (t' := s.toks + 1 + 1) (fun b o e => Heap.get?_push_of_some _ e) (Nat.le_refl _) ?_, rfl, q _ (I.hok.fresh (Nat.le_refl _))⟩
  exact ⟨s.toks, t, s.toks + 1, Heap.get?_push_size _ rfl⟩
theorem call_listRng (hc : X.calm = true) : CallR X (.type "list") (fun xs H Q => ∃ (p : Addr) (n : Nat), xs = [.ref p] ∧ H p = some (.rng 0 (n : Int)) ∧ n ≤ 1000 ∧ ∀ q, H q = none → Q (.ref q) (upd H q (.lst ((List.range n).map fun i : Nat => V.int (i : Int))))) := by
  intro pins s σ H xs us Q I r h
  obtain ⟨p, n, e, hk, hn, q⟩ := h
  subst e
  obtain ⟨u, eu, rx⟩ := vals1 r
  subst eu
  obtain rfl : u = Value.ref p := rx
  obtain ⟨t1, t2, t3, ho⟩ := (show ObjOk X.prog X.w H s.heap p (.rng 0 (n : Int)) from I.hok p _ hk)
  refine call_list_range (n := n) (I.ok.hd hc) ho (small_one (by omega) (by omega) (by omega) (by omega)) (by rw [rangeSize_one]; split <;> omega) (by omega) fun h' tk items cap hkeep hS hacc => ?_
  refine ⟨.ref s.heap.objs.size, upd H s.heap.objs.size (.lst ((List.range n).map fun i : Nat => V.int (i : Int))), I.laid hkeep (Nat.le_refl _) (show ObjOk X.prog X.w _ _ _ (.lst ((List.range n).map fun i : Nat => V.int (i : Int))) from ⟨?_, items.toList, cap, ?_, ?_⟩), rfl, q _ (I.hok.fresh (Nat.le_refl _))⟩
  · rw [List.length_map, List.length_range]; exact Nat.le_trans hn (by decide)
  · have el : items.toList.length = n := by rw [Array.length_toList]; exact hacc.1
    refine vals_of_at (by rw [List.length_map, List.length_range, el]) fun j x z h1 h2 => ?_
    obtain ⟨t, e⟩ := hacc.2 j z (by rw [← Array.getElem?_toList]; exact h2)
    have hj : j < n := by rw [← el]; exact (List.getElem?_eq_some_iff.mp h2).1
    rw [List.getElem?_map, List.getElem?_range hj] at h1
    cases h1
    exact ⟨t, by rw [e]; simp⟩
  · rw [Array.toArray_toList]; exact hS
end
end My
namespace My
open PySem PySem.W L2 L2.DX PyProof.Rows
/-! ### d.items() of a dict by texts, sorted -/
section
variable {X : Cx}
def rItemsK : V → List V → Hp → VK → Prop := fun x xs H Q => ∃ (a : Addr) (kvs : List (Key × V)), x = .ref a ∧ xs = [] ∧ H a = some (.dK kvs) ∧ ∀ p, H p = none → Q (.ref p) (upd H p (itemsO p a))
theorem mt_itemsK : MtR X "dict.items" rItemsK := by
  intro pins s σ H x xs v us Q I rx rxs h
  obtain ⟨d, kvs, rfl, rfl, hd0, q⟩ := h
  cases rx
  cases rxs
  obtain ⟨_, hd, vs, rel, dof⟩ := dk_of I.hok hd0
  obtain ⟨es, ep, raw, _, _⟩ := PySem.Heap.DictOf.raw dof
  exact DT.callItems (es := es) (ep := ep) hd raw ⟨.ref s.heap.objs.size, upd H s.heap.objs.size (itemsO s.heap.objs.size d), I.laid (t' := s.toks) (fun b u e => Heap.get?_push_of_some _ e) (Nat.le_refl _) (itemsO_ok (Heap.get?_push_size _ rfl)), rfl, q _ (I.hok.fresh (Nat.le_refl _))⟩
/-- an entry: a text and a number -/
abbrev entSI (e : Str × Int) : Key × V := (Sum.inr e.1, .int e.2)
abbrev encSI (e : Str × Int) : PyData := .tuple [.str e.1, .int e.2]
theorem kv_at : ∀ {kvs : List (Key × V)} {vs : List (Key × Value)}, KV kvs vs → ∀ {j : Nat} {p : Key × V}, kvs[j]? = some p → ∃ q, vs[j]? = some q ∧ p.1 = q.1 ∧ RelV p.2 q.2
  | _, _, .nil, _, _, h => by simp at h
  | _, _, .cons r _, 0, _, h => by
    cases h
    exact ⟨_, rfl, r⟩
  | _, _, .cons _ t, j + 1, p, h => by
    obtain ⟨q, h1, h2⟩ := kv_at t (j := j) (by simpa using h)
    exact ⟨q, by simpa using h1, h2⟩
theorem eachIs_of {α β : Type} {R : α → β → Prop} : ∀ {as : List α} {bs : List β}, as.length = bs.length → (∀ (j : Nat) (a : α) (b : β), as[j]? = some a → bs[j]? = some b → R a b) → PySem.W.EachIs R as bs
  | [], [], _, _ => .nil
  | [], _ :: _, h, _ => by simp at h
  | _ :: _, [], h, _ => by simp at h
  | a :: as, b :: bs, h, k => .cons (k 0 a b rfl rfl) (eachIs_of (by simpa using h) fun j x y hx hy => k (j + 1) x y (by simpa using hx) (by simpa using hy))
theorem encSI_alike (kvs : List (Str × Int)) : AllAlike (kvs.map encSI) := by
  intro d hd d' hd'
  obtain ⟨e, _, rfl⟩ := List.mem_map.mp hd
  obtain ⟨e', _, rfl⟩ := List.mem_map.mp hd'
  rfl
theorem encSI_sortable (kvs : List (Str × Int)) : Sortable (kvs.map encSI) := .tuples fun b => ⟨_, _, rfl⟩
theorem eachIs_refs {β : Type} {as : List Addr} {bs : List β} : ∀ {out : List Value} {cs : List β}, PySem.W.EachIs (fun v b => ∃ (j : Nat) (x : Addr), v = Value.ref x ∧ as[j]? = some x ∧ bs[j]? = some b) out cs →
    ∃ ts : List Addr, out = ts.map Value.ref ∧ Paired (fun (x : Addr) (b : β) => ∃ j : Nat, as[j]? = some x ∧ bs[j]? = some b) ts cs
  | _, _, .nil => ⟨[], rfl, .nil⟩
  | _, _, .cons h t => by
    obtain ⟨j, x, rfl, h1, h2⟩ := h
    obtain ⟨ts, rfl, hp⟩ := eachIs_refs t
    exact ⟨x :: ts, rfl, .cons ⟨j, h1, h2⟩ hp⟩
theorem paired_imp {α β : Type} {F G : α → β → Prop} (h : ∀ a b, F a b → G a b) : ∀ {l1 : List α} {l2 : List β}, Paired F l1 l2 → Paired G l1 l2
  | _, _, .nil => .nil
  | _, _, .cons a r => .cons (h _ _ a) (paired_imp h r)
theorem vals_refs : ∀ ts : List Addr, Vals (ts.map V.ref) (ts.map Value.ref)
  | [] => .nil
  | _ :: r => .cons rfl (vals_refs r)
/-- the told list is new, its pairs too -/
def rSortItK : List V → Hp → VK → Prop := fun vs H Q => ∃ (p a : Addr) (kvs : List (Str × Int)), vs = [.ref p] ∧ H p = some (itemsO p a) ∧ H a = some (.dK (kvs.map entSI)) ∧ kvs.length ≤ 100000 ∧
  ∀ (H' : Hp) (l : Addr) (ts : List Addr), (∀ b o, H b = some o → H' b = some o) → H l = none → H' l = some (.lst (ts.map V.ref)) → Paired (fun t (e : Str × Int) => H' t = some (.tup [.str e.1, .int e.2])) ts (kvs.mergeSort (dataLe false encSI)) → Q (.ref l) H'
theorem cr_sortItK (hc : X.calm = true) (hu : X.A.units + 64 < cLine) : CallR X (.builtin "sorted") rSortItK := by
  intro pins s σ H xs us Q I r h
  obtain ⟨p, a, kvs, rfl, hp, ha, hlen, q⟩ := h
  obtain rfl := Vals.ref1 r
  have vw : s.heap.IsItemsView p a := by
    have z : ObjOk X.prog X.w H s.heap p (itemsO p a) := I.hok p _ hp
    exact z.1
  obtain ⟨_, hd, vs, rel, dof⟩ := dk_of I.hok ha
  obtain ⟨es, ep, raw, hsz, hent⟩ := PySem.Heap.DictOf.raw dof
  have l1 : vs.length = kvs.length := by
    have := Paired.length rel
    rw [List.length_map] at this
    exact this.symm
  have small : kvs.length ≤ sizeLine := Nat.le_trans hlen (by decide)
  refine DT.sortedI (es := es) (ep := ep) (I.ok.hd hc) vw raw (by rw [hsz, l1]; exact small) fun h' tk as kpt hlt hl mde => ?_
  have lak : as.length = kvs.length := by rw [hl, hsz, l1]
  have nod : as.Nodup := List.Pairwise.imp (fun h => Nat.ne_of_lt h) mde.rise
  have pr : ∀ (j : Nat) (b : Addr), as[j]? = some b → ∃ (e : Str × Int) (t t' : Tok), kvs[j]? = some e ∧ h'.get? b = some { cls := .type "tuple", data := .seq #[Value.str e.1 t, Value.int e.2 t'] } := fun j b ej => by
    obtain ⟨en, ee, gh⟩ := mde.pairs j b ej
    have hj2 : j < es.size := (Array.getElem?_eq_some_iff.mp ee).1
    have hj3 : j < kvs.length := by rw [← l1, ← hsz]; exact hj2
    obtain ⟨⟨k, v⟩, g1, g2, g3⟩ := kv_at rel (j := j) (p := entSI kvs[j]) (by rw [List.getElem?_map, List.getElem?_eq_getElem hj3]; rfl)
    obtain ⟨m1, m2⟩ := hent j hj2 k v g1
    have e1 : es[j] = en := (Array.getElem?_eq_some_iff.mp ee).2
    rw [e1] at m1 m2
    have g2' : k = Sum.inr kvs[j].1 := g2.symm
    subst g2'
    obtain ⟨t', ev⟩ : ∃ t', v = Value.int kvs[j].2 t' := g3
    rcases keyIs_shape (show keyIs (Sum.inr kvs[j].1) en.key = true from m1) with ⟨i, t, z, _⟩ | ⟨x, t, z, ek⟩
    · cases z
    · have ex : kvs[j].1 = x := Sum.inr.inj z
      refine ⟨kvs[j], t, t', List.getElem?_eq_getElem hj3, ?_⟩
      rw [gh, ek, m2, ev, ex]
  have gl : (h'.push { cls := .type "list", data := .seq (as.map Value.ref).toArray }).get? h'.objs.size = some (seqObj "list" (as.map Value.ref).toArray 0) := Heap.get?_push_size _ rfl
  have far : ∀ b o, h'.get? b = some o → b ≠ h'.objs.size := fun b o e => Nat.ne_of_lt (Heap.lt_size e)
  have kp : ∀ b o, h'.get? b = some o → (h'.push { cls := .type "list", data := .seq (as.map Value.ref).toArray }).get? b = some o := fun b o e => Heap.get?_push_of_some _ e
  generalize h'.push { cls := .type "list", data := .seq (as.map Value.ref).toArray } = h2 at gl kp ⊢
  have at_ : ∀ (j : Nat) (v : Value) (e : Str × Int), (as.map Value.ref)[j]? = some v → kvs[j]? = some e → ∃ b, v = .ref b ∧ as[j]? = some b := fun j v e hv _ => by
    rw [List.getElem?_map] at hv
    cases z : as[j]? with
    | none => rw [z] at hv; cases hv
    | some b => rw [z] at hv; exact ⟨b, (Option.some.inj hv).symm, rfl⟩
  refine list_sort_data (s := { s with heap := h2, toks := tk }) (R := fun v e => ∃ (j : Nat) (x : Addr), v = Value.ref x ∧ as[j]? = some x ∧ kvs[j]? = some e) (enc := encSI) (bs := kvs) gl (eachIs_of (by rw [List.length_map]; exact lak) fun j v e hv ee => ?_) (eachIs_of (by rw [List.length_map]; exact lak) fun j v e hv ee => ?_) (encSI_alike kvs) (encSI_sortable kvs) small (fun b _ => ?_) fun out ho1 ho2 => ?_
  · obtain ⟨b, e1, e2⟩ := at_ j v e hv ee
    exact ⟨j, b, e1, e2, ee⟩
  · obtain ⟨b, rfl, e2⟩ := at_ j v e hv ee
    obtain ⟨e', t, t', g1, g2⟩ := pr j b e2
    rw [ee] at g1
    cases g1
    exact ⟨[] ++ ([] ++ []), .tuple (kp _ _ g2) rfl rfl (.cons (.str _ _) (.cons (.int _ _) .nil)), by simp⟩
  · show X.A.units + 1 + 1 + 1 < cLine
    omega
  obtain ⟨ts, rfl, hts⟩ := eachIs_refs ho2
  show EP X pins σ Q (.ref h'.objs.size) { s with heap := sortedHeap h2 h'.objs.size (as.map Value.ref) (ts.map Value.ref).toArray, toks := tk }
  have kF : ∀ b o, b ≠ h'.objs.size → h2.get? b = some o → (sortedHeap h2 h'.objs.size (as.map Value.ref) (ts.map Value.ref).toArray).get? b = some o := fun b o hb e => (PyProof.Rows.sortedHeap_old hb (Heap.lt_size e)).trans e
  have kS : ∀ b o, s.heap.get? b = some o → (sortedHeap h2 h'.objs.size (as.map Value.ref) (ts.map Value.ref).toArray).get? b = some o := fun b o e => kF b o (far _ _ (kpt b o e)) (kp b o (kpt b o e))
  obtain ⟨eF, heF⟩ := PyProof.Rows.sortedHeap_at (vs := as.map Value.ref) (out := (ts.map Value.ref).toArray) gl
  generalize sortedHeap h2 h'.objs.size (as.map Value.ref) (ts.map Value.ref).toArray = hz at kF kS heF ⊢
  have free0 : H h'.objs.size = none := I.hok.fresh (Nat.le_of_lt hlt)
  have htl : (ts.map V.ref).length ≤ sizeLine := by
    rw [List.length_map] at ho1 ⊢
    rw [ho1]
    exact small
  have I2 : Inv X pins σ (upd H h'.objs.size (.lst (ts.map V.ref))) { s with heap := hz, toks := tk } :=
    (I.kept (t' := tk) kS).take (h' := hz) (t' := tk) (fun b ob _ e => e) (I.fpOk (Nat.le_of_lt hlt) free0) ⟨htl, ts.map Value.ref, eF, vals_refs ts, heF⟩
  obtain ⟨H2, I3, g, qt⟩ := takeT (P := fun b vs => ∃ (j : Nat) (e : Str × Int), as[j]? = some b ∧ kvs[j]? = some e ∧ vs = [.str e.1, .int e.2]) I as _ I2 nod fun b hb => by
    obtain ⟨j, ej⟩ := List.mem_iff_getElem?.mp hb
    obtain ⟨e, t, t', ee, gh⟩ := pr j b ej
    have big : s.heap.objs.size ≤ b := Nat.le_of_lt (mde.above b hb)
    refine ⟨big, by rw [upd_ne (far _ _ gh)]; exact I.hok.fresh big, [.str e.1, .int e.2], ⟨j, e, ej, ee, rfl⟩, fun H3 => ⟨(by show 2 ≤ sizeLine; decide), [Value.str e.1 t, Value.int e.2 t'], .cons ⟨t, rfl⟩ (.cons ⟨t', rfl⟩ .nil), ⟨_, kF _ _ (far _ _ gh) (kp _ _ gh), rfl, 0, rfl⟩⟩⟩
  refine ⟨.ref h'.objs.size, H2, I3, rfl, q H2 h'.objs.size ts (fun b o e => g b o (by rw [upd_ne (ne_of_none e free0)]; exact e)) free0 (g _ _ upd_same) (paired_imp (fun x e hx => ?_) hts)⟩
  obtain ⟨i, i1, i2⟩ := hx
  obtain ⟨vs', ⟨j, e', j1, j2, ev⟩, hH⟩ := qt x (List.mem_of_getElem? i1)
  have eqi : i = j := (List.getElem?_inj (List.getElem?_eq_some_iff.mp i1).1 nod).mp (i1.trans j1.symm)
  subst eqi
  rw [i2] at j2
  cases j2
  rw [ev] at hH
  exact hH
end
end My
namespace My
open PySem PySem.W L2 L2.DX PyProof.Rows
section
variable {X : Cx}
theorem dp_at {K : PySem.W.Frag} {H : Hp} : ∀ {ys : List V} {ds : List PyData}, DpAll K H ys ds → ∀ {j : Nat} {y : V} {d : PyData}, ys[j]? = some y → ds[j]? = some d → Dp K H y d
  | _, _, .nil, _, _, _, h, _ => by simp at h
  | _, _, .cons p _, 0, _, _, h, k => by
    cases h
    cases k
    exact p
  | _, _, .cons _ t, j + 1, _, _, h, k => dp_at t (j := j) (by simpa using h) (by simpa using k)
theorem dp_len {K : PySem.W.Frag} {H : Hp} : ∀ {ys : List V} {ds : List PyData}, DpAll K H ys ds → ys.length = ds.length
  | _, _, .nil => rfl
  | _, _, .cons _ t => congrArg Nat.succ (dp_len t)
theorem vals_at : ∀ {ys : List V} {us : List Value}, Vals ys us → ∀ {j : Nat} {u : Value}, us[j]? = some u → ∃ y, ys[j]? = some y ∧ RelV y u
  | _, _, .nil, _, _, h => by simp at h
  | _, _, .cons r _, 0, _, h => by
    cases h
    exact ⟨_, rfl, r⟩
  | _, _, .cons _ t, j + 1, _, h => by
    obtain ⟨y, h1, h2⟩ := vals_at t (j := j) (by simpa using h)
    exact ⟨y, by simpa using h1, h2⟩
theorem out_vals {ys : List V} {ds : List PyData} : ∀ {out : List Value} {cs : List PyData}, PySem.W.EachIs (fun v d => ∃ (j : Nat) (y : V), ys[j]? = some y ∧ ds[j]? = some d ∧ RelV y v) out cs →
    ∃ zs : List V, Vals zs out ∧ Paired (fun (z : V) (d : PyData) => ∃ j : Nat, ys[j]? = some z ∧ ds[j]? = some d) zs cs
  | _, _, .nil => ⟨[], .nil, .nil⟩
  | _, _, .cons h t => by
    obtain ⟨j, y, h1, h2, h3⟩ := h
    obtain ⟨zs, g1, g2⟩ := out_vals t
    exact ⟨y :: zs, .cons h3 g1, .cons ⟨j, h1, h2⟩ g2⟩
theorem vals_len : ∀ {ys : List V} {us : List Value}, Vals ys us → ys.length = us.length
  | _, _, .nil => rfl
  | _, _, .cons _ t => congrArg Nat.succ (vals_len t)
/-- sorted(xs), data of one shape: the items are set in sequence by what they are -/
def rSortD (K : PySem.W.Frag) : List V → Hp → VK → Prop := fun vs H Q => ∃ (a : Addr) (ys : List V) (ds : List PyData), vs = [.ref a] ∧ SqL K H a ys ∧ DpAll K H ys ds ∧ AllAlike ds ∧ Sortable ds ∧ (∀ d ∈ ds, d.depth ≤ 8) ∧ ys.length ≤ 100000 ∧
  ∀ (zs : List V) (p : Addr), Paired (fun (z : V) (d : PyData) => ∃ j : Nat, ys[j]? = some z ∧ ds[j]? = some d) zs (ds.mergeSort (dataLe false id)) → H p = none → Q (.ref p) (upd H p (.lst zs))
theorem cr_sortD (hu : X.A.units + 64 < cLine) : CallR X (.builtin "sorted") (rSortD X.K) := by
  intro pins s σ H xs us Q I r h
  obtain ⟨a, ys, ds, rfl, hs, hd, hal, hk, hdp, hlen, q⟩ := h
  obtain rfl := Vals.ref1 r
  obtain ⟨its, rv, pl, _⟩ := I.list hs
  have li : its.length = ds.length := by rw [← vals_len rv]; exact dp_len hd
  have small : ds.length ≤ sizeLine := by rw [← dp_len hd]; exact Nat.le_trans hlen (by decide)
  refine sorted_data (R := fun v d => ∃ (j : Nat) (y : V), ys[j]? = some y ∧ ds[j]? = some d ∧ RelV y v) (enc := id) (bs := ds) pl.isList (eachIs_of li fun j v d hv he => ?_) (eachIs_of li fun j v d hv he => ?_) (by rw [List.map_id]; exact hal) (by rw [List.map_id]; exact hk) small (fun d hdm => ?_) fun out ho1 ho2 => ?_
  · obtain ⟨y, g1, g2⟩ := vals_at rv hv
    exact ⟨j, y, g1, he, g2⟩
  · obtain ⟨y, g1, g2⟩ := vals_at rv hv
    exact Dp.reads I d y v (dp_at hd g1 he) g2
  · have := hdp d hdm
    show X.A.units + 2 + d.depth < cLine
    omega
  obtain ⟨zs, hz, hp⟩ := out_vals ho2
  obtain ⟨eF, heF⟩ := PyProof.Rows.sortedAll_at s.heap its out.toArray
  have hzl : zs.length ≤ sizeLine := by rw [vals_len hz, ho1]; exact small
  exact ⟨.ref (s.heap.objs.size + 1), upd H (s.heap.objs.size + 1) (.lst zs), I.laid (t' := s.toks) (fun _ _ => PyProof.Rows.sortedAll_old) (Nat.le_succ _) ⟨hzl, out, eF, hz, heF⟩, rfl, q zs _ hp (I.hok.fresh (Nat.le_succ _))⟩
end
end My
namespace My
open PySem L2 PyProof.Rows
/-! ### == by an own __eq__, whatever it answers -/
section
variable {X : Cx}
theorem op_eqOwn {CX : CXT} {k : Nat} {C f : Addr} {fd : FuncData} {ps : List Str} {sp : Sp} {E : XK} (F : FnOk X.prog X.w X.K X.mg X.base CX k f fd ps sp) (hr : Room k X.A)
    (hs : PySem.W.findIn X.K (.ref C) "__eq__" = some (some (.ref f))) (hf : PySem.W.isFn X.K (.ref f) = true) (hb : Binds X.K fd ps []) (hx : Passes CX X E) :
    OpR X (compareOp .Eq) (fun x y H Q => ∃ a b dx dy fs gs, x = .ref a ∧ y = .ref b ∧ H a = some (.ins C dx fs) ∧ H b = some (.ins C dy gs) ∧ sp [x, y] H (fun v H' => ∃ c, v = .bl c ∧ Q (.bl c) H') E) := by
  intro pins s σ H x y v u Q I rx ry h
  obtain ⟨a, b, dx, dy, fs, gs, rfl, rfl, ha, hb', hsp⟩ := h
  cases rx
  cases ry
  show wpAny (model X.prog X.w) X.A (richCompare .Eq (.ref a) (.ref b)) (EP X pins σ Q) X.xe s
  obtain ⟨_, J, _⟩ := ins_get I.hok ha
  obtain ⟨_, J', _⟩ := ins_get I.hok hb'
  obtain ⟨_, J, _⟩ := J.look
  obtain ⟨_, J', _⟩ := J'.look
  obtain ⟨m, hF⟩ := I.fr
  refine PySem.W.cmp_K (op := .Eq) (tb := .ref C) hr.units0 hF I.ok.mod.kin J J'.type (by simp [PySem.W.notFirst]) hs hf ?_
  have vals : Vals [V.ref a, V.ref b] [Value.ref a, Value.ref b] := .cons rfl (.cons rfl .nil)
  have e0 : Env0 X.prog X.w X.K X.mg X.base X.A X.stack s H := I.env0
  have hl := F.len _ _ _ _ hsp
  refine wpAny_call (codeAny_mono (F.run X.A X.stack s H ⟨[.ref a, .ref b], []⟩ [.ref a, .ref b] [.ref a, .ref b] _ E hr e0 (by
    have bd := hb s [.ref a, .ref b] I.kIn (by simpa using hl)
    simpa using bd) vals hsp) fun r s' hq => ?_)
  cases r with
  | error e => exact hx pins σ H s e s' I hq
  | ok fl =>
    cases fl with
    | ret w =>
      obtain ⟨z, H', I', rz, c, ez, qz⟩ := I.after hq
      subst ez
      cases rz
      exact ⟨.bl c, H', I', rfl, qz⟩
    | next => exact False.elim hq
    | brk => exact False.elim hq
    | cont => exact False.elim hq
end
end My
namespace My
open PySem L2 PyProof.Rows PySem.W
/-! ### != of instances with an own __eq__ and the object's __ne__ -/
section
variable {prog : Program} {w : World} {A : Around} {E : Value → Shared → Prop} {s : Shared} {K : PySem.W.Frag} {x y C L f : Addr} {h₀ : Heap} {m : Str → Option Value} {ox : Obj} {od : Option Obj}
theorem check_ne {Q : Unit → Shared → Prop} (X : K.In s.heap) (I : PySem.W.InstAt s.heap x ox C od) (hm : PySem.W.mroIn K C (.type "object") = some true) (hq : Q () s) :
    wpAny (model prog w) A (checkBuiltinCall "object.__ne__" ⟨[.ref x, .ref y], []⟩) Q E s := by
  have L1 := PySem.W.looks_mroIn (M := model prog w) X hm
  simp only [checkBuiltinCall, F.cmpKind_ne, F.cmpSplit_ne]
  refine wpAny_bind ?_
  unfold isInstance
  refine wpAny_bind (I.type.here (L1.here ?_))
  simp only [Bool.not_true, Bool.false_eq_true, if_false]
  exact wpAny_pure hq
theorem entry_ne {Q : Fin → Shared → Prop} (hu : A.units < cLine) (X : K.In s.heap) (I : PySem.W.InstAt s.heap x ox C od) (hs : PySem.W.findIn K (.ref C) "__eq__" = some (some (.ref f))) (hf : PySem.W.isFn K (.ref f) = true)
    (hcall : wpAny (model prog w) A (call (.ref f) [.ref x, .ref y]) (fun v s' => ∃ b, v = .bool b ∧ Q (.done (.ret (.bool (!b)))) s') E s) :
    wpAny (model prog w) A (Builtin.«object.__ne__» ⟨[.ref x, .ref y], []⟩) Q E s := by
  unfold Builtin.«object.__ne__»
  repeat (first
    | with_reducible refine wpAny_cRoomFor hu ?_
    | (refine wpAny_bind (m := callSpecialIfBound? (.ref x) (Str.ofString "__eq__") [.ref y])
        (PySem.W.ifBound_K X I hs hf (wpAny_mono hcall (fun r s' hr => by
          obtain ⟨b, rfl, hq⟩ := hr
          repeat (first | exact hq | exact wpAny_pure hq | exact wpAny_truthy_bool hq | (refine wpAny_bind (m := truthy (.bool _)) (wpAny_truthy_bool ?_)) | wp_step)) fun _ _ e => e)))
    | wp_step)
theorem try_ne {Q : Option Value → Shared → Prop} (hu : A.units + 1 < cLine) (X : K.In s.heap) (I : PySem.W.InstAt s.heap x ox C od) (hm : PySem.W.mroIn K C (.type "object") = some true) (hn : PySem.W.findIn K (.ref C) "__ne__" = some (some (.builtin "object.__ne__")))
    (hs : PySem.W.findIn K (.ref C) "__eq__" = some (some (.ref f))) (hf : PySem.W.isFn K (.ref f) = true)
    (hcall : wpAny (model prog w) A.in1 (call (.ref f) [.ref x, .ref y]) (fun v s' => ∃ b, v = .bool b ∧ Q (some (.bool (!b))) s') E s) :
    wpAny (model prog w) A (tryCompare (.ref x) "__ne__" (.ref y)) Q E s := by
  have S := F.cmp_object.ne
  have one : wpAny (model prog w) A (callSpecialIfBound? (.ref x) "__ne__" [.ref y]) (fun r s' => ∃ b, r = some (.bool b) ∧ Q (some (.bool b)) s') E s := by
    simp only [callSpecialIfBound?, bindSpecialIfBound?]
    refine wpAny_holding (wpAny_bind (wpAny_bind (wpAny_bind (I.type.here ((PySem.W.looks_findIn X hn).here ?_)))))
    simp only [S.bind]
    refine wpAny_bind (wpAny_askSetting (wpAny_ite ?_))
    have fin : wpAny (model prog w) A (call (.builtin "object.__ne__") ([.ref x] ++ [.ref y]) >>= fun v => pure (some v)) (fun r s' => ∃ b, r = some (.bool b) ∧ Q (some (.bool b)) s') E s := by
      refine wpAny_bind (wpAny_call (codeAny_call_builtin S.plain F.cmpEntry_ne (check_ne X I hm (entry_ne (A := A.in1) hu X I hs hf (wpAny_mono hcall (fun v s' hv => ?_) fun _ _ e => e)))))
      obtain ⟨b, rfl, hq⟩ := hv
      exact ⟨b, rfl, wpAny_pure ⟨_, rfl, hq⟩⟩
    split
    · exact wpAny_bind (wpAny_pure (wpAny_pure fin))
    · exact wpAny_tryCatch (wpAny_bind (wpAny_pure (wpAny_pure fin)))
  unfold tryCompare
  refine wpAny_bind (wpAny_mono one (fun v s' hv => ?_) fun _ _ e => e)
  obtain ⟨b, rfl, hq⟩ := hv
  exact wpAny_pure hq
theorem ne_own {Q : Value → Shared → Prop} {oy : Obj} {odY : Option Obj} (hu : A.units + 1 < cLine) (X : K.In s.heap) (I : PySem.W.InstAt s.heap x ox C od) (J : PySem.W.InstAt s.heap y oy C odY) (hm : PySem.W.mroIn K C (.type "object") = some true) (hn : PySem.W.findIn K (.ref C) "__ne__" = some (some (.builtin "object.__ne__")))
    (hs : PySem.W.findIn K (.ref C) "__eq__" = some (some (.ref f))) (hf : PySem.W.isFn K (.ref f) = true)
    (hcall : wpAny (model prog w) A.in1 (call (.ref f) [.ref x, .ref y]) (fun v s' => ∃ b, v = .bool b ∧ Q (.bool (!b)) s') E s) :
    wpAny (model prog w) A (richCompare .NotEq (.ref x) (.ref y)) Q E s := by
  unfold richCompare
  simp only [oneThing_ref]
  refine wpAny_holding ?_
  refine wpAny_bind (wpAny_cRoomFor (Nat.lt_of_succ_lt hu) ?_)
  rw [cmpInfo_NotEq]
  dsimp only
  refine wpAny_bind (I.type.here (wpAny_bind (J.type.here ?_)))
  rw [show (Value.ref C != Value.ref C) = false from by simp]
  simp only [Bool.false_eq_true, if_false]
  refine wpAny_bind (wpAny_pure ?_)
  simp only [Bool.false_eq_true, if_false]
  refine wpAny_bind (try_ne hu X I hm hn hs hf (wpAny_mono hcall (fun v s' hv => ?_) fun _ _ e => e))
  obtain ⟨b, rfl, hq⟩ := hv
  exact ⟨b, rfl, wpAny_pure hq⟩
end
section
variable {X : Cx}
theorem op_neOwn {CX : CXT} {k : Nat} {C f : Addr} {fd : FuncData} {ps : List Str} {sp : Sp} {E : XK} (F : FnOk X.prog X.w X.K X.mg X.base CX k f fd ps sp) (hr : Room (k + 1) X.A) (hm : PySem.W.mroIn X.K C (.type "object") = some true) (hn : PySem.W.findIn X.K (.ref C) "__ne__" = some (some (.builtin "object.__ne__")))
    (hs : PySem.W.findIn X.K (.ref C) "__eq__" = some (some (.ref f))) (hf : PySem.W.isFn X.K (.ref f) = true) (hb : Binds X.K fd ps []) (hx : Passes CX X E) :
    OpR X (compareOp .NotEq) (fun x y H Q => ∃ a b dx dy fs gs, x = .ref a ∧ y = .ref b ∧ H a = some (.ins C dx fs) ∧ H b = some (.ins C dy gs) ∧ sp [x, y] H (fun v H' => ∃ c, v = .bl c ∧ Q (.bl (!c)) H') E) := by
  intro pins s σ H x y v u Q I rx ry h
  obtain ⟨a, b, dx, dy, fs, gs, rfl, rfl, ha, hb', hsp⟩ := h
  cases rx
  cases ry
  show wpAny (model X.prog X.w) X.A (richCompare .NotEq (.ref a) (.ref b)) (EP X pins σ Q) X.xe s
  obtain ⟨_, J, _⟩ := ins_get I.hok ha
  obtain ⟨_, J', _⟩ := ins_get I.hok hb'
  obtain ⟨_, J, _⟩ := J.look
  obtain ⟨_, J', _⟩ := J'.look
  have hu : X.A.units + 1 < cLine := hu_of hr
  refine ne_own hu I.kIn J J' hm hn hs hf ?_
  have vals : Vals [V.ref a, V.ref b] [Value.ref a, Value.ref b] := .cons rfl (.cons rfl .nil)
  have e0 : Env0 X.prog X.w X.K X.mg X.base X.A.in1 X.stack s H := I.env0.in1
  have hl := F.len _ _ _ _ hsp
  refine wpAny_call (codeAny_mono (F.run X.A.in1 X.stack s H ⟨[.ref a, .ref b], []⟩ [.ref a, .ref b] [.ref a, .ref b] _ E hr.in1 e0 (by
    have bd := hb s [.ref a, .ref b] I.kIn (by simpa using hl)
    simpa using bd) vals hsp) fun r s' hq => ?_)
  cases r with
  | error e => exact hx pins σ H s e s' I hq
  | ok fl =>
    cases fl with
    | ret w =>
      obtain ⟨z, H', I', rz, c, ez, qz⟩ := I.after hq
      subst ez
      cases rz
      exact ⟨c, rfl, .bl (!c), H', I', rfl, qz⟩
    | next => exact False.elim hq
    | brk => exact False.elim hq
    | cont => exact False.elim hq
/-- == of an instance with an own __eq__ and a dict -/
theorem op_eqDict {CX : CXT} {k : Nat} {C f : Addr} {fd : FuncData} {ps : List Str} {sp : Sp} {E : XK} (F : FnOk X.prog X.w X.K X.mg X.base CX k f fd ps sp) (hr : Room k X.A)
    (hs : PySem.W.findIn X.K (.ref C) "__eq__" = some (some (.ref f))) (hf : PySem.W.isFn X.K (.ref f) = true) (hnf : PySem.W.notFirst X.K C (.type "dict") = true) (hb : Binds X.K fd ps []) (hx : Passes CX X E) :
    OpR X (compareOp .Eq) (fun x y H Q => ∃ a d dx fs kvs, x = .ref a ∧ y = .ref d ∧ H a = some (.ins C dx fs) ∧ H d = some (.dK kvs) ∧ sp [x, y] H (fun v H' => ∃ c, v = .bl c ∧ Q (.bl c) H') E) := by
  intro pins s σ H x y v u Q I rx ry h
  obtain ⟨a, b, dx, fs, kvs, rfl, rfl, ha, hb', hsp⟩ := h
  cases rx
  cases ry
  show wpAny (model X.prog X.w) X.A (richCompare .Eq (.ref a) (.ref b)) (EP X pins σ Q) X.xe s
  obtain ⟨_, J, _⟩ := ins_get I.hok ha
  obtain ⟨_, J, _⟩ := J.look
  obtain ⟨_, _, _, _, ob, es, ep, e, ⟨hcls, _⟩, _⟩ := (show ObjOk X.prog X.w H s.heap b (.dK kvs) from I.hok b _ hb')
  have hty : PySem.W.Looks (model X.prog X.w) s.heap (typeOf (.ref b)) (.type "dict") := hcls ▸ (PySem.W.Looks.ld e).andThen .now
  obtain ⟨m, hF⟩ := I.fr
  refine PySem.W.cmp_K (op := .Eq) (tb := .type "dict") hr.units0 hF I.ok.mod.kin J hty hnf hs hf ?_
  have vals : Vals [V.ref a, V.ref b] [Value.ref a, Value.ref b] := .cons rfl (.cons rfl .nil)
  have e0 : Env0 X.prog X.w X.K X.mg X.base X.A X.stack s H := I.env0
  have hl := F.len _ _ _ _ hsp
  refine wpAny_call (codeAny_mono (F.run X.A X.stack s H ⟨[.ref a, .ref b], []⟩ [.ref a, .ref b] [.ref a, .ref b] _ E hr e0 (by
    have bd := hb s [.ref a, .ref b] I.kIn (by simpa using hl)
    simpa using bd) vals hsp) fun r s' hq => ?_)
  cases r with
  | error e => exact hx pins σ H s e s' I hq
  | ok fl =>
    cases fl with
    | ret w =>
      obtain ⟨z, H', I', rz, c, ez, qz⟩ := I.after hq
      subst ez
      cases rz
      exact ⟨.bl c, H', I', rfl, qz⟩
    | next => exact False.elim hq
    | brk => exact False.elim hq
    | cont => exact False.elim hq
def tMethKK (C : Addr) (m : Str) (sp : Sp) (gV : List V → List V → List V) (E : XK) (ta : TE) (tk : TA) : TE := fun σ H Q => ta σ H fun x H1 => ∃ a dx fs, x = .ref a ∧ H1 a = some (.ins C dx fs) ∧ fs.lookup m = none ∧ tk σ H1 fun zs H2 => sp (gV [x] zs) H2 Q E
/-- o.m(a=.., b=..) -/
theorem pe_methKK {CX : CXT} {k : Nat} {f C : Addr} {fd : FuncData} {ps ks : List Str} {sp : Sp} {E : XK} {m : Str} {pos apos : Pos} {o : Expr} {kws : List Keyword} {ta : TE} {tk : TA} {g : List Value → List Value → List Value} {gV : List V → List V → List V} {pl : Sem Bool} (he : PE X o ta) (c : Cls X.K C) (hm : Meth X.K C m f) (F : FnOk X.prog X.w X.K X.mg X.base CX k f fd ps sp) (hr : Room k X.A) (hb : KBinds X.K fd ps ks g gV) (hx : Passes CX X E)
    (hkw : PK X kws tk) (hall : (backToKw pos (keywordEach kws X.env)).all (·.1.isSome) = true := by rfl) (hks : (backToKw pos (keywordEach kws X.env)).filterMap (·.1) = ks := by rfl)
    (hpl : ((backTo pos (starEach [] X.env)).any (·.1) || (backToKw pos (keywordEach kws X.env)).any (·.1.isNone)) = false := by rfl)
    (ht : eval (.Call (.Attribute o m apos) [] kws pos) X.env = (do
      let ov ← eval o X.env
      standAt apos.atName
      let (f, first) ← holding [ov] (getMethod ov m pl)
      callWith pos f first (backTo pos (starEach [] X.env)) (backToKw pos (keywordEach kws X.env))) := by rfl) :
    PE X (.Call (.Attribute o m apos) [] kws pos) (tMethKK C m sp gV E ta tk) := by
  refine ⟨fun pins s σ H Q I h => ?_⟩
  refine PySem.W.methodCall_KW (pl := pl) (thn (he.run pins s σ H _ I h) fun u s1 ⟨x, H1, I1, rx, a, dx, fs, ex, ea, l, q⟩ => ?_) ht
  subst ex
  obtain rfl : u = Value.ref a := rx
  refine getmeth_ok I1 ea c hm l ?_
  refine PySem.W.callWith_KW0 (first := [.ref a]) (h₀ := X.base) I.ok.mod.kin hm.kp hall (thn (hkw.run pos pins s1 σ H1 _ I1 q) fun ws s2 ⟨zs, H2, I2, rz, q2⟩ => ⟨I2.kIn, ?_⟩) hpl
  rw [hks]
  exact run_fnk (us := [.ref a]) (vs := [.ref a]) F hr hb hx I2 (.cons rfl .nil) rz q2
end
end My
namespace My
open PySem L2 PyProof.Rows
theorem bl_is1 {x : Bool} {Q : VK} {H : Hp} (h : x = true) (q : Q (.bl true) H) : Q (.bl x) H := by
  rw [h]
  exact q
/-! ### a list that nobody asks for any more is forgotten -/
section
variable {X : Cx} {pins : List (Addr × Obj)} {σ : L2.St} {H1 H2 : Hp} {s : Shared} {D : Addr} {xs : List V}
theorem inv_drop (I : Inv X pins σ H1 s) (e : H1 = upd H2 D (.lst xs)) (n : H2 D = none) : Inv X pins σ H2 s := by
  subst e
  have off : ∀ b, upd H2 D (.lst xs) b = none → H2 b = none := fun b h => by
    by_cases hb : b = D
    · rw [hb]; exact n
    · rw [upd_ne hb] at h; exact h
  have back : ∀ b o, o ≠ HO.lst xs → upd H2 D (.lst xs) b = some o → H2 b = some o := fun b o ho h => by
    by_cases hb : b = D
    · subst hb
      rw [upd_same] at h
      exact absurd (Option.some.inj h).symm ho
    · rw [upd_ne hb] at h; exact h
  refine ⟨I.ok, I.os, I.bare, ?_, I.loc, I.cell, off _ I.free, fun x c h => off _ (I.freeC x c h), fun p hp => ?_, ?_, I.len⟩
  · have u := I.base
    refine ⟨u.keep, u.slot, fun b o h1 h2 h3 => off _ (u.free b o h1 h2 h3), u.there, fun b ys h => back _ _ (by intro z; cases z) (u.tups b ys h), fun b o v h => back _ _ (by intro z; cases z) (u.frzs b o v h), fun b ps h => ?_⟩
    obtain ⟨more, h⟩ := u.tbls b ps h
    exact ⟨more, back _ _ (by intro z; cases z) h⟩
  · obtain ⟨a, b, c⟩ := I.pin p hp
    exact ⟨a, off _ b, c⟩
  · intro a o h
    have ha : a ≠ D := fun z => by rw [z, n] at h; cases h
    refine (I.hok a o (by rw [upd_ne ha]; exact h)).stay (fun _ _ _ z => z) (fun b h => back _ _ (by intro z; cases z) h) (fun b ys h => back _ _ (by intro z; cases z) h)
theorem pe_drop {e : Expr} {te : TE} (he : PE X e te) : PE X e (fun σ H Q => te σ H fun v H1 => ∃ D xs H2, H1 = upd H2 D (.lst xs) ∧ H2 D = none ∧ Q v H2) := by
  refine ⟨fun pins s σ H Q I h => ?_⟩
  exact wpAny_mono (he.run pins s σ H _ I h) (fun u s1 ⟨v, H1, I1, r, D, xs, H2, e, n, q⟩ => ⟨v, H2, inv_drop I1 e n, r, q⟩) fun _ _ h => h
theorem ix_seqK {K : PySem.W.Frag} (h : X.K = K) : IxR X (rIx K) := h ▸ ix_seq
end
end My
namespace My
open PySem L2 PyProof.Rows
/-! ### contracts of defs that are called where nothing is being shown -/
structure FnG (P : Program) (w : World) (K : PySem.W.Frag) (mg : Str → Option Value) (base : Heap) (k : Nat) (f : Addr) (fd : FuncData) (ps : List Str) (sp : Sp) : Prop where
  len : ∀ vs H Q E, sp vs H Q E → vs.length = ps.length
  run : ∀ (A : Around) (outer : List Env) (s : Shared) (H : Hp) (args : Args) (us : List Value) (vs : List V) (Q : VK) (E : XK), Room k A → A.guards = some [] → Env0 P w K mg base A outer s H → BindsTo s fd args (ps.zip us) → Vals vs us → sp vs H Q E →
    codeAny (model P w) A (.call (.ref f) args) (CR CX0 outer P w H s Q E) s
section
variable {P : Program} {w : World} {K : PySem.W.Frag} {mg : Str → Option Value} {base : Heap}
theorem FnG.ofOk {k : Nat} {f : Addr} {fd : FuncData} {ps : List Str} {sp : Sp} (F : FnOk P w K mg base CX0 k f fd ps sp) : FnG P w K mg base k f fd ps sp :=
  ⟨F.len, fun A outer s H args us vs Q E hr _ he hb hv hs => F.run A outer s H args us vs Q E hr he hb hv hs⟩
theorem FnG.ofBody {x qual : Str} {st : Stmt} {f : Addr} {fd : FuncData} {N ps : List Str} {k : Nat} {sp : Sp} (F : Fun K x qual st f fd) (S : FnScope N ps (defScope st)) (len : ∀ vs H Q E, sp vs H Q E → vs.length = ps.length)
    (body : ∀ (cdv : Value) (A : Around) (outer : List Env) (s : Shared) (H : Hp) (vs : List V) (Q : VK) (E : XK), Room k (A.deeper (envOfC qual (defScope st) s.heap.objs.size f cdv)) → A.guards = some [] → sp vs H Q E →
      ∃ t, PSs (cxOf CX0 P w K mg base N qual (defScope st) f cdv A outer s H E).nox (defBody st) t ∧ t { nx := fun _ H' => Q .non H', rt := Q } (start N vs) H) : FnG P w K mg base (k + 1) f fd ps sp := by
  obtain ⟨oc, od, kV, doc, pm, an, cdv, ct, osl, rfl, lk, hcd⟩ := F.ex
  constructor
  · exact len
  intro A outer s H args us vs Q E room quiet env bound rel want
  have many := len _ _ _ _ want
  have inK : K.In s.heap := env.mod.kin.keeps (fun b o e => (env.bs b o e).1)
  have unlimited : s.heap.NoLimit := env.mod.nolimit.keeps (fun b o e => (env.bs b o e).1)
  have kinds : ∀ y ∈ ps.zip us, (defScope st).names.lookup y.1 = some .local ∨ ((defScope st).names.lookup y.1 = some .cell ∧ ((cellsFrom (s.heap.objs.size + 1) (defScope st).names []).lookup y.1).isSome = true) := by
    rintro ⟨n, v⟩ hy
    exact (S.par n (List.of_mem_zip hy).1).imp id (fun q => ⟨q, PySem.W.cellsFrom_some _ _ _ (.inl q)⟩)
  refine codeAny_call_function room.depth (inK _ _ lk) rfl S.co S.gen rfl (PySem.W.codeRec_of inK hcd) (bound _ _ _ _ (wpAny_newFunctionEnv_cells S.kind kinds ?_))
  rintro env' rfl s1 x
  obtain ⟨t, ht, hq⟩ := body cdv A outer s H vs Q E (room.deeper _) quiet want
  have I := inv_start (CX := CX0) (E := E) S room.hd env many rel x
  refine ⟨unlimited.keeps x.toInCall.keep, codeAny_func (wpAny_mono (ht.nox.run [] s1 (start N vs) H _ I hq) ?_ (fun _ _ h => h))⟩
  intro fl s' hs
  cases fl with
  | ret u =>
    obtain ⟨v, σ', H', J, rv, q⟩ := hs
    exact ⟨v, H', J.os, J.bare, J.base, J.hok, rv, q⟩
  | next =>
    obtain ⟨σ', H', J, q⟩ := hs
    exact ⟨V.non, H', J.os, J.bare, J.base, J.hok, (rfl : RelV V.non Value.none), q⟩
  | brk => exact hs.elim fun _ h => h.elim fun _ h => h.2.elim
  | cont => exact hs.elim fun _ h => h.elim fun _ h => h.2.elim
end
section
variable {X : Cx} {k : Nat} {f : Addr} {fd : FuncData} {ps ks : List Str} {sp : Sp} {ds : List Value} {x : Str} {p pos : Pos} {e : Expr} {es : List Expr} {kws : List Keyword} {t tk : TA} {g : List Value → List Value → List Value} {gV : List V → List V → List V}
theorem run_fnG {pins : List (Addr × Obj)} {σ : L2.St} {H : Hp} {s : Shared} {Q : VK} {us ws : List Value} {vs zs : List V} (F : FnG X.prog X.w X.K X.mg X.base k f fd ps sp) (hr : Room k X.A) (quiet : X.A.guards = some []) (hb : KBinds X.K fd ps ks g gV)
    (I : Inv X pins σ H s) (r : Vals vs us) (rz : Vals zs ws) (h : sp (gV vs zs) H Q E0) : wpAny (model X.prog X.w) X.A (call (.ref f) us (ks.zip ws)) (EP X pins σ Q) X.xe s := by
  have r2 := hb.rel r rz
  have many : (g us ws).length = ps.length := r2.length.symm.trans (F.len _ _ _ _ h)
  refine wpAny_call (codeAny_mono (F.run X.A X.stack s H _ _ _ Q E0 hr quiet I.env0 (hb.to s us ws I.kIn many) r2 h) ?_)
  rintro (e | fl) s' hq
  · exact False.elim hq
  cases fl with
  | ret u => exact I.after hq
  | next | brk | cont => exact hq.elim
/-- arguments by place alone -/
theorem KBinds.none {K : PySem.W.Frag} {fd : FuncData} {ps : List Str} (b : Binds K fd ps []) : KBinds K fd ps [] (fun us _ => us) (fun vs _ => vs) := by
  refine ⟨fun s us ws X hl => ?_, fun r _ => r⟩
  have := b s us X (by rw [List.append_nil]; exact hl)
  rw [List.append_nil] at this
  exact this
theorem pe_callG (F : FnG X.prog X.w X.K X.mg X.base k f fd ps sp) (hr : Room k X.A) (quiet : X.A.guards = some []) (hg : Gl X x) (hm : X.mg x = some (.ref f)) (hk : PySem.W.keepIn X.K (.ref f) = true) (hb : Binds X.K fd ps [])
    (ha : PA X (e :: es) t) (hdb : (x == ("__debug__" : Str)) = false := by decide) (he : starEach (e :: es) X.env = (false, eval e X.env) :: starEach es X.env := by rfl) (hpl : (backTo pos (starEach es X.env)).any (·.1) = false := by rfl) :
    PE X (.Call (.Name x p) (e :: es) [] pos) (tCall sp [] E0 t) := by
  constructor
  intro pins s σ H Q I h
  refine wpAny_Call_Name_kw (ld_glob I hg hm (PySem.W.callWith_K (h₀ := X.base) I.ok.mod.kin hk (thn (ha.run pos pins s σ H _ I h) ?_) he hpl) hdb)
  rintro us s1 ⟨vs, H1, I1, r, q⟩
  refine ⟨I1.kIn, ?_⟩
  have q' : sp vs H1 Q E0 := by
    have q2 : sp (vs ++ []) H1 Q E0 := q
    rwa [List.append_nil] at q2
  exact run_fnG (ws := []) (zs := []) F hr quiet (KBinds.none hb) I1 r .nil q'
end
/-! ### a law whose promise is kept where nothing is being shown -/
theorem quiet_caller : callerA.guards = some [] := rfl
/-- from an abstract heap in which at most the script is told -/
theorem law_from {P : Program} {w : World} {K : PySem.W.Frag} {mg mb : Str → Option Value} {k : Nat} {fa a : Addr} {fd : FuncData} {x : Str} {sp : Sp} {s₁ : Shared} {vs : List Value} {H : Hp}
    (inK : K.In s₁.heap) (main : s₁.heap.Ns mainGlobals mg) (bui : s₁.heap.Ns builtinsNs mb) (same : ∀ x : Str, x ≠ "__name__" → mb x = bootBuiltins x) (lim : s₁.heap.NoLimit) (gens : s₁.gens = #[])
    (at_a : s₁.heap.get? a = some { cls := .type "list", data := .seq vs.toArray }) (room : Room k callerA)
    (F : ∀ base : Heap, K.In base → base.Ns mainGlobals mg → FnG P w K mg base k fa fd [x] sp) (bound : ∀ (s : Shared) (u : Value), BindsTo s fd ⟨[u], []⟩ [(x, u)])
    (only : Only H) (hok : HOk P w H s₁.heap) (isA : ∀ b, H b ≠ none → b = a) (notK : H a ≠ none → K.lookup a = none) (want : sp [.ref a] H (fun v _ => v = .bl true) fun _ _ _ => False) :
    codeAny (model P w) callerA (.call (.ref fa) ⟨[.ref a], []⟩) (fun r s' => r = .ok (.ret (.bool true)) ∧ OldK s₁.heap s'.heap ∧ s'.os = s₁.os ∧ AllBare s'.gens) s₁ := by
  have free : ∀ b, b ≠ a → H b = none := by
    intro b hb
    cases q : H b with
    | none => rfl
    | some u => exact absurd (isA b (fun z => by rw [z] at q; cases q)) hb
  have shown : ∀ {b : Addr} {o : Obj}, s₁.heap.get? b = some o → H b = none → (hidT s₁.heap H).get? b = some o := fun e n => hidT_get e n
  have names : ∀ {b : Addr} {m : Str → Option Value}, s₁.heap.Ns b m → (hidT s₁.heap H).Ns b m := by
    rintro b m ⟨o, es, ep, e, d, r⟩
    refine ⟨o, es, ep, shown e (free b ?_), d, r⟩
    rintro rfl
    rw [at_a] at e
    cases e
    exact nomatch d
  have inHid : K.In (hidT s₁.heap H) := by
    intro b o e
    refine shown (inK b o e) ?_
    cases q : H b with
    | none => rfl
    | some u =>
      have ne : H b ≠ none := fun z => by rw [z] at q; cases q
      have eb := isA b ne
      subst eb
      rw [notK ne] at e
      cases e
  obtain ⟨mc, l1, l2⟩ := lim
  have env : Env0 P w K mg (hidT s₁.heap H) callerA [] s₁ H := {
    frames := rfl
    mod := ⟨inHid, names main, ⟨mb, names bui, same⟩, ⟨mc, names l1, l2⟩⟩
    bs := fun _ _ e => of_hidT e
    bsz := Nat.le_of_eq (hidT_size _ _)
    funs := trivial
    frf := fun b hb => nomatch (show b ∈ ([] : List Addr) from hb)
    hok := hok
    bare := .of_eq gens }
  refine codeAny_mono ((F _ inHid (names main)).run callerA [] s₁ H ⟨[.ref a], []⟩ [.ref a] [.ref a] _ _ room quiet_caller env (bound s₁ (.ref a)) (.cons rfl .nil) want) ?_
  rintro (e | fl) s' h
  · exact False.elim h
  cases fl with
  | next | brk | cont => exact False.elim h
  | ret u =>
    obtain ⟨v, H', os, bare, un, hok', rel, q⟩ := h
    cases (show v = .bl true from q)
    cases (show u = Value.bool true from rel)
    refine ⟨rfl, .of_keep ?_, os, bare⟩
    intro b o e
    rcases only b with z | ⟨ob, xs, z⟩
    · exact un.keep b o e z (fun m => nomatch (show b ∈ ([] : List Addr) from m)) (fun m => nomatch m)
    · have z2 := un.frzs b ob _ z
      have e1 := (hok b _ z).1
      rw [e] at e1
      cases e1
      exact (hok' b _ z2).1
theorem law_callG {P : Program} {w : World} {K : PySem.W.Frag} {mg mb : Str → Option Value} {k : Nat} {fa a : Addr} {fd : FuncData} {x : Str} {sp : Sp} {s₁ : Shared} {vs : List Value} {ns : List Int}
    (inK : K.In s₁.heap) (main : s₁.heap.Ns mainGlobals mg) (bui : s₁.heap.Ns builtinsNs mb) (same : ∀ x : Str, x ≠ "__name__" → mb x = bootBuiltins x) (lim : s₁.heap.NoLimit) (gens : s₁.gens = #[])
    (at_a : s₁.heap.get? a = some { cls := .type "list", data := .seq vs.toArray }) (hints : IntsAre vs ns) (short : ns.length ≤ sizeLine) (room : Room k callerA)
    (F : ∀ base : Heap, K.In base → base.Ns mainGlobals mg → FnG P w K mg base k fa fd [x] sp) (bound : ∀ (s : Shared) (u : Value), BindsTo s fd ⟨[u], []⟩ [(x, u)])
    (want : ∀ H : Hp, Only H → SqL K H a (ns.map V.int) → sp [.ref a] H (fun v _ => v = .bl true) fun _ _ _ => False) :
    codeAny (model P w) callerA (.call (.ref fa) ⟨[.ref a], []⟩) (fun r s' => r = .ok (.ret (.bool true)) ∧ OldK s₁.heap s'.heap ∧ s'.os = s₁.os ∧ AllBare s'.gens) s₁ := by
  have rel := vals_ints hints
  have many := hints.length
  have go := fun (H : Hp) (o : Only H) hok isA notK w => law_from (mb := mb) inK main bui same lim gens at_a room F bound (H := H) o hok isA notK w
  cases hk : K.lookup a with
  | some o =>
    have e := inK a o hk
    rw [at_a] at e
    cases e
    have nobody : Only (fun _ => none) := fun _ => .inl rfl
    refine go _ nobody (fun b u z => nomatch (show (none : Option HO) = some u from z)) (fun b z => absurd rfl z) (fun z => absurd rfl z) (want _ nobody (.inr ⟨_, vs.toArray, _, hk, rfl, rfl, rfl, ?_, ?_⟩))
    · rw [List.size_toArray, many]
      exact short
    · simpa using rel
  | none =>
    have key : ∃ H : Hp, H = fun b => if b = a then some (.frz { cls := .type "list", data := .seq vs.toArray } (.lst (ns.map V.int))) else none := ⟨_, rfl⟩
    obtain ⟨H, eH⟩ := key
    have there : H a = some (.frz { cls := .type "list", data := .seq vs.toArray } (.lst (ns.map V.int))) := by rw [eH]; exact if_pos rfl
    have else_ : ∀ b, b ≠ a → H b = none := fun b hb => by rw [eH]; exact if_neg hb
    have only : Only H := fun b => by
      by_cases hb : b = a
      · rw [hb]; exact .inr ⟨_, _, there⟩
      · exact .inl (else_ b hb)
    refine go H only (fun b u z => ?_) (fun b z => ?_) (fun _ => hk) (want H only (.inl (.inr ⟨_, there⟩)))
    · by_cases hb : b = a
      · subst hb
        rw [there] at z
        cases z
        exact ⟨at_a, by rw [List.length_map]; exact short, vs, _, rel, at_a⟩
      · rw [else_ b hb] at z
        cases z
    · by_cases hb : b = a
      · exact hb
      · exact absurd (else_ b hb) z
theorem walk_ofG {l : PySem.W.OpenLaw} {n k : Nat} {q : Program} {loose : List Str} {XP : (Str → Option Value) → Heap → Prop} {YP : World → Heap → Prop} {d : DefRec} {K : Params → PySem.W.Frag} {sp : World → Sp} {x : Str}
    (hn : l.most = some n) (hn2 : n ≤ sizeLine) (hdf : d.params.defaults = []) (room : Room k callerA) (hY : ∀ (w : World) (h : Heap), YP w h → (K w.params).In h)
    (F : ∀ (w : World) (mg : Str → Option Value) (fa : Addr) (h : Heap), (K w.params).In h → h.Ns mainGlobals mg → mg d.name = some (.ref fa) →
      ∃ fd : FuncData, (∀ (s : Shared) (u : Value), BindsTo s fd ⟨[u], []⟩ [(x, u)]) ∧ ∀ base : Heap, (K w.params).In base → base.Ns mainGlobals mg → FnG l.prog w (K w.params) mg base k fa fd [x] (sp w))
    (want : ∀ (w : World) (H : Hp) (a : Addr) (ns : List Int), ns.length ≤ n → Only H → SqL (K w.params) H a (ns.map V.int) → sp w [.ref a] H (fun v _ => v = .bl true) fun _ _ _ => False) :
    PySem.W.WalkO q loose XP YP l.row.toRowW d [] (fun f vs => PySem.call f vs) := by
  apply Att.attach_call hn hdf
  intro w s₀ s₁ mg mb fa o pm cd doc a vs ns G Y ho hd hcd hmg hobj hints hlen hg
  have inK := hY w _ Y
  obtain ⟨fd, bound, hF⟩ := F w mg fa _ inK G.T.g hmg
  exact law_callG inK G.T.g G.T.b G.T.builtins G.T.nolimit hg hobj hints (Nat.le_trans hlen hn2) room hF bound (fun H hO hS => want w H a ns hlen hO hS)
/-! ### repr of a list -/
section
variable {X : Cx}
theorem call_repr_data (quiet : X.A.guards = some []) (hu : X.A.units + 70 < cLine) : CallR X (.builtin "repr") (fun xs H Q => ∃ a d, xs = [.ref a] ∧ Dp X.K H (.ref a) d ∧ d.showable = true ∧ d.hasDict = false ∧ d.depth ≤ 60 ∧ d.shown.length ≤ sizeLine ∧ Q (.str d.shown) H) := by
  intro pins s σ H xs us Q I r h
  obtain ⟨a, d, rfl, hd, hs, hnd, hdp, hz, q⟩ := h
  obtain ⟨u, rfl, e⟩ := vals1 r
  cases e
  obtain ⟨as, rd⟩ := Dp.reads I d _ _ hd (rfl : RelV (.ref a) (.ref a))
  exact repr_of_reads' rd hs (PyData.noDict_hsm hnd) quiet (by omega) (fun _ _ e => e) (fun h' u tk hk => ⟨.str _, H, I.kept hk, ⟨_, rfl⟩, q⟩) hz
end
end My
namespace My
open PySem L2 PyProof.Rows
/-! ### the rules within a comprehension -/
section
variable {X : Cx} {K : PySem.W.Frag}
theorem ix_listK (h : X.K = K) : IxR X (rIxL K) := h ▸ ix_list
theorem ix_tupK (h : X.K = K) : IxR X (rIxT K) := h ▸ ix_tup
theorem pi_listK {tg l : Expr} {tl : TE} (h : X.K = K) (hl : PE X l tl) : PI X tg l (iList K tl) := h ▸ pi_list hl
theorem call_len_seqK (h : X.K = K) : CallR X (.builtin "len") (fun xs H Q => ∃ p ys, xs = [V.ref p] ∧ (SqL K H p ys ∨ SqT K H p ys) ∧ Q (.int (ys.length : Int)) H) := h ▸ call_len_seq
theorem op_in_seqK (h : X.K = K) : OpR X (compareOp .In) (rIn K false) := h ▸ op_in_seq
theorem op_notIn_seqK (h : X.K = K) : OpR X (compareOp .NotIn) (rIn K true) := h ▸ op_notIn_seq
end
theorem mt_indexK {X : Cx} {K : PySem.W.Frag} (h : X.K = K) : MtR X "list.index" (rIndex K) := h ▸ mt_index
theorem pe_bmK {X : Cx} {K : PySem.W.Frag} {o e : Expr} {es : List Expr} {to : TE} {t : TA} {name : Str} {apos cpos : Pos} {T id : String} {r : V → List V → Hp → VK → Prop} (h : X.K = K) (pa : PlainAttrs T) (slot : Slot T name id) (hty : typeOf (.builtin id) = pure (.type "method_descriptor")) (hm : MtR X id r) (ho : PE X o to) (ha : PA X (e :: es) t)
    (hbase : attributeBase o name X.env (eval o X.env) = eval o X.env := by rfl)
    (hfew : ((backTo cpos (starEach (e :: es) X.env)).all (fun x => !x.1) && (backToKw cpos (keywordEach [] X.env)).all (fun x => x.1.isSome)
      && decide ((e :: es).length + ([] : List Keyword).length + (if ([] : List Keyword).isEmpty then 0 else 1) < 30)) = true := by rfl)
    (hline : (apos.endLine == cpos.line) = true := by rfl) (hs : starEach (e :: es) X.env = (false, eval e X.env) :: starEach es X.env := by rfl) (hplain : (backTo cpos (starEach es X.env)).any (·.1) = false := by rfl) :
    PE X (.Call (.Attribute o name apos) (e :: es) [] cpos) (tBM K T r to t) := h ▸ pe_bm pa slot hty hm ho ha hbase hfew hline hs hplain
/-- a field, read within a comprehension -/
theorem pe_fldK {X : Cx} {K : PySem.W.Frag} {e : Expr} {ta : TE} {f : Str} {pos : Pos} (h : X.K = K) (he : PE X e ta) (hb : attributeBase e f X.env (eval e X.env) = eval e X.env := by rfl) : PE X (.Attribute e f pos) (tFld K ta f) := h ▸ pe_fld he hb
theorem pe_fldA {X : Cx} {e : Expr} {ta : TE} {f : Str} {pos : Pos} (he : PE X e ta) (hb : attributeBase e f X.env (eval e X.env) = eval e X.env := by rfl) : PE X (.Attribute e f pos) (tFld X.K ta f) := pe_fld he hb
/-! ### defs that may show a value (repr) -/
theorem hu70 {k : Nat} {A : Around} (h : Room k A) : A.units + 70 < cLine := by
  have := h.un
  omega
theorem u65 {k : Nat} {A : Around} (h : Room k A) : A.units + 65 < cLine := by
  have := h.un
  omega
section
variable {P : Program} {w : World} {K : PySem.W.Frag} {mg : Str → Option Value} {base : Heap}
def GoodG (P : Program) (w : World) (K : PySem.W.Frag) (mg : Str → Option Value) (base : Heap) (x : Str) (st : Stmt) (ps : List Str) (k : Nat) (sp : Sp) : Prop := ∃ (f : Addr) (fd : FuncData), FnG P w K mg base k f fd ps sp ∧ mg x = some (.ref f) ∧ PySem.W.keepIn K (.ref f) = true ∧ Binds K fd ps [] ∧ Fun K x x st f fd
theorem Def.goodG {x : Str} {st : Stmt} {ps : List Str} {k : Nat} {sp : Sp} (D : Def K mg x st ps) (h : ∀ f fd, Fun K x x st f fd → FnG P w K mg base k f fd ps sp) : GoodG P w K mg base x st ps k sp := by
  obtain ⟨f, fd, F, m, b⟩ := D
  exact ⟨f, fd, h f fd F, m, F.kp, b, F⟩
end
end My
/-! enumerate(t), t a tuple -/
namespace My
open PySem PySem.Spec PyProof.Rows L2
open AutoSeq1 (wpAny_loadPart')
theorem enum_new_tup (q : Addr) (ys : Array Value) (m : Nat) (dc : Option Addr) (sl : Array (Option Value)) :
    Meets (Builtin.«enumerate.__new__» ⟨[.type "enumerate", .ref q], []⟩) (fun _ R s => s.heap.get? q = some { cls := .type "tuple", dict := dc, data := .seq ys m, slots := sl } ∧
      R (.ok (.ret (.ref (s.heap.push { cls := .type "tuple_iterator", data := .fields #[.ref q, .int 0 0] }).objs.size)))
        { s with heap := (s.heap.push { cls := .type "tuple_iterator", data := .fields #[.ref q, .int 0 0] }).push { cls := .type "enumerate", data := .fields #[.none, .bool false, .ref s.heap.objs.size, rawInt 0, .none, .none] } }) :=
  .of_wp fun prog w A R s k => by
    obtain ⟨hh, g, dr, tk, os⟩ := s
    obtain ⟨kq, k⟩ := k
    have hsub := sub_enumerate
    have hT : Heap.IsTuple (Shared.heap ⟨hh, g, dr, tk, os⟩) q ys := ⟨_, kq, rfl, m, rfl⟩
    wp_walk using wpAny_loadPart' kq
    refine wpAny_stack_any fun _ => wpAny_pure ?_
    split
    · rename_i c _ _ _ _ _
      cases (c == Value.type "enumerate") <;>
        (wp_walk using wpAny_loadPart' kq, wpAny_pyIter_tuple hT
         exact ⟨_, rfl, k⟩)
    · wp_walk using wpAny_loadPart' kq, wpAny_pyIter_tuple hT
      exact ⟨_, rfl, k⟩
section
variable {prog : Program} {w : World} {A : Around} {E : Value → Shared → Prop} {s : Shared}
theorem call_enum_tup {q : Addr} {ys : Array Value} {Q : Value → Shared → Prop} (hT : s.heap.IsTuple q ys)
    (k : ∀ h', IsEnum h' (s.heap.objs.size + 1) s.heap.objs.size 0 .none → h'.IsTupleIter s.heap.objs.size q 0 → h'.objs.size = s.heap.objs.size + 2 →
      (∀ b o, s.heap.get? b = some o → h'.get? b = some o) → Q (.ref (s.heap.objs.size + 1)) { s with heap := h' }) :
    wpAny (model prog w) A (call (.type "enumerate") [.ref q]) Q E s := by
  obtain ⟨⟨cl, dc, dt, sl⟩, kq, ec, m, ed⟩ := hT
  cases (show cl = .type "tuple" from ec)
  cases (show dt = .seq ys m from ed)
  refine callType_new F.called_enumerate (by decide) (F.typeCall_enumerate_1 _) (F.newCall_enumerate_1 _) (fun obj => F.args_object_init_2 obj _) F.entry_enumerate_new
    (enum_new_tup q ys m dc sl) ⟨kq, ?_⟩
  have z1 : (s.heap.push { cls := .type "tuple_iterator", data := .fields #[.ref q, .int 0 0] }).objs.size = s.heap.objs.size + 1 := Heap.size_push ..
  show _ ∧ _
  rw [z1]
  have he : IsEnum ((s.heap.push { cls := .type "tuple_iterator", data := .fields #[.ref q, .int 0 0] }).push
      { cls := .type "enumerate", data := .fields #[.none, .bool false, .ref s.heap.objs.size, rawInt 0, .none, .none] }) (s.heap.objs.size + 1) s.heap.objs.size 0 .none := by
    have z2 := Heap.get?_push_size (s.heap.push { cls := .type "tuple_iterator", data := .fields #[.ref q, .int 0 0] })
      (o := { cls := .type "enumerate", data := .fields #[.none, .bool false, .ref s.heap.objs.size, rawInt 0, .none, .none] }) rfl
    rwa [z1] at z2
  exact ⟨⟨_, he, rfl⟩, k _ he ⟨_, Heap.get?_push_of_some _ (Heap.get?_push_size _ rfl), rfl, rfl⟩ (by rw [Heap.size_push, z1]) fun b o x => Heap.get?_push_of_some _ (Heap.get?_push_of_some _ x)⟩
end
/-- the tuple at a, each item in a new pair -/
def Ity (K : PySem.W.Frag) (a : Addr) : It :=
  ⟨fun i H => ∃ (xs : List V) (x : V), SqT K H a xs ∧ xs[i]? = some x, fun i H v H' => ∃ T x, v = .ref T ∧ H T = none ∧ H' = upd H T (.tup [.int (i : Nat), x]) ∧ ∀ xs, SqT K H a xs → xs[i]? = some x, fun i H => ∃ xs : List V, SqT K H a xs ∧ xs.length = i⟩
theorem walk_enumT {K : PySem.W.Frag} {a : Addr} {xs : List V} : Walk (Ity K a) xs.length (fun H => SqT K H a xs) (YPair (fun i => some (.int (i : Nat))) (fun i => xs[i]?)) := by
  refine ⟨fun i _ hi q => ⟨xs, xs[i], q, List.getElem?_eq_getElem hi⟩, fun _ q => ⟨xs, q, rfl⟩, fun i H v H' _ q y => ?_⟩
  obtain ⟨T, x, y1, y2, y3, y4⟩ := y
  exact ⟨T, .int (i : Nat), x, y1, y2, y3, rfl, y4 xs q⟩
theorem turn_enumT {P : Program} {w : World} {K : PySem.W.Frag} {elts : List Expr} {kk : Nat} {tpos : Pos} (a e it : Addr) (nai : a ≠ it) (nea : e ≠ a) :
    Turn P w K (.Tuple elts kk tpos) (Ity K a) [e, it] e (fun i h => (∃ old, IsEnum h e it ((i : Nat) : Int) old) ∧ h.IsTupleIter it a i ∧ e ≠ it) where
  mem := by simp
  obj := fun i h st b hb => by
    obtain ⟨⟨old, he⟩, ⟨o, ho, hc, hd⟩, _⟩ := st
    rcases (show b = e ∨ b = it by simpa using hb) with z | z
    · subst z; exact ⟨_, he, fun v q => nomatch q⟩
    · subst z; exact ⟨o, ho, fun v q => by rw [hd] at q; cases q⟩
  keep := fun i h h' st k => let ⟨⟨old, he⟩, hi, hne⟩ := st; ⟨⟨old, k e (by simp) _ he⟩, hi.at fun o q => k it (by simp) o q, hne⟩
  item := by
    intro X hP hw hK hc i pins s σ H E I hf st hg
    subst hP hw hK
    obtain ⟨⟨old, he⟩, hit, hne⟩ := st
    obtain ⟨xs, x, hq, hx⟩ := hg
    obtain ⟨its, rv, p, hz⟩ := I.tuple hq
    obtain ⟨u, hu, ru⟩ := rv.get hx
    have le : e < s.heap.objs.size := Heap.lt_size he
    have li : it < s.heap.objs.size := by obtain ⟨_, q, _⟩ := hit; exact Heap.lt_size q
    have small : i < its.toArray.size := by
      have := (List.getElem?_eq_some_iff.mp hu).1
      simpa using this
    refine wpAny_pyNext_enum_itemD (Draws.tuple (A := X.A.in1) (I.ok.hd hc) it a nai its.toArray) he ⟨hit, (show s.heap.IsTuple a its.toArray from p)⟩ small hne (by simp [hne, nea]) fun x' h' tk hx' ho hst hT hsz hk => ?_
    have ex : x' = u := by
      have : its[i]? = some x' := by simpa using hx'
      rw [hu] at this
      exact (Option.some.inj this).symm
    subst ex
    obtain ⟨hst1, hst2⟩ := hst
    refine ⟨_, rfl, wpAny_letOwnedTupleGo_enum (s := { s with heap := h', toks := tk + 1 }) ho fun h2 he2 sb => ?_⟩
    have gT : h2.get? s.heap.objs.size = some { cls := .type "tuple", data := .seq #[.int i tk, x'] } := (sb.2 _ (Nat.ne_of_gt le)).trans hT
    have okT : ObjOk X.prog X.w (upd H s.heap.objs.size (.tup [.int (i : Nat), x])) h2 s.heap.objs.size (.tup [.int (i : Nat), x]) :=
      ⟨by show 2 ≤ sizeLine; decide, [.int i tk, x'], .cons ⟨_, rfl⟩ (.cons ru .nil), ⟨_, gT, rfl, _, rfl⟩⟩
    have I2 : Inv X pins σ (upd H s.heap.objs.size (.tup [.int (i : Nat), x])) { s with heap := h2, toks := tk + 1 } :=
      I.turnedNew (t' := tk + 1) (ch := [e, it]) (fun b ob hb q => (sb.2 b (fun z => hb (by simp [z]))).trans (hk b ob (fun z => hb (by simp [z])) (fun z => hb (by simp [z])) q)) hf (Nat.le_refl _) okT
    refine ⟨.ref s.heap.objs.size, _, I2, rfl, ⟨_, x, rfl, I.hok.fresh (Nat.le_refl _), rfl, fun ys hy => by rw [I.tuple_inj hy hq]; exact hx⟩, ⟨⟨x', ?_⟩, hst1.at fun o q => (sb.2 it (Ne.symm hne)).trans q, hne⟩, fun b hb => ?_⟩
    · rw [show ((i + 1 : Nat) : Int) = (i : Int) + 1 by omega]
      exact he2
    · have lb : b < s.heap.objs.size := by
        rcases (show b = e ∨ b = it by simpa using hb) with z | z
        · rw [z]; exact le
        · rw [z]; exact li
      rw [upd_ne (Nat.ne_of_lt lb)]
      exact (hf b hb).1
  done := by
    intro X hP hw hK hc i pins s σ H E I hf st hg
    subst hP hw hK
    obtain ⟨⟨old, he⟩, hit, hne⟩ := st
    obtain ⟨xs, hq, hx⟩ := hg
    obtain ⟨its, rv, p, hz⟩ := I.tuple hq
    obtain ⟨f0, f1, f2, f3, f4, f5⟩ := hf it (by simp)
    have hl := rv.length
    have hsz : i = its.toArray.size := by
      rw [List.size_toArray]
      omega
    rw [hsz] at hit
    exact wpAny_pyNext_enum_endD (Draws.tuple (A := X.A.in1) (I.ok.hd hc) it a nai its.toArray) he ⟨hit, (show s.heap.IsTuple a its.toArray from p)⟩ fun h' eb => ⟨rfl, I.turned (t' := s.toks) (fun b o hb e => eb b o hb e) f0 f1 f3 f4 f5⟩
  self := fun A i s Q E st h => let ⟨⟨_, he⟩, _⟩ := st; wpAny_pyIter_enum he h
def iEnumT (K : PySem.W.Frag) (ta : TA) : TI := fun σ H R => ta σ H fun vs H1 => ∃ a xs, vs = [.ref a] ∧ SqT K H1 a xs ∧ R (Ity K a) H1
theorem pi_enumT {X : Cx} {e : Expr} {ta : TA} {p pos tpos : Pos} {elts : List Expr} {kk : Nat} (hg : Gl X "enumerate") (hm : X.mg "enumerate" = none) (ha : PA X [e] ta) (hs : starEach [e] X.env = [(false, eval e X.env)] := by rfl) :
    PI X (.Tuple elts kk tpos) (.Call (.Name "enumerate" p) [e] [] pos) (iEnumT X.K ta) := by
  constructor
  intro pins s σ H R I h
  refine Call_ (ld_blt I hg hm boot_enumerate (PyProof.Rows.callWith_type1 (thn (ha.run pos pins s σ H _ I h) fun us s1 ⟨vs, H1, I1, r1, q1⟩ => ?_) hs rfl))
  obtain ⟨a, xs, rfl, hq, q⟩ := q1
  obtain rfl := Vals.ref1 r1
  obtain ⟨its, rv, p', hz⟩ := I1.tuple hq
  have la : a < s1.heap.objs.size := by obtain ⟨_, z, _⟩ := p'; exact Heap.lt_size z
  refine call_enum_tup (show s1.heap.IsTuple a its.toArray from p') fun h' he hit hsz hk => wpAny_pyIter_enum he ?_
  have I2 : Inv X pins σ H1 { s1 with heap := h' } := I1.kept (t' := s1.toks) hk
  refine ⟨s1.heap.objs.size + 1, [s1.heap.objs.size + 1, s1.heap.objs.size], _, _, H1, rfl, I2, turn_enumT a (s1.heap.objs.size + 1) s1.heap.objs.size (Nat.ne_of_lt la) (Nat.ne_of_gt (Nat.lt_succ_of_lt la)), ⟨⟨.none, he⟩, hit, Nat.succ_ne_self _⟩, fun b hb => ?_, q⟩
  have hle : s1.heap.objs.size ≤ b := by
    rcases (show b = s1.heap.objs.size + 1 ∨ b = s1.heap.objs.size by simpa using hb) with z | z
    · rw [z]; exact Nat.le_succ _
    · rw [z]; exact Nat.le_refl _
  exact I1.fpOk hle (I1.hok.fresh hle)
end My
/-! list(zip(a, b)) -/
namespace My
open PySem PySem.Spec PyProof.Rows L2
abbrev IsZ (h : Heap) (z TI TO : Addr) (f0 f1 : Value) : Prop :=
  h.get? z = some { cls := .type "zip", dict := none, data := .fields #[f0, f1, .bool false, .ref TI, .ref TO], slots := #[] }
section
variable {prog : Program} {w : World} {A : Around} {E : Value → Shared → Prop} {s : Shared}
theorem look_alive {a : Addr} {Q : Option Obj → Shared → Prop} {M : Model} (h : Q (s.heap.get? a) s) : wpAny M A (loadIfAlive a) Q E s := fun Γ p _ => by
  unfold loadIfAlive
  rw [Sem.wp_loadIfAlive]
  simpa using h
theorem zip_again {z TI TO i1 i2 l1 l2 T : Addr} {k1 k2 : Nat} {xs ys : Array Value} {x y : Value} {f : Bool} {oT : Obj} {Q : Value → Shared → Prop} (D : ZipApart z TI TO i1 i2 l1 l2)
    (hz : IsZ s.heap z TI TO (rawInt T) (.bool f)) (hT : s.heap.get? T = some oT) (hTI : IsPair s.heap TI (.ref i1) (.ref i2))
    (h1 : s.heap.IsListIter i1 l1 k1) (h2 : s.heap.IsListIter i2 l2 k2) (hl1 : s.heap.IsList l1 xs) (hl2 : s.heap.IsList l2 ys) (hx : xs[k1]? = some x) (hy : ys[k2]? = some y)
    (hQ : ∀ h', IsZ h' z TI TO (rawInt T) (.bool true) → h'.IsListIter i1 l1 (k1 + 1) → h'.IsListIter i2 l2 (k2 + 1) → IsPair h' s.heap.objs.size x y → h'.objs.size = s.heap.objs.size + 1 →
      (∀ c o, c ≠ z → c ≠ i1 → c ≠ i2 → s.heap.get? c = some o → h'.get? c = some o) → Q (.ref s.heap.objs.size) { s with heap := h' }) :
    wpAny (model prog w) A (Builtin.«zip.__next__» ⟨[.ref z], []⟩) (fun fin s' => ∃ v, fin = .done (.ret v) ∧ Q v s') E s := by
  show wpAny _ _ (field (.ref z) 2 >>= _) _ _ _
  refine wpAny_bind (wpAny_field hz rfl (x := .bool false) rfl ?_)
  show wpAny _ _ (field (.ref z) 3 >>= _) _ _ _
  refine wpAny_bind (wpAny_field hz rfl (x := .ref TI) rfl ?_)
  refine wpAny_bind (wpAny_seqItems hTI rfl ?_)
  show wpAny _ _ (Builtin.SmallTypes.ownedTupleIsFree (.ref z) >>= _) _ _ _
  refine wpAny_bind ?_
  unfold Builtin.SmallTypes.ownedTupleIsFree
  refine wpAny_bind (wpAny_field hz rfl (x := rawInt T) rfl ?_)
  show wpAny _ _ (loadIfAlive (T : Int).toNat >>= _) _ _ _
  refine wpAny_bind (look_alive ?_)
  rw [show ((T : Int).toNat) = T from rfl, hT]
  simp only [Option.isNone_some, Bool.false_eq_true, if_false]
  refine wpAny_bind ?_
  refine wpAny_field hz rfl (x := .bool f) rfl ?_
  cases f
  case' true =>
    have hz₁ := hz
    have hs₁ := Heap.SameBut.refl z s.heap
    refine wpAny_pure ?_
  case' false =>
    refine wpAny_bind (wpAny_setField_rec hz (by simp) fun h₁ hz₁ hs₁ => wpAny_pure ?_)
    replace hz₁ : IsZ h₁ z TI TO (rawInt T) (.bool true) := hz₁
  all_goals
    simp only [Bool.false_eq_true, if_false]
    rw [← Array.forIn_toList]
    simp only [List.forIn_cons, List.forIn_nil]
    refine wpAny_bind ?_
    refine wpAny_bind (wpAny_bind (wpAny_holding ?_))
    show wpAny _ _ (Builtin.SmallTypes.nextOf (.ref i1) >>= _) _ _ _
    refine wpAny_bind (wpAny_nextOf_list_item (h1.extBut hs₁.extBut D.i1z) (hl1.extBut hs₁.extBut D.l1z) hx fun h₂ h1₂ hs₂ => wpAny_pure ?_)
    dsimp only
    refine wpAny_pure ?_
    dsimp only
    refine wpAny_bind (wpAny_bind (wpAny_holding ?_))
    show wpAny _ _ (Builtin.SmallTypes.nextOf (.ref i2) >>= _) _ _ _
    refine wpAny_bind (wpAny_nextOf_list_item ((h2.extBut hs₁.extBut D.i2z).extBut hs₂.extBut D.i12.symm) ((hl2.extBut hs₁.extBut D.l2z).extBut hs₂.extBut D.l2i1) hy fun h₃ h2₃ hs₃ => wpAny_pure ?_)
    dsimp only
    refine wpAny_pure ?_
    dsimp only
    refine wpAny_pure ?_
    dsimp only
    refine wpAny_bind (wpAny_newTuple ?_ (by show 2 ≤ sizeLine; decide))
    have hsz : h₃.objs.size = s.heap.objs.size := by rw [hs₃.1, hs₂.1, hs₁.1]
    have hk : ∀ c o, c ≠ z → c ≠ i1 → c ≠ i2 → s.heap.get? c = some o → h₃.get? c = some o := fun c o c1 c2 c3 e => hs₃.extBut _ _ c3 (hs₂.extBut _ _ c2 (hs₁.extBut _ _ c1 e))
    have hz₃ : IsZ h₃ z TI TO (rawInt T) (.bool true) := hs₃.extBut _ _ D.i2z.symm (hs₂.extBut _ _ D.i1z.symm hz₁)
    have h1₃ : h₃.IsListIter i1 l1 (k1 + 1) := h1₂.extBut hs₃.extBut D.i12
    refine wpAny_pure ⟨_, rfl, ?_⟩
    have g : (h₃.push { cls := .type "tuple", data := .seq #[x, y] }).get? h₃.objs.size = some { cls := .type "tuple", data := .seq #[x, y] } := Heap.get?_push_size _ rfl
    have g2 : (h₃.push { cls := .type "tuple", data := .seq #[x, y] }).objs.size = s.heap.objs.size + 1 := by rw [Heap.size_push, hsz]
    rw [hsz] at g
    show Q (.ref h₃.objs.size) _
    rw [hsz]
    exact hQ (h₃.push { cls := .type "tuple", data := .seq #[x, y] }) (Heap.get?_push_of_some _ hz₃) (h1₃.at fun o e => Heap.get?_push_of_some _ e) (h2₃.at fun o e => Heap.get?_push_of_some _ e) g g2 fun c o c1 c2 c3 e => Heap.get?_push_of_some _ (hk c o c1 c2 c3 e)
theorem zip_over {z TI TO i1 i2 l1 l2 T : Addr} {k1 : Nat} {xs : Array Value} {f : Bool} {oT : Obj} {Q : Fin → Shared → Prop} (hh : A.handled = none) (D : ZipApart z TI TO i1 i2 l1 l2)
    (hz : IsZ s.heap z TI TO (rawInt T) (.bool f)) (hT : s.heap.get? T = some oT) (hTI : IsPair s.heap TI (.ref i1) (.ref i2))
    (h1 : s.heap.IsListIter i1 l1 k1) (hl1 : s.heap.IsList l1 xs) (hx : xs[k1]? = none)
    (hE : ∀ h' e, (∀ c o, c ≠ z → c ≠ i1 → s.heap.get? c = some o → h'.get? c = some o) → (∃ o, h'.get? e = some o ∧ o.cls = .type "StopIteration") → E (.ref e) { s with heap := h' }) :
    wpAny (model prog w) A (Builtin.«zip.__next__» ⟨[.ref z], []⟩) Q E s := by
  show wpAny _ _ (field (.ref z) 2 >>= _) _ _ _
  refine wpAny_bind (wpAny_field hz rfl (x := .bool false) rfl ?_)
  show wpAny _ _ (field (.ref z) 3 >>= _) _ _ _
  refine wpAny_bind (wpAny_field hz rfl (x := .ref TI) rfl ?_)
  refine wpAny_bind (wpAny_seqItems hTI rfl ?_)
  show wpAny _ _ (Builtin.SmallTypes.ownedTupleIsFree (.ref z) >>= _) _ _ _
  refine wpAny_bind ?_
  unfold Builtin.SmallTypes.ownedTupleIsFree
  refine wpAny_bind (wpAny_field hz rfl (x := rawInt T) rfl ?_)
  show wpAny _ _ (loadIfAlive (T : Int).toNat >>= _) _ _ _
  refine wpAny_bind (look_alive ?_)
  rw [show ((T : Int).toNat) = T from rfl, hT]
  simp only [Option.isNone_some, Bool.false_eq_true, if_false]
  refine wpAny_bind ?_
  refine wpAny_field hz rfl (x := .bool f) rfl ?_
  cases f
  case' true =>
    have hs₁ := Heap.SameBut.refl z s.heap
    refine wpAny_pure ?_
  case' false =>
    refine wpAny_bind (wpAny_setField_rec hz (by simp) fun h₁ hz₁ hs₁ => wpAny_pure ?_)
  all_goals
    simp only [Bool.false_eq_true, if_false]
    rw [← Array.forIn_toList]
    simp only [List.forIn_cons, List.forIn_nil]
    refine wpAny_bind ?_
    refine wpAny_bind (wpAny_bind (wpAny_holding ?_))
    show wpAny _ _ (Builtin.SmallTypes.nextOf (.ref i1) >>= _) _ _ _
    refine wpAny_bind (wpAny_nextOf_list_end hh (h1.extBut hs₁.extBut D.i1z) (hl1.extBut hs₁.extBut D.l1z) hx fun h₂ e hs₂ he => ?_)
    exact hE h₂ e (fun c o c1 c2 x => hs₂ _ _ c2 (hs₁.extBut _ _ c1 x)) he
theorem next_again {z TI TO i1 i2 l1 l2 T : Addr} {k1 k2 : Nat} {xs ys : Array Value} {x y : Value} {f : Bool} {oT : Obj} {Q : Option Value → Shared → Prop} (D : ZipApart z TI TO i1 i2 l1 l2)
    (hz : IsZ s.heap z TI TO (rawInt T) (.bool f)) (hT : s.heap.get? T = some oT) (hTI : IsPair s.heap TI (.ref i1) (.ref i2))
    (h1 : s.heap.IsListIter i1 l1 k1) (h2 : s.heap.IsListIter i2 l2 k2) (hl1 : s.heap.IsList l1 xs) (hl2 : s.heap.IsList l2 ys) (hx : xs[k1]? = some x) (hy : ys[k2]? = some y)
    (hQ : ∀ h', IsZ h' z TI TO (rawInt T) (.bool true) → h'.IsListIter i1 l1 (k1 + 1) → h'.IsListIter i2 l2 (k2 + 1) → IsPair h' s.heap.objs.size x y → h'.objs.size = s.heap.objs.size + 1 →
      (∀ c o, c ≠ z → c ≠ i1 → c ≠ i2 → s.heap.get? c = some o → h'.get? c = some o) → Q (some (.ref s.heap.objs.size)) { s with heap := h' }) :
    wpAny (model prog w) A (pyNext (.ref z)) Q E s := by
  have hTy : s.TypeIs (.ref z) "zip" := ⟨_, hz, rfl⟩
  unfold pyNext
  exact wpAny_bind (wpAny_attempt (wpAny_callSpecial?_slot (name := Str.ofString "__next__") hTy PySem.F.slot_zip_next
    (wpAny_call_entry PySem.F.slot_zip_next hTy PySem.F.entry_zip_next
      (zip_again D hz hT hTI h1 h2 hl1 hl2 hx hy fun h' a1 a2 a3 a4 a5 a6 => wpAny_pure (hQ h' a1 a2 a3 a4 a5 a6)) (PySem.F.args_zip_next_1 _))))
theorem next_over {z TI TO i1 i2 l1 l2 T : Addr} {k1 : Nat} {xs : Array Value} {f : Bool} {oT : Obj} {Q : Option Value → Shared → Prop} (hh : A.handled = none) (D : ZipApart z TI TO i1 i2 l1 l2)
    (hz : IsZ s.heap z TI TO (rawInt T) (.bool f)) (hT : s.heap.get? T = some oT) (hTI : IsPair s.heap TI (.ref i1) (.ref i2))
    (h1 : s.heap.IsListIter i1 l1 k1) (hl1 : s.heap.IsList l1 xs) (hx : xs[k1]? = none)
    (hQ : ∀ h', (∀ c o, c ≠ z → c ≠ i1 → s.heap.get? c = some o → h'.get? c = some o) → Q none { s with heap := h' }) : wpAny (model prog w) A (pyNext (.ref z)) Q E s := by
  have hTy : s.TypeIs (.ref z) "zip" := ⟨_, hz, rfl⟩
  unfold pyNext
  refine wpAny_bind (wpAny_attempt (wpAny_callSpecial?_slot (name := Str.ofString "__next__") hTy PySem.F.slot_zip_next
    (wpAny_call_entry PySem.F.slot_zip_next hTy PySem.F.entry_zip_next (zip_over hh D hz hT hTI h1 hl1 hx fun h' e hk he => ?_) (PySem.F.args_zip_next_1 _))))
  obtain ⟨o, ho, hc⟩ := he
  refine wpAny_bind (wpAny_isInstance (T := "StopIteration") (b := true) ⟨o, ho, hc⟩ PySem.isSubtype_stop ?_)
  exact wpAny_pure (hQ _ hk)
end
end My
namespace My
open PySem PySem.Spec PyProof.Rows L2
/-- list(zip(a, b)) under way: some pairs are made -/
structure Zs (h0 h : Heap) (z TI TO i1 i2 l1 l2 S : Addr) (xs ys : Array Value) (acc : List Addr) (c : Nat) : Prop where
  ti : IsPair h TI (.ref i1) (.ref i2)
  n1 : h.IsListIter i1 l1 acc.length
  n2 : h.IsListIter i2 l2 acc.length
  a1 : h.IsList l1 xs
  a2 : h.IsList l2 ys
  ls : h.get? S = some { cls := .type "list", dict := none, data := .seq (acc.map Value.ref).toArray c, slots := #[] }
  pr : ∀ (j : Nat) (b : Addr) (x y : Value), acc[j]? = some b → xs[j]? = some x → ys[j]? = some y → IsPair h b x y
  up : acc.Pairwise (· < ·)
  lo : ∀ b ∈ acc, S < b ∧ z < b ∧ i1 < b ∧ i2 < b ∧ b < h.objs.size
  kp : ∀ b o, h0.get? b = some o → h.get? b = some o
section
variable {prog : Program} {w : World} {A : Around} {R : Result → Shared → Prop} {s : Shared}
theorem Zs.step {h0 h h' : Heap} {z TI TO i1 i2 l1 l2 S : Addr} {xs ys : Array Value} {acc : List Addr} {c c' : Nat} {x y : Value} (D : ZipApart z TI TO i1 i2 l1 l2) (hS : S ≠ z ∧ S ≠ TI ∧ S ≠ i1 ∧ S ≠ i2 ∧ S ≠ l1 ∧ S ≠ l2) (old : ∀ b o, h0.get? b = some o → b ≠ z ∧ b ≠ i1 ∧ b ≠ i2 ∧ b ≠ S) (zs : Zs h0 h z TI TO i1 i2 l1 l2 S xs ys acc c)
    (hx : xs[acc.length]? = some x) (hy : ys[acc.length]? = some y) (m1 : h'.IsListIter i1 l1 (acc.length + 1)) (m2 : h'.IsListIter i2 l2 (acc.length + 1)) (hp : IsPair h' h.objs.size x y) (hz : h'.objs.size = h.objs.size + 1)
    (ls : h'.get? S = some { cls := .type "list", dict := none, data := .seq ((acc ++ [h.objs.size]).map Value.ref).toArray c', slots := #[] })
    (hl : S < h.objs.size ∧ z < h.objs.size ∧ i1 < h.objs.size ∧ i2 < h.objs.size)
    (k : ∀ b o, b ≠ z → b ≠ i1 → b ≠ i2 → b ≠ S → h.get? b = some o → h'.get? b = some o) : Zs h0 h' z TI TO i1 i2 l1 l2 S xs ys (acc ++ [h.objs.size]) c' := by
  have hne : ∀ b ∈ acc, b ≠ z ∧ b ≠ i1 ∧ b ≠ i2 ∧ b ≠ S := fun b hb => by
    obtain ⟨q1, q2, q3, q4, q5⟩ := zs.lo b hb
    exact ⟨Nat.ne_of_gt q2, Nat.ne_of_gt q3, Nat.ne_of_gt q4, Nat.ne_of_gt q1⟩
  refine ⟨k _ _ D.TIz D.TIi1 D.TIi2 hS.2.1.symm zs.ti, by rw [List.length_append]; exact m1, by rw [List.length_append]; exact m2, zs.a1.at fun o e => k _ o D.l1z D.l1i1 D.l1i2 hS.2.2.2.2.1.symm e, zs.a2.at fun o e => k _ o D.l2z D.l2i1 D.l2i2 hS.2.2.2.2.2.symm e, ls, fun j b x' y' hj hx' hy' => ?_, ?_, fun b hb => ?_, fun b o e => ?_⟩
  · by_cases c : j < acc.length
    · rw [List.getElem?_append_left c] at hj
      have hb := List.mem_of_getElem? hj
      obtain ⟨q1, q2, q3, q4⟩ := hne b hb
      exact k _ _ q1 q2 q3 q4 (zs.pr j b x' y' hj hx' hy')
    · have hi := (List.getElem?_eq_some_iff.mp hj).1
      rw [List.length_append, List.length_singleton] at hi
      have e : j = acc.length := by omega
      subst e
      rw [List.getElem?_append_right (Nat.le_refl _), Nat.sub_self] at hj
      cases hj
      rw [hx] at hx'
      rw [hy] at hy'
      cases hx'
      cases hy'
      exact hp
  · rw [List.pairwise_append]
    exact ⟨zs.up, List.pairwise_singleton _ _, fun a ha b hb => by rw [List.mem_singleton.mp hb]; exact (zs.lo a ha).2.2.2.2⟩
  · rcases List.mem_append.mp hb with hb | hb
    · obtain ⟨q1, q2, q3, q4, q5⟩ := zs.lo b hb
      exact ⟨q1, q2, q3, q4, by rw [hz]; exact Nat.lt_succ_of_lt q5⟩
    · rw [List.mem_singleton.mp hb]
      exact ⟨hl.1, hl.2.1, hl.2.2.1, hl.2.2.2, by rw [hz]; exact Nat.lt_succ_self _⟩
  · obtain ⟨q1, q2, q3, q4⟩ := old b o e
    exact k b o q1 q2 q3 q4 (zs.kp b o e)
theorem zip_loop {h0 : Heap} {z TI TO i1 i2 l1 l2 S T : Addr} {xs ys : Array Value} {n : Nat} (res : Value) (hh : A.handled = none) (D : ZipApart z TI TO i1 i2 l1 l2) (hS : S ≠ z ∧ S ≠ TI ∧ S ≠ i1 ∧ S ≠ i2 ∧ S ≠ l1 ∧ S ≠ l2)
    (old : ∀ b o, h0.get? b = some o → b ≠ z ∧ b ≠ i1 ∧ b ≠ i2 ∧ b ≠ S) (hx : xs.size = n) (hy : ys.size = n) (hn : n ≤ sizeLine) :
    ∀ (k : Nat) (acc : List Addr) (s : Shared) (c : Nat) (f : Bool), n - acc.length = k → acc.length ≤ n → IsZ s.heap z TI TO (rawInt T) (.bool f) → T ∈ acc → Zs h0 s.heap z TI TO i1 i2 l1 l2 S xs ys acc c →
      (∀ (h' : Heap) (acc' : List Addr) (c' : Nat), acc'.length = n → (∀ (j : Nat) (b : Addr) (x y : Value), acc'[j]? = some b → xs[j]? = some x → ys[j]? = some y → IsPair h' b x y) → acc'.Pairwise (· < ·) → (∀ b ∈ acc', S < b) → (∀ b o, h0.get? b = some o → h'.get? b = some o) →
        h'.get? S = some { cls := .type "list", dict := none, data := .seq (acc'.map Value.ref).toArray c', slots := #[] } → R (.ok (.ret res)) { s with heap := h' }) →
      codeAny (model prog w) A (.builtin "list.extend.loop" ⟨[.ref S, .ref z, res], []⟩) R s := by
  intro k
  induction k with
  | zero =>
    intro acc s c f hk hi hz hT zs hR
    have hin : acc.length = n := by omega
    refine codeAny_builtin PySem.F.entry_extend_loop ?_
    rw [Around.under_plainId PySem.F.plain_extend_loop _]
    show wpAny _ A.in1 (pyNext (.ref z) >>= _) _ _ s
    obtain ⟨j, hj⟩ := List.getElem?_of_mem hT
    have hjl := (List.getElem?_eq_some_iff.mp hj).1
    have hTp := zs.pr j T _ _ hj (Array.getElem?_eq_getElem (by omega)) (Array.getElem?_eq_getElem (by omega))
    refine wpAny_bind (next_over (by simp [hh]) D hz hTp zs.ti zs.n1 zs.a1 (Array.getElem?_eq_none (by omega)) fun h' hk' => ?_)
    have kk : ∀ b ∈ acc, b ≠ z ∧ b ≠ i1 := fun b hb => ⟨Nat.ne_of_gt (zs.lo b hb).2.1, Nat.ne_of_gt (zs.lo b hb).2.2.1⟩
    refine wpAny_pure (hR h' acc c hin (fun j b x y a1 a2 a3 => ?_) zs.up (fun b hb => (zs.lo b hb).1) (fun b o e => hk' b o (old b o e).1 (old b o e).2.1 (zs.kp b o e)) (hk' _ _ hS.1 hS.2.2.1 zs.ls))
    obtain ⟨q1, q2⟩ := kk b (List.mem_of_getElem? a1)
    exact hk' _ _ q1 q2 (zs.pr j b x y a1 a2 a3)
  | succ k ih =>
    intro acc s c f hk hi hz hT zs hR
    have hlt : acc.length < n := by omega
    refine codeAny_builtin PySem.F.entry_extend_loop ?_
    rw [Around.under_plainId PySem.F.plain_extend_loop _]
    show wpAny _ A.in1 (pyNext (.ref z) >>= _) _ _ s
    obtain ⟨j, hj⟩ := List.getElem?_of_mem hT
    have hjl := (List.getElem?_eq_some_iff.mp hj).1
    have hTp := zs.pr j T _ _ hj (Array.getElem?_eq_getElem (by omega)) (Array.getElem?_eq_getElem (by omega))
    have ex : xs[acc.length]? = some xs[acc.length] := Array.getElem?_eq_getElem (by omega)
    have ey : ys[acc.length]? = some ys[acc.length] := Array.getElem?_eq_getElem (by omega)
    refine wpAny_bind (next_again D hz hTp zs.ti zs.n1 zs.n2 zs.a1 zs.a2 ex ey fun h' b1 b2 b3 b4 b5 b6 => ?_)
    have hSl : S < s.heap.objs.size := Heap.lt_size zs.ls
    have hzl : z < s.heap.objs.size := Heap.lt_size hz
    have h1l : i1 < s.heap.objs.size := by obtain ⟨_, e, _⟩ := zs.n1; exact Heap.lt_size e
    have h2l : i2 < s.heap.objs.size := by obtain ⟨_, e, _⟩ := zs.n2; exact Heap.lt_size e
    have hS' := b6 _ _ hS.1 hS.2.2.1 hS.2.2.2.1 zs.ls
    show wpAny _ A.in1 (updateSeq S (·.push (.ref s.heap.objs.size)) >>= _) _ _ _
    refine wpAny_bind ?_
    refine wpAny_updateSeq hS' rfl (wpAny_pure ⟨plainId_quiet PySem.F.plain_extend_loop _, ?_⟩) (by simp; omega) (by simp; omega)
    have upd_ : ∀ b o, b ≠ S → h'.get? b = some o → (h'.update S (Obj.mapSeq (·.push (.ref s.heap.objs.size)))).get? b = some o := fun b o hb e => (Heap.get?_update_other _ _ (Ne.symm hb)).trans e
    have hsl := Heap.get?_update_self (Obj.mapSeq (·.push (.ref s.heap.objs.size))) hS' rfl
    refine ih (acc ++ [s.heap.objs.size]) _ (c + 1) true ?_ ?_ (upd_ _ _ hS.1.symm b1) (List.mem_append_left _ hT) ?_ ?_
    · rw [List.length_append, List.length_singleton]; omega
    · rw [List.length_append, List.length_singleton]; omega
    · refine zs.step D hS old ex ey (b2.at fun o e => upd_ _ o hS.2.2.1.symm e) (b3.at fun o e => upd_ _ o hS.2.2.2.1.symm e) (upd_ _ _ (Nat.ne_of_gt hSl) b4) ?_ ?_ ⟨hSl, hzl, h1l, h2l⟩ fun b o q1 q2 q3 q4 e => upd_ b o q4 (b6 b o q1 q2 q3 e)
      · show (h'.update S _).objs.size = _
        rw [Heap.size_update]
        exact b5
      · show (h'.update S _).get? S = _
        rw [hsl]
        simp [Obj.mapSeq]
    · exact fun h'' acc'' c'' a1 a2 a3 a4 a5 a6 => hR h'' acc'' c'' a1 a2 a3 a4 a5 a6
end
end My
namespace My
open PySem PySem.Spec PyProof.Rows L2
theorem zip_no_len : typeLookup (.type "zip") "__len__" = pure none := by rw [typeLookup_type, builtinLookup_eq_fast]; kernel_rfl
theorem zip_no_hint : typeLookup (.type "zip") "__length_hint__" = pure none := by rw [typeLookup_type, builtinLookup_eq_fast]; kernel_rfl
section
variable {prog : Program} {w : World} {A : Around} {R : Result → Shared → Prop} {s : Shared}
/-- the first pair -/
theorem zip_first {z TI TO i1 i2 l1 l2 S : Addr} {xs ys : Array Value} {n c : Nat} {a b : Value} {h0 : Heap} (res : Value) (hh : A.handled = none) (D : ZipApart z TI TO i1 i2 l1 l2) (hS : S ≠ z ∧ S ≠ TI ∧ S ≠ i1 ∧ S ≠ i2 ∧ S ≠ l1 ∧ S ≠ l2) (hSO : S ≠ TO)
    (old : ∀ b o, h0.get? b = some o → b ≠ z ∧ b ≠ i1 ∧ b ≠ i2 ∧ b ≠ S ∧ b ≠ TO) (hx : xs.size = n) (hy : ys.size = n) (hn0 : 0 < n) (hn : n ≤ sizeLine)
    (hz : IsZip s.heap z TI TO .none) (hTI : IsPair s.heap TI (.ref i1) (.ref i2)) (hTO : IsPair s.heap TO a b)
    (h1 : s.heap.IsListIter i1 l1 0) (h2 : s.heap.IsListIter i2 l2 0) (hl1 : s.heap.IsList l1 xs) (hl2 : s.heap.IsList l2 ys)
    (hls : s.heap.get? S = some { cls := .type "list", dict := none, data := .seq #[] c, slots := #[] }) (kp : ∀ b o, h0.get? b = some o → s.heap.get? b = some o)
    (hR : ∀ (h' : Heap) (acc' : List Addr) (c' : Nat), acc'.length = n → (∀ (j : Nat) (b : Addr) (x y : Value), acc'[j]? = some b → xs[j]? = some x → ys[j]? = some y → IsPair h' b x y) → acc'.Pairwise (· < ·) → (∀ b ∈ acc', S < b) → (∀ b o, h0.get? b = some o → h'.get? b = some o) →
        h'.get? S = some { cls := .type "list", dict := none, data := .seq (acc'.map Value.ref).toArray c', slots := #[] } → R (.ok (.ret res)) { s with heap := h' }) :
    codeAny (model prog w) A (.builtin "list.extend.loop" ⟨[.ref S, .ref z, res], []⟩) R s := by
  refine codeAny_builtin PySem.F.entry_extend_loop ?_
  rw [Around.under_plainId PySem.F.plain_extend_loop _]
  show wpAny _ A.in1 (pyNext (.ref z) >>= _) _ _ s
  have ex : xs[0]? = some xs[0] := Array.getElem?_eq_getElem (by omega)
  have ey : ys[0]? = some ys[0] := Array.getElem?_eq_getElem (by omega)
  refine wpAny_bind (wpAny_pyNext_zip_item D hz hTI hTO h1 h2 hl1 hl2 ex ey fun h' b1 b1' b2 b3 b4 b5 b6 => ?_)
  have hSl : S < s.heap.objs.size := Heap.lt_size hls
  have hzl : z < s.heap.objs.size := Heap.lt_size hz
  have h1l : i1 < s.heap.objs.size := by obtain ⟨_, e, _⟩ := h1; exact Heap.lt_size e
  have h2l : i2 < s.heap.objs.size := by obtain ⟨_, e, _⟩ := h2; exact Heap.lt_size e
  have hS' := b6 _ _ hS.1 hSO hS.2.2.1 hS.2.2.2.1 hls
  show wpAny _ A.in1 (updateSeq S (·.push (.ref s.heap.objs.size)) >>= _) _ _ _
  refine wpAny_bind ?_
  refine wpAny_updateSeq hS' rfl (wpAny_pure ⟨plainId_quiet PySem.F.plain_extend_loop _, ?_⟩) (by simp) (by simp)
  have upd_ : ∀ b o, b ≠ S → h'.get? b = some o → (h'.update S (Obj.mapSeq (·.push (.ref s.heap.objs.size)))).get? b = some o := fun b o hb e => (Heap.get?_update_other _ _ (Ne.symm hb)).trans e
  have hsl := Heap.get?_update_self (Obj.mapSeq (·.push (.ref s.heap.objs.size))) hS' rfl
  refine zip_loop (h0 := h0) (T := s.heap.objs.size) res hh D hS (fun b o e => ⟨(old b o e).1, (old b o e).2.1, (old b o e).2.2.1, (old b o e).2.2.2.1⟩) hx hy hn _ [s.heap.objs.size] _ (c + 1) false rfl (by show 1 ≤ n; omega) (upd_ _ _ hS.1.symm b1) List.mem_cons_self ?_ fun h'' acc'' c'' a1 a2 a3 a4 a5 a6 => hR h'' acc'' c'' a1 a2 a3 a4 a5 a6
  refine ⟨upd_ _ _ hS.2.1.symm (b6 _ _ D.TIz D.TITO D.TIi1 D.TIi2 hTI), b2.at fun o e => upd_ _ o hS.2.2.1.symm e, b3.at fun o e => upd_ _ o hS.2.2.2.1.symm e, hl1.at fun o e => upd_ _ o hS.2.2.2.2.1.symm (b6 _ _ D.l1z D.l1TO D.l1i1 D.l1i2 e), hl2.at fun o e => upd_ _ o hS.2.2.2.2.2.symm (b6 _ _ D.l2z D.l2TO D.l2i1 D.l2i2 e), ?_, fun j b x y a1 a2 a3 => ?_, List.pairwise_singleton _ _, fun b hb => ?_, fun b o e => ?_⟩
  · show (h'.update S _).get? S = _
    rw [hsl]
    simp [Obj.mapSeq]
  · have hj := (List.getElem?_eq_some_iff.mp a1).1
    have e : j = 0 := by rw [List.length_singleton] at hj; omega
    subst e
    cases a1
    rw [ex] at a2
    rw [ey] at a3
    cases a2
    cases a3
    exact upd_ _ _ (Nat.ne_of_gt hSl) b4
  · rw [List.mem_singleton.mp hb]
    refine ⟨hSl, hzl, h1l, h2l, ?_⟩
    show _ < (h'.update S _).objs.size
    rw [Heap.size_update, b5]
    exact Nat.lt_succ_self _
  · obtain ⟨q1, q2, q3, q4, q5⟩ := old b o e
    exact upd_ _ _ q4 (b6 _ _ q1 q5 q2 q3 (kp b o e))
theorem list_of_zip {E : Value → Shared → Prop} {z TI TO i1 i2 l1 l2 : Addr} {xs ys : Array Value} {n : Nat} {a b : Value} {h0 : Heap} {Q : Value → Shared → Prop} (hh : A.handled = none) (D : ZipApart z TI TO i1 i2 l1 l2)
    (old : ∀ b o, h0.get? b = some o → b ≠ z ∧ b ≠ i1 ∧ b ≠ i2 ∧ b ≠ TO) (hx : xs.size = n) (hy : ys.size = n) (hn0 : 0 < n) (hn : n ≤ sizeLine)
    (hz : IsZip s.heap z TI TO .none) (hTI : IsPair s.heap TI (.ref i1) (.ref i2)) (hTO : IsPair s.heap TO a b)
    (h1 : s.heap.IsListIter i1 l1 0) (h2 : s.heap.IsListIter i2 l2 0) (hl1 : s.heap.IsList l1 xs) (hl2 : s.heap.IsList l2 ys) (kp : ∀ b o, h0.get? b = some o → s.heap.get? b = some o)
    (hQ : ∀ (h' : Heap) (acc' : List Addr) (c' : Nat), acc'.length = n → (∀ (j : Nat) (b : Addr) (x y : Value), acc'[j]? = some b → xs[j]? = some x → ys[j]? = some y → IsPair h' b x y) → acc'.Pairwise (· < ·) → (∀ b ∈ acc', s.heap.objs.size < b) → (∀ b o, h0.get? b = some o → h'.get? b = some o) →
        h'.get? s.heap.objs.size = some { cls := .type "list", dict := none, data := .seq (acc'.map Value.ref).toArray c', slots := #[] } → Q (.ref s.heap.objs.size) { s with heap := h' }) :
    wpAny (model prog w) A (call (.type "list") [.ref z]) Q E s := by
  have zl : z < s.heap.objs.size := Heap.lt_size hz
  have TIl : TI < s.heap.objs.size := Heap.lt_size hTI
  have TOl : TO < s.heap.objs.size := Heap.lt_size hTO
  have i1l : i1 < s.heap.objs.size := by obtain ⟨_, e, _⟩ := h1; exact Heap.lt_size e
  have i2l : i2 < s.heap.objs.size := by obtain ⟨_, e, _⟩ := h2; exact Heap.lt_size e
  have l1l : l1 < s.heap.objs.size := by obtain ⟨_, e, _⟩ := hl1; exact Heap.lt_size e
  have l2l : l2 < s.heap.objs.size := by obtain ⟨_, e, _⟩ := hl2; exact Heap.lt_size e
  have hSz : s.heap.objs.size ≠ z := Nat.ne_of_gt zl
  refine callType_codes (Q₁ := fun obj s₁ => obj = .ref s.heap.objs.size ∧ s₁ = { s with heap := s.heap.push { cls := .type "list", data := .seq #[] } }) PySem.F.called_list (PySem.F.typeCall_list_1 _) PySem.F.entry_list_init
    (code_list_new _ ⟨rfl, rfl⟩) fun obj s₁ h₁ => ?_
  obtain ⟨rfl, rfl⟩ := h₁
  have hS : (s.heap.push { cls := .type "list", data := .seq #[] }).get? s.heap.objs.size = some { cls := .type "list", data := .seq #[] } := Heap.get?_push_size _ rfl
  refine ⟨⟨_, hS, rfl⟩, PySem.F.args_list_init_2 _ _, ?_⟩
  generalize hS0 : s.heap.objs.size = S at *
  have up0 : ∀ b o, s.heap.get? b = some o → (s.heap.push { cls := .type "list", data := .seq #[] }).get? b = some o := fun b o e => Heap.get?_push_of_some _ e
  generalize s.heap.push { cls := .type "list", data := .seq #[] } = h₁ at hS up0 ⊢
  show wpAny _ _ (do let old ← Builtin.List.listItems (.ref S); Builtin.List.listUpdate (.ref S) (fun _ => #[]); letGo old.toList.reverse; Builtin.List.listExtendWith (.ref S) (.ref z) .none) _ _ _
  refine wpAny_bind ?_
  unfold Builtin.List.listItems
  refine wpAny_bind (wpAny_seqItems hS rfl (wpAny_pure ?_))
  show wpAny _ _ (updateSeq S (fun _ => #[]) >>= fun _ => letGo (#[] : Array Value).toList.reverse >>= fun _ => Builtin.List.listExtendWith (.ref S) (.ref z) .none) _ _ _
  refine wpAny_bind (wpAny_updateSeq hS rfl ?_)
  have hS₂ := Heap.get?_update_self (Obj.mapSeq (fun _ => (#[] : Array Value))) hS rfl
  have up2 : ∀ b o, b ≠ S → s.heap.get? b = some o → (h₁.update S (Obj.mapSeq (fun _ => (#[] : Array Value)))).get? b = some o := fun b o hb e => (Heap.get?_update_other _ _ (Ne.symm hb)).trans (up0 b o e)
  generalize h₁.update S (Obj.mapSeq (fun _ => (#[] : Array Value))) = h₂ at hS₂ up2 ⊢
  refine wpAny_bind (wpAny_letGo ?_)
  unfold Builtin.List.listExtendWith
  have hz₂ := up2 _ _ hSz.symm hz
  have hT : Shared.TypeIs { s with heap := h₂ } (.ref z) "zip" := ⟨_, hz₂, rfl⟩
  refine wpAny_bind (wpAny_typeOf hT ?_)
  have t1 : Builtin.List.listSameRef (.ref S) (.ref z) = false := by simp [Builtin.List.listSameRef, hSz]
  have t2 : (Value.type "zip" == Value.type "list") = false := by decide
  have t3 : (Value.type "zip" == Value.type "tuple") = false := by decide
  simp only [t1, t2, t3, Bool.or_false, Bool.false_eq_true, if_false]
  refine wpAny_bind (wpAny_pyIter_zip hz₂ ?_)
  refine wpAny_bind (wpAny_holding ?_)
  unfold Builtin.List.listLengthHint
  refine wpAny_bind (wpAny_specialOf hT zip_no_len ?_)
  show wpAny _ _ (specialOf (Value.ref z) (Str.ofString "__length_hint__") >>= _) _ _ _
  refine wpAny_bind (wpAny_specialOf hT zip_no_hint ?_)
  refine wpAny_pure ?_
  show wpAny _ _ (rule "list.extend.makes-room" >>= fun _ => Builtin.List.listTouch (.ref S) >>= fun _ =>
    again (.builtin "list.extend.loop" ⟨[.ref S, .ref z, .none], []⟩)) _ _ _
  refine wpAny_bind (wpAny_rule ?_)
  refine wpAny_bind ?_
  show wpAny _ _ (updateSeq S (·.push .none) >>= fun _ => updateSeq S (·.pop)) _ _ _
  refine wpAny_bind (wpAny_updateSeq hS₂ rfl ?_)
  have hS₃ := Heap.get?_update_self (Obj.mapSeq (·.push Value.none)) hS₂ rfl
  refine wpAny_updateSeq (hz := by seq_fits) hS₃ rfl ?_
  have hS₄ := Heap.get?_update_self (Obj.mapSeq (·.pop)) hS₃ rfl
  have up4 : ∀ b o, b ≠ S → s.heap.get? b = some o → ((h₂.update S (Obj.mapSeq (·.push Value.none))).update S (Obj.mapSeq (·.pop))).get? b = some o :=
    fun b o hb e => (Heap.get?_update_other _ _ (Ne.symm hb)).trans ((Heap.get?_update_other _ _ (Ne.symm hb)).trans (up2 b o hb e))
  generalize (h₂.update S (Obj.mapSeq (·.push Value.none))).update S (Obj.mapSeq (·.pop)) = h₄ at hS₄ up4 ⊢
  have nSl : ∀ b, b < S → S ≠ b := fun b hb => Nat.ne_of_gt hb
  have hbs : ∀ b o, h0.get? b = some o → b ≠ S := fun b o e z => by
    have := Heap.lt_size (kp b o e)
    rw [hS0, z] at this
    exact absurd this (Nat.lt_irrefl _)
  refine wpAny_pure ⟨plainId_quiet PySem.F.plain_extend_loop _, ?_⟩
  refine zip_first (h0 := h0) .none (by simp [hh]) D ⟨hSz, nSl _ TIl, nSl _ i1l, nSl _ i2l, nSl _ l1l, nSl _ l2l⟩ (nSl _ TOl) (fun b o e => ⟨(old b o e).1, (old b o e).2.1, (old b o e).2.2.1, hbs b o e, (old b o e).2.2.2⟩) hx hy hn0 hn (up4 _ _ (nSl _ zl).symm hz) (up4 _ _ (nSl _ TIl).symm hTI) (up4 _ _ (nSl _ TOl).symm hTO) (h1.at fun o e => up4 _ o (nSl _ i1l).symm e) (h2.at fun o e => up4 _ o (nSl _ i2l).symm e) (hl1.at fun o e => up4 _ o (nSl _ l1l).symm e) (hl2.at fun o e => up4 _ o (nSl _ l2l).symm e) hS₄ (fun b o e => up4 b o (hbs b o e) (kp b o e)) ?_
  intro h' acc' c' q1 q2 q3 q4 q5 q6
  exact ⟨rfl, hQ h' acc' c' q1 q2 q3 q4 q5 q6⟩
end
end My
namespace My
open PySem PySem.Spec PyProof.Rows L2 L2.DX
/-- list(zip(a, b)) of two lists of one length: the list is new, its pairs too -/
def tListZip (K : PySem.W.Frag) (ta : TA) : TE := fun σ H Q => ta σ H fun vs H1 => ∃ (a b : Addr) (xs ys : List V), vs = [.ref a, .ref b] ∧ SqL K H1 a xs ∧ SqL K H1 b ys ∧ xs.length = ys.length ∧ 0 < xs.length ∧
  ∀ (H' : Hp) (l : Addr) (ts : List Addr), (∀ b o, H1 b = some o → H' b = some o) → H1 l = none → H' l = some (.lst (ts.map V.ref)) → ts.length = xs.length → (∀ (j : Nat) (t : Addr) (x y : V), ts[j]? = some t → xs[j]? = some x → ys[j]? = some y → H' t = some (.tup [x, y])) → Q (.ref l) H'
theorem pe_listZip {X : Cx} {e e2 : Expr} {ta : TA} {p p2 q pos : Pos} (hg : Gl X "list") (hm : X.mg "list" = none) (hg2 : Gl X "zip") (hm2 : X.mg "zip" = none) (ha : PA X [e, e2] ta) (hc : X.calm = true := by rfl)
    (hs : starEach [e, e2] X.env = (false, eval e X.env) :: starEach [e2] X.env := by rfl) (hpl : (backTo q (starEach [e2] X.env)).any (·.1) = false := by rfl) :
    PE X (.Call (.Name "list" p) [.Call (.Name "zip" p2) [e, e2] [] q] [] pos) (tListZip X.K ta) := by
  refine ⟨fun pins s σ H Q I h => ?_⟩
  refine Call_ (ld_blt I hg hm PyProof.Rows.boot_list ?_)
  refine PyProof.Rows.callWith_type1 (PyProof.Rows.args_cons ?_ rfl) rfl rfl
  refine Call_ (ld_blt I hg2 hm2 PyProof.Rows.boot_zip (PyProof.Rows.callWith_type1 (thn (ha.run q pins s σ H _ I h) fun us s1 ⟨vs, H1, I1, r1, q1⟩ => ?_) hs hpl))
  obtain ⟨a, b, xs, ys, ex, hqx, hqy, hlen, h0, q1⟩ := q1
  subst ex
  cases r1 with
  | cons r rr =>
    cases rr with
    | cons r' rr =>
      cases rr
      cases r
      cases r'
      obtain ⟨its, rv, pl1, z1⟩ := I1.list hqx
      obtain ⟨its2, rv2, pl2, z2⟩ := I1.list hqy
      have la : a < s1.heap.objs.size := pl1.lt
      have lb : b < s1.heap.objs.size := pl2.lt
      refine call_zip_2 pl1.isList pl2.isList fun h' hz hTI hTO h1 h2 hsz hk => ?_
      refine PyProof.Rows.args_nil ?_
      have e1 : its.length = xs.length := rv.length.symm
      have e2' : its2.length = ys.length := rv2.length.symm
      refine list_of_zip (h0 := s1.heap) (n := xs.length) (I1.ok.hd hc) (PySem.W.ktu_apart s1.heap.objs.size a b la lb) ?_ ?_ ?_ h0 ?_ hz hTI hTO h1 h2 (pl1.isList.at fun o e => hk _ o e) (pl2.isList.at fun o e => hk _ o e) hk ?_
      · intro c o e
        have hl := Heap.lt_size e
        exact ⟨Nat.ne_of_lt (Nat.lt_add_right _ hl), Nat.ne_of_lt hl, Nat.ne_of_lt (Nat.lt_add_right _ hl), Nat.ne_of_lt (Nat.lt_add_right _ hl)⟩
      · rw [List.size_toArray]; exact e1
      · rw [List.size_toArray, e2', hlen]
      · rw [← e1]; first | exact z1 | (rw [e1]; exact z1) | omega
      · intro h'' acc c' a1 a2 a3 a4 a5 a6
        have hbase : s1.heap.objs.size ≤ h'.objs.size := by rw [hsz]; exact Nat.le_add_right _ _
        have free0 : H1 h'.objs.size = none := I1.hok.fresh hbase
        have nod : acc.Nodup := a3.imp fun {a b} (z : a < b) => Nat.ne_of_lt z
        have hlx : (acc.map V.ref).length ≤ sizeLine := by
          rw [List.length_map, a1, ← e1]
          first | exact z1 | (rw [e1]; exact z1)
        have I2 : Inv X pins σ (upd H1 h'.objs.size (.lst (acc.map V.ref))) { s1 with heap := h'', toks := s1.toks } :=
          (I1.kept (t' := s1.toks) a5).take (h' := h'') (t' := s1.toks) (fun b ob _ e => e) (I1.fpOk hbase free0) ⟨hlx, acc.map Value.ref, c', vals_refs acc, a6⟩
        have tup : ∀ t ∈ acc, ∃ (j : Nat) (x y : V) (u v : Value), acc[j]? = some t ∧ xs[j]? = some x ∧ ys[j]? = some y ∧ RelV x u ∧ RelV y v ∧ IsPair h'' t u v := fun t ht => by
          obtain ⟨j, hj⟩ := List.getElem?_of_mem ht
          have hjl := (List.getElem?_eq_some_iff.mp hj).1
          have ex : xs[j]? = some xs[j] := List.getElem?_eq_getElem (by omega)
          have ey : ys[j]? = some ys[j] := List.getElem?_eq_getElem (by omega)
          obtain ⟨u, hu, ru⟩ := rv.get ex
          obtain ⟨v, hv, rv'⟩ := rv2.get ey
          exact ⟨j, _, _, u, v, hj, ex, ey, ru, rv', a2 j t u v hj (by simpa using hu) (by simpa using hv)⟩
        obtain ⟨H2, I3, g, qt⟩ := takeT (P := fun t vs => ∃ (j : Nat) (x y : V), acc[j]? = some t ∧ xs[j]? = some x ∧ ys[j]? = some y ∧ vs = [x, y]) I1 acc _ I2 nod fun t ht => by
          obtain ⟨j, x, y, u, v, b1, b2, b3, b4, b5, b6⟩ := tup t ht
          have big : s1.heap.objs.size ≤ t := Nat.le_trans hbase (Nat.le_of_lt (a4 t ht))
          exact ⟨big, by rw [upd_ne (Nat.ne_of_gt (a4 t ht))]; exact I1.hok.fresh big, [x, y], ⟨j, x, y, b1, b2, b3, rfl⟩, fun H3 => ⟨(by show 2 ≤ sizeLine; decide), [u, v], .cons b4 (.cons b5 .nil), ⟨_, b6, rfl, 0, rfl⟩⟩⟩
        refine ⟨.ref h'.objs.size, H2, I3, rfl, q1 H2 h'.objs.size acc (fun b o e => g b o (by rw [upd_ne (ne_of_none e free0)]; exact e)) free0 (g _ _ upd_same) a1 fun j t x y c1 c2 c3 => ?_⟩
        obtain ⟨vs', ⟨j', x', y', d1, d2, d3, ev⟩, hH⟩ := qt t (List.mem_of_getElem? c1)
        have ej : j = j' := (List.getElem?_inj (List.getElem?_eq_some_iff.mp c1).1 nod).mp (c1.trans d1.symm)
        subst ej
        rw [c2] at d2
        rw [c3] at d3
        cases d2
        cases d3
        rw [ev] at hH
        exact hH
end My
namespace My
open PySem L2 PyProof.Rows
def topS (i : Nat) : Stmt := PySem.Challenge.pw_suretexts_k63_whole_times_in_a_round.main.body.getD i (.Pass ⟨0, 0, 0, 0⟩)
abbrev s_wall : Stmt := topS 0
theorem sc_wall : FnScope ["k"] ["k"] (defScope s_wall) := ⟨rfl, rfl, rfl, by decide +kernel, rfl, by decide +kernel, by decide +kernel⟩
abbrev slongest_borders : Stmt := topS 2
theorem sclongest_borders : FnScope ["word", "lengths", "kept", "sign"] ["word"] (defScope slongest_borders) := ⟨rfl, rfl, rfl, by decide +kernel, rfl, by decide +kernel, by decide +kernel⟩
abbrev sstarts_in : Stmt := topS 3
theorem scstarts_in : FnScope ["cycle", "word", "lengths", "found", "kept", "at", "sign"] ["cycle", "word"] (defScope sstarts_in) := ⟨rfl, rfl, rfl, by decide +kernel, rfl, by decide +kernel, by decide +kernel⟩
abbrev sis_integer : Stmt := topS 12
theorem scis_integer : FnScope ["value"] ["value"] (defScope sis_integer) := ⟨rfl, rfl, rfl, by decide +kernel, rfl, by decide +kernel, by decide +kernel⟩
abbrev sis_count : Stmt := topS 13
theorem scis_count : FnScope ["value"] ["value"] (defScope sis_count) := ⟨rfl, rfl, rfl, by decide +kernel, rfl, by decide +kernel, by decide +kernel⟩
abbrev sis_between : Stmt := topS 14
theorem scis_between : FnScope ["value", "least", "most"] ["value", "least", "most"] (defScope sis_between) := ⟨rfl, rfl, rfl, by decide +kernel, rfl, by decide +kernel, by decide +kernel⟩
abbrev sis_below : Stmt := topS 15
theorem scis_below : FnScope ["value", "limit"] ["value", "limit"] (defScope sis_below) := ⟨rfl, rfl, rfl, by decide +kernel, rfl, by decide +kernel, by decide +kernel⟩
abbrev sis_listed : Stmt := topS 16
theorem scis_listed : FnScope ["value"] ["value"] (defScope sis_listed) := ⟨rfl, rfl, rfl, by decide +kernel, rfl, by decide +kernel, by decide +kernel⟩
abbrev sare_ties : Stmt := topS 22
theorem scare_ties : FnScope ["places", "value", "tie"] ["places", "value"] (defScope sare_ties) := ⟨rfl, rfl, rfl, by decide +kernel, rfl, by decide +kernel, by decide +kernel⟩
abbrev sneed_web : Stmt := topS 24
theorem scneed_web : FnScope ["web"] ["web"] (defScope sneed_web) := ⟨rfl, rfl, rfl, by decide +kernel, rfl, by decide +kernel, by decide +kernel⟩
abbrev sare_numbers : Stmt := topS 25
theorem scare_numbers : FnScope ["web", "value", "tie"] ["web", "value"] (defScope sare_numbers) := ⟨rfl, rfl, rfl, by decide +kernel, rfl, by decide +kernel, by decide +kernel⟩
abbrev s_go_on : Stmt := topS 26
theorem sc_go_on : FnScope ["web", "value", "longest", "ties", "at"] ["web", "value", "longest"] (defScope s_go_on) := ⟨rfl, rfl, rfl, by decide +kernel, rfl, by decide +kernel, by decide +kernel⟩
abbrev sis_walk : Stmt := topS 27
theorem scis_walk : FnScope ["web", "value"] ["web", "value"] (defScope sis_walk) := ⟨rfl, rfl, rfl, by decide +kernel, rfl, by decide +kernel, by decide +kernel⟩
abbrev sis_round : Stmt := topS 28
theorem scis_round : FnScope ["web", "value", "ties"] ["web", "value"] (defScope sis_round) := ⟨rfl, rfl, rfl, by decide +kernel, rfl, by decide +kernel, by decide +kernel⟩
abbrev sneed_walk : Stmt := topS 29
theorem scneed_walk : FnScope ["web", "walk"] ["web", "walk"] (defScope sneed_walk) := ⟨rfl, rfl, rfl, by decide +kernel, rfl, by decide +kernel, by decide +kernel⟩
abbrev sneed_tour : Stmt := topS 30
theorem scneed_tour : FnScope ["web", "tour"] ["web", "tour"] (defScope sneed_tour) := ⟨rfl, rfl, rfl, by decide +kernel, rfl, by decide +kernel, by decide +kernel⟩
abbrev stimes_in : Stmt := topS 32
theorem sctimes_in : FnScope ["web", "tour", "walk"] ["web", "tour", "walk"] (defScope stimes_in) := ⟨rfl, rfl, rfl, by decide +kernel, rfl, by decide +kernel, by decide +kernel⟩
abbrev s_law_pot : Stmt := topS 34
theorem sc_law_pot : FnScope ["_law_script", "_law_k", "_law_cell"] ["_law_script", "_law_k"] (defScope s_law_pot) := ⟨rfl, rfl, rfl, by decide +kernel, rfl, by decide +kernel, by decide +kernel⟩
abbrev s_law_draw : Stmt := topS 35
theorem sc_law_draw : FnScope ["_law_pot_here", "_law_many", "_law_digit"] ["_law_pot_here", "_law_many"] (defScope s_law_draw) := ⟨rfl, rfl, rfl, by decide +kernel, rfl, by decide +kernel, by decide +kernel⟩
abbrev s_law_close : Stmt := topS 36
theorem sc_law_close : FnScope ["_law_pot_here", "_law_most", "_law_more", "_law_places", "_law_order", "_law_left", "_law_ties", "_law_turn", "_law_way", "_law_near", "_law_far", "_law_tie"] ["_law_pot_here", "_law_most", "_law_more"] (defScope s_law_close) := ⟨rfl, rfl, rfl, by decide +kernel, rfl, by decide +kernel, by decide +kernel⟩
abbrev s_law_walk : Stmt := topS 37
theorem sc_law_walk : FnScope ["_law_pot_here", "_law_ties", "_law_many", "_law_found", "_law_nexts", "_law_at", "_law_tie"] ["_law_pot_here", "_law_ties", "_law_many"] (defScope s_law_walk) := ⟨rfl, rfl, rfl, by decide +kernel, rfl, by decide +kernel, by decide +kernel⟩
abbrev s_law_times : Stmt := topS 38
theorem sc_law_times : FnScope ["_law_tour_here", "_law_walk_here", "_law_found", "_law_begin", "_law_bad", "_law_at", "_law_tie"] ["_law_tour_here", "_law_walk_here"] (defScope s_law_times) := ⟨rfl, rfl, rfl, by decide +kernel, rfl, by decide +kernel, by decide +kernel⟩
abbrev s_law_tour : Stmt := topS 39
theorem sc_law_tour : FnScope ["_law_pot_here", "_law_places", "_law_ties", "_law_found", "_law_levels", "_law_turn", "_law_near", "_law_far", "_law_here", "_law_best", "_law_at", "_law_tie"] ["_law_pot_here", "_law_places", "_law_ties"] (defScope s_law_tour) := ⟨rfl, rfl, rfl, by decide +kernel, rfl, by decide +kernel, by decide +kernel⟩
abbrev slaw : Stmt := topS 40
theorem sclaw : FnScope ["_law_script", "_law_pot_here", "_law_places", "_law_ties", "_law_web", "_law_tour_here", "_law_shown", "_law_turn", "_law_walk_here", "_law_begin", "_law_many", "_law_due", "_law_by", "_law_at"] ["_law_script"] (defScope slaw) := ⟨rfl, rfl, rfl, by decide +kernel, rfl, by decide +kernel, by decide +kernel⟩
abbrev sWeb___init__ : Stmt := inClass (topS 23) 0
theorem scWeb___init__ : FnScope ["self", "places", "ties", "tie", "ends", "_"] ["self", "places", "ties"] (defScope sWeb___init__) := ⟨rfl, rfl, rfl, by decide +kernel, rfl, by decide +kernel, by decide +kernel⟩
abbrev sWeb___eq__ : Stmt := inClass (topS 23) 1
theorem scWeb___eq__ : FnScope ["self", "other"] ["self", "other"] (defScope sWeb___eq__) := ⟨rfl, rfl, rfl, by decide +kernel, rfl, by decide +kernel, by decide +kernel⟩
abbrev sWeb_places : Stmt := inClass (topS 23) 2
theorem scWeb_places : FnScope ["self"] ["self"] (defScope sWeb_places) := ⟨rfl, rfl, rfl, by decide +kernel, rfl, by decide +kernel, by decide +kernel⟩
abbrev sWeb_many : Stmt := inClass (topS 23) 3
theorem scWeb_many : FnScope ["self"] ["self"] (defScope sWeb_many) := ⟨rfl, rfl, rfl, by decide +kernel, rfl, by decide +kernel, by decide +kernel⟩
abbrev sWeb_ties : Stmt := inClass (topS 23) 4
theorem scWeb_ties : FnScope ["self"] ["self"] (defScope sWeb_ties) := ⟨rfl, rfl, rfl, by decide +kernel, rfl, by decide +kernel, by decide +kernel⟩
abbrev sWeb_ties_from : Stmt := inClass (topS 23) 5
theorem scWeb_ties_from : FnScope ["self", "place"] ["self", "place"] (defScope sWeb_ties_from) := ⟨rfl, rfl, rfl, by decide +kernel, rfl, by decide +kernel, by decide +kernel⟩
abbrev sWeb_ties_to : Stmt := inClass (topS 23) 6
theorem scWeb_ties_to : FnScope ["self", "place"] ["self", "place"] (defScope sWeb_ties_to) := ⟨rfl, rfl, rfl, by decide +kernel, rfl, by decide +kernel, by decide +kernel⟩
structure Bs (mg : Str → Option Value) : Prop where
  isinstance : mg "isinstance" = none
  int : mg "int" = none
  bool : mg "bool" = none
  list : mg "list" = none
  tuple : mg "tuple" = none
  len : mg "len" = none
  range : mg "range" = none
  abs : mg "abs" = none
  max : mg "max" = none
  min : mg "min" = none
  divmod : mg "divmod" = none
  enumerate : mg "enumerate" = none
  zip : mg "zip" = none
  repr : mg "repr" = none
structure Glo (mg : Str → Option Value) : Prop where
  MOST_PLACES : ∃ t, mg "MOST_PLACES" = some (.int 60 t)
  MOST_TIES : ∃ t, mg "MOST_TIES" = some (.int 80 t)
  LONGEST_WALK : ∃ t, mg "LONGEST_WALK" = some (.int 400 t)
  LONGEST_ROUND : ∃ t, mg "LONGEST_ROUND" = some (.int 200000 t)
structure WebK (K : PySem.W.Frag) (mg : Str → Option Value) (C : Addr) : Prop where
  cl : Cls K C
  nP : NoAttr K C "_places"
  nT : NoAttr K C "_ties"
  nF : NoAttr K C "_ties_from"
  nO : NoAttr K C "_ties_to"
  mgC : mg "Web" = some (.ref C)
  i1 : PySem.W.findIn K (.ref C) "__class__" = some (some (.builtin "object.__class__"))
  i2 : PySem.W.specialIn K (.builtin "object.__class__") "__get__" = some (some (.builtin "getset_descriptor.__get__"))
  i3 : PySem.W.takesIn K (.builtin "object.__class__") = some true
  i4 : PySem.W.mroIn K C (.type "object") = some true
  i5 : PySem.W.kitOne K (.ref C) (.ref C) = some true
  ne : PySem.W.findIn K (.ref C) "__ne__" = some (some (.builtin "object.__ne__"))
abbrev iv (L : List Nat) : List V := L.map fun n : Nat => V.int (n : Int)
theorem same_new {H : Hp} {p : Addr} (h : H p = none) (o : HO) : Same H (upd H p o) := fun b u q => by rw [upd_ne (ne_of_none q h)]; exact q
theorem iteNo {c A B : Prop} [Decidable c] (h : ¬ c) (b : B) : if decide c = true then A else B := by
  rw [decide_eq_false h]
  exact iteF b
theorem iteNot {c A B : Prop} [Decidable c] (h : ¬ c) (a : A) : if (!decide c) = true then A else B := by
  rw [decide_eq_false h]
  exact iteT a
theorem iteNot' {c A B : Prop} [Decidable c] (h : c) (b : B) : if (!decide c) = true then A else B := by
  rw [decide_eq_true h]
  exact iteF b
theorem iteNN {c A B : Prop} [Decidable c] (h : ¬ c) (b : B) : if (!!decide c) = true then A else B := by
  rw [decide_eq_false h]
  exact iteF b
theorem iv_at {L : List Nat} {j b : Nat} (h : L[j]? = some b) : atI (iv L) (j : Int) = some (.int (b : Int)) := by
  refine atI_nat ?_
  rw [iv, List.getElem?_map, h]
  rfl
theorem iv_app (L : List Nat) (n : Nat) : iv (L ++ [n]) = iv L ++ [V.int (n : Int)] := by
  unfold iv
  rw [List.map_append]
  rfl
theorem same_upd {H H' : Hp} {p : Addr} {o : HO} (h : Same H H') (np : H p = none) : Same H (upd H' p o) := fun b u q => by
  rw [upd_ne (ne_of_none q np)]
  exact h b u q
theorem iteYes {c A B : Prop} [Decidable c] (h : c) (a : A) : if decide c = true then A else B := by
  rw [decide_eq_true h]
  exact iteT a
theorem bl_true {c : Prop} [Decidable c] {Q : VK} {H : Hp} (h : c) (q : Q (.bl true) H) : Q (.bl (decide c)) H := by
  rw [decide_eq_true h]
  exact q
theorem int_eq {a b : Int} : V.int a = V.int b ↔ a = b := ⟨fun h => V.int.inj h, fun h => by rw [h]⟩
/-! ### lists of ints compared -/
abbrev iz (L : List Int) : List V := L.map V.int
theorem iv_iz (L : List Nat) : iv L = iz (L.map fun n : Nat => (n : Int)) := by
  unfold iv iz
  rw [List.map_map]
  rfl
abbrev dz (L : List Int) : PyData := .list (L.map PyData.int)
theorem dpAll_iz {K : PySem.W.Frag} {H : Hp} : ∀ L : List Int, DpAll K H (iz L) (L.map PyData.int)
  | [] => .nil
  | n :: r => .cons (.int n) (dpAll_iz r)
theorem dp_iz {K : PySem.W.Frag} {H : Hp} {p : Addr} {L : List Int} (h : H p = some (.lst (iz L))) : Dp K H (.ref p) (dz L) := .lst (SqL.of h) (dpAll_iz L)
theorem layAll_iz : ∀ L : List Int, PyData.canLayAll0 (L.map PyData.int) = true
  | [] => rfl
  | n :: r => by
    show (PyData.canLay0 (.int n) && PyData.canLayAll0 (r.map PyData.int)) = true
    rw [layAll_iz r]
    rfl
theorem depthAll_iz : ∀ L : List Int, PyData.depthAll (L.map PyData.int) = 0
  | [] => rfl
  | n :: r => by
    show max (PyData.depth (.int n)) (PyData.depthAll (r.map PyData.int)) = 0
    rw [depthAll_iz r]
    rfl
theorem shaped_iz (L : List Int) : SeqAt.shaped (dz L) = true := by
  unfold SeqAt.shaped
  have h1 : PyData.canLay0 (dz L) = true := by
    show PyData.canLay0 (.list (L.map PyData.int)) = true
    unfold PyData.canLay0
    exact layAll_iz L
  have h2 : PyData.depth (dz L) = 1 := by
    show PyData.depth (.list (L.map PyData.int)) = 1
    unfold PyData.depth
    rw [depthAll_iz]
  rw [h1, h2]
  rfl
theorem eqv_same (L : List Int) : PyData.eqv (dz L) (dz L) = true := by
  have h1 : PyData.canLay0 (dz L) = true := by
    show PyData.canLay0 (.list (L.map PyData.int)) = true
    unfold PyData.canLay0
    exact layAll_iz L
  exact SeqAt.eqv_refl _ h1
theorem eqv_empty (L : List Int) : PyData.eqv (dz L) (dz []) = decide (L = []) := by
  cases L with
  | nil => rfl
  | cons n r => rfl
theorem iteNb {x : Bool} {A B : Prop} (h : x = true) (b : B) : if (!x) = true then A else B := by
  rw [h]
  exact iteF b
theorem bl_is {x : Bool} {Q : VK} {H : Hp} (h : x = true) (q : Q (.bl true) H) : Q (.bl x) H := by
  rw [h]
  exact q
/-! ### webs in the heap -/
def Kept (a : Addr) (H H' : Hp) : Prop := ∀ b o, H b = some o → b ≠ a → H' b = some o
theorem Kept.trans {a : Addr} {H H1 H2 : Hp} (h : Kept a H H1) (h2 : Kept a H1 H2) : Kept a H H2 := fun b o e n => h2 b o (h b o e n) n
theorem Same.kept {a : Addr} {H H' : Hp} (h : Same H H') : Kept a H H' := fun b o e _ => h b o e
theorem paired_get {α β : Type} {F : α → β → Prop} : ∀ {l1 : List α} {l2 : List β} {i : Nat} {a : α}, Paired F l1 l2 → l1[i]? = some a → ∃ b, l2[i]? = some b ∧ F a b
  | _, _, _, _, .nil, h => by simp at h
  | _, _, 0, _, .cons r _, h => ⟨_, rfl, by cases h; exact r⟩
  | _, _, i + 1, _, .cons _ t, h => by
    obtain ⟨b, h1, h2⟩ := paired_get (i := i) t (by simpa using h)
    exact ⟨b, by simpa using h1, h2⟩
theorem paired_mono {α β : Type} {F G : α → β → Prop} (h : ∀ a b, F a b → G a b) : ∀ {l1 : List α} {l2 : List β}, Paired F l1 l2 → Paired G l1 l2
  | _, _, .nil => .nil
  | _, _, .cons a r => .cons (h _ _ a) (paired_mono h r)
theorem paired_len {α β : Type} {F : α → β → Prop} : ∀ {l1 : List α} {l2 : List β}, Paired F l1 l2 → l1.length = l2.length
  | _, _, .nil => rfl
  | _, _, .cons _ r => congrArg Nat.succ (paired_len r)
def TupAt (H : Hp) (p : Addr) (e : Nat × Nat) : Prop := H p = some (.tup [.int (e.1 : Int), .int (e.2 : Int)])
def TiesAt (H : Hp) (t : Addr) (ts : List (Nat × Nat)) : Prop := ∃ tas : List Addr, H t = some (.lst (tas.map V.ref)) ∧ Paired (TupAt H) tas ts
theorem TiesAt.same {H H' : Hp} {t : Addr} {ts : List (Nat × Nat)} (h : TiesAt H t ts) (s : Same H H') : TiesAt H' t ts := by
  obtain ⟨tas, h1, h2⟩ := h
  exact ⟨tas, s _ _ h1, paired_mono (fun p e hp => s _ _ hp) h2⟩
structure OkWeb (N : Nat) (ts : List (Nat × Nat)) : Prop where
  n0 : 0 < N
  n1 : N ≤ 60
  m : ts.length ≤ 80
  ok : ∀ e ∈ ts, e.1 < N ∧ e.2 < N
section
variable {P : Program} {w : World} {K : PySem.W.Frag} {mg : Str → Option Value} {base : Heap} {C : Addr}
def spis_integer (_ : PySem.W.Frag) (_ : Addr) : Sp := fun vs H Q _ => ∃ n : Int, vs = [.int n] ∧ Q (.bl true) H
theorem okis_integer (D : Def K mg "is_integer" sis_integer ["value"]) (B : Bs mg) (Glb : Glo mg) (WK : WebK K mg C) :
    Good P w K mg base "is_integer" sis_integer ["value"] 1 (spis_integer K C) := by
  refine D.good fun f fd F => ?_
  refine F.ok scis_integer (fun vs H Q E h => ?_) (fun cdv A outer s H vs Q E hr h => ?_)
  · obtain ⟨n, rfl, q⟩ := h
    first | rfl | (rcases h with ⟨_, _, rfl, _⟩ | ⟨_, rfl, _⟩ <;> rfl)
  obtain ⟨n, rfl, q⟩ := h
  refine ⟨_, (pss_one (ps_ret (pe_and (pe_callB call_isi (by rfl) B.isinstance (by decide +kernel) (pa_cons (pv 0) (pa_cons (pe_bltn (v := .ty "int") (by rfl) B.int (by decide +kernel) rfl) pa_nil))) (pe_one (pe_not (pe_callB call_isi (by rfl) B.isinstance (by decide +kernel) (pa_cons (pv 0) (pa_cons (pe_bltn (v := .ty "bool") (by rfl) B.bool (by decide +kernel) rfl) pa_nil)))))))), ?_⟩
  exact ⟨_, rfl, _, _, _, _, true, rfl, .ty _, .base (.int n), kit_ty (by decide +kernel), _, rfl, iteT ⟨_, rfl, _, _, _, _, false, rfl, .ty _, .base (.int n), kit_ty (by decide +kernel), _, rfl, q⟩⟩
def spis_count (_ : PySem.W.Frag) (_ : Addr) : Sp := fun vs H Q _ => ∃ n : Nat, vs = [.int (n : Int)] ∧ Q (.bl true) H
theorem okis_count (D : Def K mg "is_count" sis_count ["value"]) (B : Bs mg) (Glb : Glo mg) (WK : WebK K mg C)
    (his_integer : Good P w K mg base "is_integer" sis_integer ["value"] 1 (spis_integer K C)) :
    Good P w K mg base "is_count" sis_count ["value"] 2 (spis_count K C) := by
  refine D.good fun f fd F => ?_
  obtain ⟨fis_integer, dis_integer, Ois_integer, mis_integer, kis_integer, bis_integer, Fis_integer⟩ := his_integer
  refine F.ok scis_count (fun vs H Q E h => ?_) (fun cdv A outer s H vs Q E hr h => ?_)
  · obtain ⟨n, rfl, q⟩ := h
    first | rfl | (rcases h with ⟨_, _, rfl, _⟩ | ⟨_, rfl, _⟩ <;> rfl)
  obtain ⟨n, rfl, q⟩ := h
  refine ⟨_, (pss_one (ps_ret (pe_and (pe_call Ois_integer hr rfl mis_integer kis_integer bis_integer .nil pass0 (pa_cons (pv 0) pa_nil)) (pe_one (pe_cmpR op_ge (pv 0) pe_int (nomark _)))))), ?_⟩
  exact ⟨_, rfl, n, rfl, _, rfl, iteT ⟨_, rfl, _, _, rfl, rfl, bl_true (by omega) q⟩⟩
def spis_between (_ : PySem.W.Frag) (_ : Addr) : Sp := fun vs H Q _ => ∃ n a b : Int, vs = [.int n, .int a, .int b] ∧ a ≤ n ∧ n ≤ b ∧ Q (.bl true) H
theorem okis_between (D : Def K mg "is_between" sis_between ["value", "least", "most"]) (B : Bs mg) (Glb : Glo mg) (WK : WebK K mg C)
    (his_integer : Good P w K mg base "is_integer" sis_integer ["value"] 1 (spis_integer K C)) :
    Good P w K mg base "is_between" sis_between ["value", "least", "most"] 2 (spis_between K C) := by
  refine D.good fun f fd F => ?_
  obtain ⟨fis_integer, dis_integer, Ois_integer, mis_integer, kis_integer, bis_integer, Fis_integer⟩ := his_integer
  refine F.ok scis_between (fun vs H Q E h => ?_) (fun cdv A outer s H vs Q E hr h => ?_)
  · obtain ⟨n, a, b, rfl, h1, h2, q⟩ := h
    first | rfl | (rcases h with ⟨_, _, rfl, _⟩ | ⟨_, rfl, _⟩ <;> rfl)
  obtain ⟨n, a, b, rfl, h1, h2, q⟩ := h
  refine ⟨_, (pss_one (ps_ret (pe_and (pe_call Ois_integer hr rfl mis_integer kis_integer bis_integer .nil pass0 (pa_cons (pv 0) pa_nil)) (pe_one (pe_chain op_le op_le (pv 1) (pv 0) (pv 2)))))), ?_⟩
  exact ⟨_, rfl, n, rfl, _, rfl, iteT ⟨_, rfl, _, rfl, _, _, rfl, rfl, _, rfl, iteYes h1 ⟨_, rfl, _, _, rfl, rfl, bl_true h2 q⟩⟩⟩
def spis_below (_ : PySem.W.Frag) (_ : Addr) : Sp := fun vs H Q _ => ∃ n : Nat, ∃ m : Int, vs = [.int (n : Int), .int m] ∧ (n : Int) < m ∧ Q (.bl true) H
theorem okis_below (D : Def K mg "is_below" sis_below ["value", "limit"]) (B : Bs mg) (Glb : Glo mg) (WK : WebK K mg C)
    (his_count : Good P w K mg base "is_count" sis_count ["value"] 2 (spis_count K C)) :
    Good P w K mg base "is_below" sis_below ["value", "limit"] 3 (spis_below K C) := by
  refine D.good fun f fd F => ?_
  obtain ⟨fis_count, dis_count, Ois_count, mis_count, kis_count, bis_count, Fis_count⟩ := his_count
  refine F.ok scis_below (fun vs H Q E h => ?_) (fun cdv A outer s H vs Q E hr h => ?_)
  · obtain ⟨n, m, rfl, h1, q⟩ := h
    first | rfl | (rcases h with ⟨_, _, rfl, _⟩ | ⟨_, rfl, _⟩ <;> rfl)
  obtain ⟨n, m, rfl, h1, q⟩ := h
  refine ⟨_, (pss_one (ps_ret (pe_and (pe_call Ois_count hr rfl mis_count kis_count bis_count .nil pass0 (pa_cons (pv 0) pa_nil)) (pe_one (pe_cmpR op_lt (pv 0) (pv 1) (nomark _)))))), ?_⟩
  exact ⟨_, rfl, n, rfl, _, rfl, iteT ⟨_, rfl, _, rfl, _, _, rfl, rfl, bl_true h1 q⟩⟩
def spis_listed (_ : PySem.W.Frag) (_ : Addr) : Sp := fun vs H Q _ => ∃ a, vs = [.ref a] ∧ ((∃ xs, H a = some (.lst xs)) ∨ (∃ xs, H a = some (.tup xs))) ∧ ∀ H', Same H H' → Q (.bl true) H'
theorem okis_listed (D : Def K mg "is_listed" sis_listed ["value"]) (B : Bs mg) (Glb : Glo mg) (WK : WebK K mg C) :
    Good P w K mg base "is_listed" sis_listed ["value"] 1 (spis_listed K C) := by
  refine D.good fun f fd F => ?_
  refine F.ok scis_listed (fun vs H Q E h => ?_) (fun cdv A outer s H vs Q E hr h => ?_)
  · obtain ⟨a, rfl, ha, q⟩ := h
    first | rfl | (rcases h with ⟨_, _, rfl, _⟩ | ⟨_, rfl, _⟩ <;> rfl)
  obtain ⟨a, rfl, ha, q⟩ := h
  refine ⟨_, (pss_one (ps_ret (pe_callB call_isiT (by rfl) B.isinstance (by decide +kernel) (pa_cons (pv 0) (pa_cons (pe_tup (pa_cons (pe_bltn (v := .ty "list") (by rfl) B.list (by decide +kernel) rfl) (pa_cons (pe_bltn (v := .ty "tuple") (by rfl) B.tuple (by decide +kernel) rfl) pa_nil))) pa_nil))))), ?_⟩
  refine ⟨_, rfl, (by show 2 ≤ sizeLine; decide), fun tp ntp => ?_⟩
  rcases ha with ⟨xs, ha⟩ | ⟨xs, ha⟩
  · exact ⟨_, tp, [.ty "list", .ty "tuple"], .type "list", [.type "list", .type "tuple"], true, rfl, upd_same, .cons (.ty _) (.cons (.ty _) .nil), .base (.lst (same_new ntp _ _ _ ha)), kitAny_cons (b := true) (kit_ty (by decide +kernel)) (fun h => by cases h) (fun _ => rfl), q _ (same_new ntp _)⟩
  · exact ⟨_, tp, [.ty "list", .ty "tuple"], .type "tuple", [.type "list", .type "tuple"], true, rfl, upd_same, .cons (.ty _) (.cons (.ty _) .nil), .base (.tup (same_new ntp _ _ _ ha)), kitAny_cons (b := false) (kit_ty (by decide +kernel)) (fun _ => kitAny_cons (b := true) (kit_ty (by decide +kernel)) (fun h => by cases h) (fun _ => rfl)) (fun h => by cases h), q _ (same_new ntp _)⟩
def spare_ties (_ : PySem.W.Frag) (_ : Addr) : Sp := fun vs H Q _ => ∃ N : Nat, ∃ t ts, vs = [.int (N : Int), .ref t] ∧ OkWeb N ts ∧ TiesAt H t ts ∧ ∀ H', Same H H' → Q (.bl true) H'
theorem okare_ties (D : Def K mg "are_ties" sare_ties ["places", "value"]) (B : Bs mg) (Glb : Glo mg) (WK : WebK K mg C)
    (his_listed : Good P w K mg base "is_listed" sis_listed ["value"] 1 (spis_listed K C))
    (his_below : Good P w K mg base "is_below" sis_below ["value", "limit"] 3 (spis_below K C)) :
    Good P w K mg base "are_ties" sare_ties ["places", "value"] 4 (spare_ties K C) := by
  refine D.good fun f fd F => ?_
  obtain ⟨fis_listed, dis_listed, Ois_listed, mis_listed, kis_listed, bis_listed, Fis_listed⟩ := his_listed
  obtain ⟨fis_below, dis_below, Ois_below, mis_below, kis_below, bis_below, Fis_below⟩ := his_below
  refine F.ok scare_ties (fun vs H Q E h => ?_) (fun cdv A outer s H vs Q E hr h => ?_)
  · obtain ⟨N, t, ts, rfl, ho, ⟨tas, ht, hP⟩, q⟩ := h
    first | rfl | (rcases h with ⟨_, _, rfl, _⟩ | ⟨_, rfl, _⟩ <;> rfl)
  obtain ⟨N, t, ts, rfl, ho, ⟨tas, ht, hP⟩, q⟩ := h
  refine ⟨_, (pss_cons (ps_if (PW.pt (pw_or (pt_not (pt_val (pe_call Ois_listed (hr.mono (by decide)) rfl mis_listed kis_listed bis_listed .nil pass0 (pa_cons (pv 1) pa_nil)))) (pw_or1 (pt_cmpR op_gt (pe_callB call_len_seq (by rfl) B.len (by decide +kernel) (pa_cons (pv 1) pa_nil)) (pe_globI Glb.MOST_TIES) (nomark _)))))
    (pss_one (ps_ret pe_bl)) pss_nil)
  (pss_cons (ps_for PassesOwn.never rfl (pi_list (pv 1)) (pg_name (i := 2) scare_ties.nd rfl (by first | exact Or.inl rfl | exact Or.inr rfl))
    (pss_cons (ps_if (PW.pt (pw_or (pt_not (pt_val (pe_callB call_isi (by rfl) B.isinstance (by decide +kernel) (pa_cons (pv 2) (pa_cons (pe_bltn (v := .ty "tuple") (by rfl) B.tuple (by decide +kernel) rfl) pa_nil))))) (pw_or1 (pt_cmpR op_ne (pe_callB call_len_seq (by rfl) B.len (by decide +kernel) (pa_cons (pv 2) pa_nil)) pe_int (nomark _)))))
    (pss_one (ps_ret pe_bl)) pss_nil)
  (pss_one (ps_if (PW.pt (pw_or (pt_not (pt_val (pe_call Ois_below hr rfl mis_below kis_below bis_below .nil pass0 (pa_cons (pe_ix ix_tup (pv 2) pe_int (fun _ _ => rfl)) (pa_cons (pv 0) pa_nil))))) (pw_or1 (pt_not (pt_val (pe_call Ois_below hr rfl mis_below kis_below bis_below .nil pass0 (pa_cons (pe_ix ix_tup (pv 2) pe_int (fun _ _ => rfl)) (pa_cons (pv 0) pa_nil))))))))
    (pss_one (ps_ret pe_bl)) pss_nil))))
  (pss_one (ps_ret pe_bl)))), ?_⟩
  have hlen := paired_len hP
  have hm := ho.m
  refine ⟨_, rfl, t, rfl, .inl ⟨_, ht⟩, fun H1 hS1 => ⟨_, rfl, iteF ⟨_, rfl, _, _, rfl, .inl (SqL.of (hS1 _ _ ht)), _, _, rfl, rfl, _, rfl, iteNo (by rw [List.length_map]; omega) ?_⟩⟩⟩
  refine ⟨_, rfl, t, rfl, ⟨_, SqL.of (hS1 _ _ ht)⟩, for_list (K := K) (a := t) (xs := tas.map V.ref) (fun i σ H' => Same H H' ∧ ∃ v, σ = [some (.int (N : Int)), some (.ref t), v]) ⟨hS1, none, rfl⟩ (fun i σ H' _ ⟨hS', _⟩ => SqL.of (hS' _ _ ht)) ?_ ?_⟩
  · rintro i x σ H2 hx ⟨hS2, v, rfl⟩
    rw [List.getElem?_map] at hx
    obtain ⟨p, hp, rfl⟩ : ∃ p, tas[i]? = some p ∧ x = V.ref p := by
      cases e : tas[i]? with
      | none => rw [e] at hx; cases hx
      | some p => rw [e] at hx; exact ⟨p, rfl, (Option.some.inj hx).symm⟩
    obtain ⟨⟨u, v⟩, he, hpe⟩ := paired_get hP hp
    have hp2 : H2 p = some (.tup [.int (u : Int), .int (v : Int)]) := hS2 _ _ hpe
    obtain ⟨hu, hv⟩ := ho.ok _ (List.mem_of_getElem? he)
    refine ⟨_, rfl, _, _, _, _, true, rfl, .ty _, .base (.tup hp2), kit_ty (by decide +kernel), _, rfl, iteF ⟨_, rfl, _, _, rfl, .inr (SqT.of hp2), rfl, _, rfl, iteNS rfl ?_⟩⟩
    refine ⟨_, rfl, _, _, _, .int (u : Int), rfl, rfl, SqT.of hp2, rfl, _, rfl, u, N, rfl, by omega, _, rfl, iteF ⟨_, rfl, _, _, _, .int (v : Int), rfl, rfl, SqT.of hp2, rfl, _, rfl, v, N, rfl, by omega, _, rfl, iteF ?_⟩⟩
    exact ⟨hS2, _, rfl⟩
  · rintro σ H2 ⟨hS2, v, rfl⟩
    exact q H2 hS2
end
end My
namespace My
open PySem L2 PyProof.Rows
/-! ### numbers of ties from a place -/
def frmN (ts : List (Nat × Nat)) (p : Nat) : Nat → List Nat
  | 0 => []
  | i + 1 => if (ts[i]?.map Prod.fst) = some p then frmN ts p i ++ [i] else frmN ts p i
abbrev frm (ts : List (Nat × Nat)) (p : Nat) : List Nat := frmN ts p ts.length
theorem frmN_len (ts : List (Nat × Nat)) (p : Nat) : ∀ i, (frmN ts p i).length ≤ i
  | 0 => by simp [frmN]
  | i + 1 => by
    have := frmN_len ts p i
    unfold frmN
    split
    · simp; omega
    · omega
theorem frmN_mem (ts : List (Nat × Nat)) (p x : Nat) : ∀ i, x ∈ frmN ts p i ↔ x < i ∧ ts[x]?.map Prod.fst = some p
  | 0 => by simp [frmN]
  | i + 1 => by
    have ih := frmN_mem ts p x i
    unfold frmN
    split
    · rename_i c
      rw [List.mem_append, ih, List.mem_singleton]
      constructor
      · rintro (⟨h1, h2⟩ | rfl)
        · exact ⟨by omega, h2⟩
        · exact ⟨by omega, c⟩
      · rintro ⟨h1, h2⟩
        by_cases z : x = i
        · exact .inr z
        · exact .inl ⟨by omega, h2⟩
    · rename_i c
      rw [ih]
      constructor
      · rintro ⟨h1, h2⟩
        exact ⟨by omega, h2⟩
      · rintro ⟨h1, h2⟩
        refine ⟨?_, h2⟩
        by_cases z : x = i
        · subst z; exact absurd h2 c
        · omega
theorem nodup_get {α : Type} {L : List α} {j k : Nat} {x : α} (hn : L.Nodup) (h1 : L[j]? = some x) (h2 : L[k]? = some x) : j = k :=
  (List.getElem?_inj (List.getElem?_eq_some_iff.mp h1).1 hn).mp (h1.trans h2.symm)
/-! ### new empty lists -/
def Fresh (H1 : Hp) (D : Addr) (n : Nat) (H' : Hp) : Prop := ∃ fas : List Addr, fas.length = n ∧ fas.Nodup ∧ (∀ x ∈ fas, H1 x = none ∧ x ≠ D) ∧ Same H1 H' ∧ H' D = some (.lst (fas.map V.ref)) ∧ ∀ x ∈ fas, H' x = some (.lst [])
theorem Fresh.zero {H1 : Hp} {D : Addr} (h : H1 D = none) : Fresh H1 D 0 (upd H1 D (.lst [])) :=
  ⟨[], rfl, by simp, fun x h => by simp at h, same_new h _, upd_same, fun x h => by simp at h⟩
theorem Fresh.step {H1 H2 : Hp} {D p : Addr} {n : Nat} (h : Fresh H1 D n H2) (nD : H1 D = none) (hn : n < 1000) (np : H2 p = none) :
    ∃ acc, upd H2 p (.lst []) D = some (.lst acc) ∧ acc.length < sizeLine ∧ Fresh H1 D (n + 1) (upd (upd H2 p (.lst [])) D (.lst (acc ++ [.ref p]))) := by
  obtain ⟨fas, h1, h2, h3, h4, h5, h6⟩ := h
  have hpD : D ≠ p := ne_of_none h5 np
  refine ⟨fas.map V.ref, by rw [upd_ne hpD]; exact h5, by rw [List.length_map, h1]; exact Nat.lt_trans hn (by decide), fas ++ [p], by simp [h1], ?_, ?_, ?_, by rw [upd_same, List.map_append]; rfl, ?_⟩
  · rw [List.nodup_append]
    refine ⟨h2, by simp, fun x hx y hy => ?_⟩
    rw [List.mem_singleton.mp hy]
    rintro rfl
    rw [h6 _ hx] at np
    cases np
  · intro x hx
    rcases List.mem_append.mp hx with z | z
    · exact h3 x z
    · rw [List.mem_singleton.mp z]
      exact ⟨h4.free np, hpD.symm⟩
  · intro b o e
    rw [upd_ne (ne_of_none e nD), upd_ne (ne_of_none (h4 _ _ e) np)]
    exact h4 _ _ e
  · intro x hx
    rcases List.mem_append.mp hx with z | z
    · rw [upd_ne (h3 x z).2, upd_ne (ne_of_none (h6 x z) np)]
      exact h6 x z
    · rw [List.mem_singleton.mp z, upd_ne hpD.symm, upd_same]
/-- rows: heaps that keep what H held, but for these lists -/
def KeptR (R : List Addr) (H H' : Hp) : Prop := ∀ b o, H b = some o → b ∉ R → H' b = some o
theorem KeptR.refl (R : List Addr) (H : Hp) : KeptR R H H := fun _ _ h _ => h
theorem KeptR.new {R : List Addr} {H H' : Hp} {p : Addr} {o : HO} (h : KeptR R H H') (np : H' p = none) : KeptR R H (upd H' p o) := fun b u e n => by
  have := h b u e n
  rw [upd_ne (ne_of_none this np)]
  exact this
theorem KeptR.put {R : List Addr} {H H' : Hp} {p : Addr} {o : HO} (h : KeptR R H H') (hp : p ∈ R) : KeptR R H (upd H' p o) := fun b u e n => by
  rw [upd_ne (fun z => n (by rw [z]; exact hp))]
  exact h b u e n
/-! ### webs -/
def wf (N : Nat) (tl fl ol : Addr) : List (Str × V) := putF "_ties_to" (.ref ol) (putF "_ties_from" (.ref fl) (putF "_ties" (.ref tl) (putF "_places" (.int (N : Int)) [])))
theorem wf_P (N : Nat) (tl fl ol : Addr) : (wf N tl fl ol).lookup ("_places" : Str) = some (.int (N : Int)) := by
  unfold wf
  rw [lookup_putF, if_neg (by decide +kernel), lookup_putF, if_neg (by decide +kernel), lookup_putF, if_neg (by decide +kernel), lookup_putF, if_pos rfl]
theorem wf_T (N : Nat) (tl fl ol : Addr) : (wf N tl fl ol).lookup ("_ties" : Str) = some (.ref tl) := by
  unfold wf
  rw [lookup_putF, if_neg (by decide +kernel), lookup_putF, if_neg (by decide +kernel), lookup_putF, if_pos rfl]
theorem wf_F (N : Nat) (tl fl ol : Addr) : (wf N tl fl ol).lookup ("_ties_from" : Str) = some (.ref fl) := by
  unfold wf
  rw [lookup_putF, if_neg (by decide +kernel), lookup_putF, if_pos rfl]
theorem wf_O (N : Nat) (tl fl ol : Addr) : (wf N tl fl ol).lookup ("_ties_to" : Str) = some (.ref ol) := by
  unfold wf
  rw [lookup_putF, if_pos rfl]
theorem wf_no (N : Nat) (tl fl ol : Addr) {m : Str} (h1 : ¬ m = "_ties_to") (h2 : ¬ m = "_ties_from") (h3 : ¬ m = "_ties") (h4 : ¬ m = "_places") : (wf N tl fl ol).lookup m = none := by
  unfold wf
  rw [lookup_putF, if_neg h1, lookup_putF, if_neg h2, lookup_putF, if_neg h3, lookup_putF, if_neg h4]
  all_goals rfl
theorem putF_len (f : Str) (v : V) : ∀ l : List (Str × V), (putF f v l).length ≤ l.length + 1
  | [] => by simp [putF]
  | (g, x) :: r => by
    have := putF_len f v r
    unfold putF
    split
    · simp
    · simp; omega
def RowsAt (H : Hp) (p : Addr) (N : Nat) (f : Nat → List Nat) : Prop := ∃ fas : List Addr, H p = some (.lst (fas.map V.ref)) ∧ fas.length = N ∧ ∀ j x, fas[j]? = some x → H x = some (.lst (iv (f j)))
theorem RowsAt.same {H H' : Hp} {p : Addr} {N : Nat} {f : Nat → List Nat} (h : RowsAt H p N f) (s : Same H H') : RowsAt H' p N f := by
  obtain ⟨fas, h1, h2, h3⟩ := h
  exact ⟨fas, s _ _ h1, h2, fun j x e => s _ _ (h3 j x e)⟩
theorem RowsAt.get {H : Hp} {p : Addr} {N : Nat} {f : Nat → List Nat} (h : RowsAt H p N f) {j : Nat} (hj : j < N) : ∃ x xs, H p = some (.lst xs) ∧ atI xs (j : Int) = some (.ref x) ∧ H x = some (.lst (iv (f j))) := by
  obtain ⟨fas, h1, h2, h3⟩ := h
  have e : fas[j]? = some (fas[j]'(by omega)) := List.getElem?_eq_getElem _
  refine ⟨_, _, h1, atI_nat ?_, h3 j _ e⟩
  rw [List.getElem?_map, e]
  rfl
def WebAt (C a : Addr) (N : Nat) (ts : List (Nat × Nat)) (H : Hp) : Prop := ∃ dx tl fl ol, H a = some (.ins C dx (wf N tl fl ol)) ∧ TiesAt H tl ts ∧ RowsAt H fl N (frm ts)
theorem WebAt.same {C a : Addr} {N : Nat} {ts : List (Nat × Nat)} {H H' : Hp} (h : WebAt C a N ts H) (s : Same H H') : WebAt C a N ts H' := by
  obtain ⟨dx, tl, fl, ol, h1, h2, h3⟩ := h
  exact ⟨dx, tl, fl, ol, s _ _ h1, h2.same s, h3.same s⟩
/-- what is new in H' or a tuple, and what stands at a -/
noncomputable def Sub (H H' : Hp) (a : Addr) : Hp := fun b => by
  classical
  exact if H b = none ∨ b = a ∨ ∃ xs, H' b = some (.tup xs) then H' b else none
theorem Sub.of {H H' : Hp} {a b : Addr} {o : HO} (h : H' b = some o) (k : H b = none ∨ b = a ∨ ∃ xs, H' b = some (.tup xs)) : Sub H H' a b = some o := by
  unfold Sub
  rw [if_pos k]
  exact h
theorem Sub.same {H H' : Hp} {a : Addr} : Same (Sub H H' a) H' := fun b o e => by
  unfold Sub at e
  split at e
  · exact e
  · cases e
theorem Sub.none {H H' : Hp} {a b : Addr} {xs : List V} (h : H b = some (.lst xs)) (n : b ≠ a) (k : H' b = some (.lst xs)) : Sub H H' a b = Option.none := by
  unfold Sub
  rw [if_neg]
  rintro (z | z | ⟨ys, z⟩)
  · rw [h] at z; cases z
  · exact n z
  · rw [k] at z; cases z
section
variable {P : Program} {w : World} {K : PySem.W.Frag} {mg : Str → Option Value} {base : Heap} {C : Addr}
def spWeb___init__ (_ : PySem.W.Frag) (C : Addr) : Sp := fun vs H Q _ => ∃ a dx N t ts, vs = [.ref a, .int ((N : Nat) : Int), .ref t] ∧ OkWeb N ts ∧ TiesAt H t ts ∧ H a = some (.ins C dx []) ∧ ∀ H', Kept a H H' → WebAt C a N ts (Sub H H' a) → Q .non H'
theorem okWeb___init__ (D : DefI K C "__init__" "Web.__init__" sWeb___init__ ["self", "places", "ties"]) (B : Bs mg) (Glb : Glo mg) (WK : WebK K mg C)
    (his_between : Good P w K mg base "is_between" sis_between ["value", "least", "most"] 2 (spis_between K C))
    (hare_ties : Good P w K mg base "are_ties" sare_ties ["places", "value"] 4 (spare_ties K C)) :
    GoodI P w K mg base C "__init__" "Web.__init__" sWeb___init__ ["self", "places", "ties"] 5 (spWeb___init__ K C) := by
  refine D.good fun f fd F => ?_
  obtain ⟨fis_between, dis_between, Ois_between, mis_between, kis_between, bis_between, Fis_between⟩ := his_between
  obtain ⟨fare_ties, dare_ties, Oare_ties, mare_ties, kare_ties, bare_ties, Fare_ties⟩ := hare_ties
  refine F.ok scWeb___init__ (fun vs H Q E h => ?_) (fun cdv A outer s H vs Q E hr h => ?_)
  · obtain ⟨a, dx, N, t, ts, rfl, ho, ht, ha, q⟩ := h
    first | rfl | (rcases h with ⟨_, _, rfl, _⟩ | ⟨_, rfl, _⟩ <;> rfl)
  obtain ⟨a, dx, N, t, ts, rfl, ho, ht, ha, q⟩ := h
  refine ⟨_, (pss_cons (ps_if (pt_not (pt_val (pe_call Ois_between (hr.mono (by decide)) rfl mis_between kis_between bis_between .nil pass0 (pa_cons (pv 1) (pa_cons pe_int (pa_cons (pe_globI Glb.MOST_PLACES) pa_nil))))))
    (pss_one ps_never) pss_nil)
  (pss_cons (ps_if (pt_not (pt_val (pe_call Oare_ties hr rfl mare_ties kare_ties bare_ties .nil pass0 (pa_cons (pv 1) (pa_cons (pv 2) pa_nil)))))
    (pss_one ps_never) pss_nil)
  (pss_cons (ps_fld (pv 0) (pv 1) rfl)
  (pss_cons (ps_fld (pv 0) (pe_callTy call_list_of (by rfl) B.list (by decide +kernel) (pa_cons (pv 2) pa_nil)) rfl)
  (pss_cons (ps_fld (pv 0) (pe_lc (own := [("_", 5)]) (g := gName 5) (by rfl) scWeb___init__.nd (pi_range1 (by rfl) B.range (pa_cons (pv 1) pa_nil)) (blkOk_by (own := [("_", 5)]) (N := ["self", "places", "ties", "tie", "ends", "_"]) (sc := defScope sWeb___init__) (by decide +kernel)) (fun _ _ _ _ _ => (pg_name (i := 5) scWeb___init__.nd rfl (by first | exact Or.inl rfl | exact Or.inr rfl))) (fun _ _ _ _ _ => pts_nil) (fun _ _ _ _ _ => (pe_lst pa_nil))) rfl)
  (pss_cons (ps_fld (pv 0) (pe_lc (own := [("_", 5)]) (g := gName 5) (by rfl) scWeb___init__.nd (pi_range1 (by rfl) B.range (pa_cons (pv 1) pa_nil)) (blkOk_by (own := [("_", 5)]) (N := ["self", "places", "ties", "tie", "ends", "_"]) (sc := defScope sWeb___init__) (by decide +kernel)) (fun _ _ _ _ _ => (pg_name (i := 5) scWeb___init__.nd rfl (by first | exact Or.inl rfl | exact Or.inr rfl))) (fun _ _ _ _ _ => pts_nil) (fun _ _ _ _ _ => (pe_lst pa_nil))) rfl)
  (pss_one (ps_for PassesOwn.never rfl (pi_enum (by rfl) B.enumerate (pa_cons (pe_fld (pv 0) rfl) pa_nil)) (pg_tup rfl (pgs_cons (pg_name (i := 3) scWeb___init__.nd rfl (by first | exact Or.inl rfl | exact Or.inr rfl)) (pgs_cons (pg_name (i := 4) scWeb___init__.nd rfl (by first | exact Or.inl rfl | exact Or.inr rfl)) pgs_nil)))
    (pss_cons (ps_expr (pe_bm PySem.F.plainAttrs_list PySem.F.slot_list_append PySem.F.type_list_append mt_append (pe_ix ix_list (pe_fld (pv 0) rfl) (pe_ix ix_tup (pv 4) pe_int (fun _ _ => rfl)) (fun _ _ => rfl)) (pa_cons (pv 3) pa_nil)))
  (pss_one (ps_expr (pe_bm PySem.F.plainAttrs_list PySem.F.slot_list_append PySem.F.type_list_append mt_append (pe_ix ix_list (pe_fld (pv 0) rfl) (pe_ix ix_tup (pv 4) pe_int (fun _ _ => rfl)) (fun _ _ => rfl)) (pa_cons (pv 3) pa_nil))))))))))))), ?_⟩
  refine ⟨_, rfl, (N : Int), 1, 60, rfl, by have := ho.n0; omega, by have := ho.n1; omega, _, rfl, iteF ?_⟩
  refine ⟨_, rfl, _, rfl, N, t, ts, rfl, ho, ht, fun H1 hS1 => ⟨_, rfl, iteF ?_⟩⟩
  have ha1 := hS1 _ _ ha
  obtain ⟨tas, ht1, hP1⟩ := ht.same hS1
  have nat : t ≠ a := ne_of ht1 ha1 (by intro q; cases q)
  have nta : ∀ p e, TupAt H1 p e → p ≠ a := fun p e hp => ne_of hp ha1 (by intro q; cases q)
  refine ⟨_, rfl, _, rfl, a, C, dx, [], rfl, ha1, WK.cl, WK.nP, (by decide), ?_⟩
  refine ⟨_, rfl, t, _, rfl, .inl (SqL.of (by rw [upd_ne nat]; exact ht1)), fun tl ntl => ?_⟩
  have natl : a ≠ tl := ne_of_none upd_same ntl
  have ntl1 : H1 tl = none := by rw [upd_ne natl.symm] at ntl; exact ntl
  refine ⟨_, rfl, a, C, dx, _, rfl, (by rw [upd_ne natl]; exact upd_same), WK.cl, WK.nT, Nat.lt_of_le_of_lt (putF_len _ _ _) (by decide), ?_⟩
  generalize e4 : upd (upd (upd H1 a (.ins C dx (putF "_places" (.int (N : Int)) []))) tl (.lst (tas.map V.ref))) a (.ins C dx (putF "_ties" (.ref tl) (putF "_places" (.int (N : Int)) []))) = H4
  have k4 : Kept a H1 H4 := fun b o e n => by rw [← e4, upd_ne n, upd_ne (ne_of_none e ntl1), upd_ne n]; exact e
  have ha4 : H4 a = some (.ins C dx (putF "_ties" (.ref tl) (putF "_places" (.int (N : Int)) []))) := by rw [← e4]; exact upd_same
  have htl4 : H4 tl = some (.lst (tas.map V.ref)) := by rw [← e4, upd_ne natl.symm]; exact upd_same
  have hN := ho.n1
  refine ⟨_, rfl, _, rfl, by omega, by omega, fun D1 nD1 => ?_⟩
  refine lc_range (lo := 0) (n := N) (fun i H' => Fresh H4 D1 i H') (Fresh.zero nD1) ?_ ?_
  · intro i H' hi hf
    exact ⟨rfl, Nat.zero_le _, fun p np => hf.step nD1 (by omega) np⟩
  rintro H5 ⟨fas, f1, f2, f3, f4, f5, f6⟩
  have ha5 := f4 _ _ ha4
  have fa : ∀ x ∈ fas, x ≠ a := fun x hx z => by
    have := (f3 x hx).1
    rw [z, ha4] at this
    cases this
  have naD1 : D1 ≠ a := fun z => by rw [z, ha4] at nD1; cases nD1
  refine ⟨_, rfl, a, C, dx, _, rfl, ha5, WK.cl, WK.nF, Nat.lt_of_le_of_lt (putF_len _ _ _) (Nat.lt_of_le_of_lt (Nat.succ_le_succ (putF_len _ _ _)) (by decide)), ?_⟩
  generalize e6 : upd H5 a (.ins C dx (putF "_ties_from" (.ref D1) (putF "_ties" (.ref tl) (putF "_places" (.int (N : Int)) [])))) = H6
  have k6 : Kept a H5 H6 := fun b o e n => by rw [← e6, upd_ne n]; exact e
  have ha6 : H6 a = some (.ins C dx (putF "_ties_from" (.ref D1) (putF "_ties" (.ref tl) (putF "_places" (.int (N : Int)) [])))) := by rw [← e6]; exact upd_same
  refine ⟨_, rfl, _, rfl, by omega, by omega, fun D2 nD2 => ?_⟩
  refine lc_range (lo := 0) (n := N) (fun i H' => Fresh H6 D2 i H') (Fresh.zero nD2) ?_ ?_
  · intro i H' hi hf
    exact ⟨rfl, Nat.zero_le _, fun p np => hf.step nD2 (by omega) np⟩
  rintro H7 ⟨os, g1, g2, g3, g4, g5, g6⟩
  have ha7 := g4 _ _ ha6
  refine ⟨_, rfl, a, C, dx, _, rfl, ha7, WK.cl, WK.nO, Nat.lt_of_le_of_lt (putF_len _ _ _) (Nat.lt_of_le_of_lt (Nat.succ_le_succ (putF_len _ _ _)) (Nat.lt_of_le_of_lt (Nat.succ_le_succ (Nat.succ_le_succ (putF_len _ _ _))) (by decide))), ?_⟩
  generalize e8 : upd H7 a (.ins C dx (putF "_ties_to" (.ref D2) (putF "_ties_from" (.ref D1) (putF "_ties" (.ref tl) (putF "_places" (.int (N : Int)) []))))) = H8
  have k8 : Kept a H7 H8 := fun b o e n => by rw [← e8, upd_ne n]; exact e
  have ha8 : H8 a = some (.ins C dx (wf N tl D1 D2)) := by rw [← e8]; exact upd_same
  have oa : ∀ x ∈ os, x ≠ a := fun x hx z => by
    have := (g3 x hx).1
    rw [z, ha6] at this
    cases this
  have naD2 : D2 ≠ a := fun z => by rw [z, ha6] at nD2; cases nD2
  have fo : ∀ x ∈ fas, x ∉ os := fun x hx z => by
    have h := (g3 x z).1
    rw [k6 _ _ (f6 x hx) (fa x hx)] at h
    cases h
  -- what stands before the lists is none of them
  have old : ∀ b o, H4 b = some o → b ≠ a → H8 b = some o ∧ b ∉ fas ∧ b ∉ os := fun b o e n => by
    have h5 := f4 _ _ e
    have h6 := k6 _ _ h5 n
    refine ⟨k8 _ _ (g4 _ _ h6) n, fun z => ?_, fun z => ?_⟩
    · rw [(f3 b z).1] at e; cases e
    · rw [(g3 b z).1] at h6; cases h6
  have ntla : tl ≠ a := natl.symm
  have oldA : a ∉ fas ∧ a ∉ os := ⟨fun z => fa a z rfl, fun z => oa a z rfl⟩
  have oldT := old _ _ htl4 ntla
  have oldE : ∀ p e, TupAt H1 p e → TupAt H8 p e ∧ p ∉ fas ∧ p ∉ os := fun p e hp => old _ _ (k4 _ _ hp (nta p e hp)) (nta p e hp)
  have f58 : H8 D1 = some (.lst (fas.map V.ref)) := k8 _ _ (g4 _ _ (k6 _ _ f5 naD1)) naD1
  have D1f : D1 ∉ fas := fun z => (f3 D1 z).2 rfl
  have D1o : D1 ∉ os := fun z => by
    have h := (g3 D1 z).1
    rw [k6 _ _ f5 naD1] at h
    cases h
  have g58 : H8 D2 = some (.lst (os.map V.ref)) := k8 _ _ g5 naD2
  have D2o : D2 ∉ os := fun z => (g3 D2 z).2 rfl
  have D2f : D2 ∉ fas := fun z => by
    have h := k6 _ _ (f6 D2 z) (fa D2 z)
    rw [nD2] at h
    cases h
  have fe8 : ∀ x ∈ fas, H8 x = some (.lst []) := fun x hx => k8 _ _ (g4 _ _ (k6 _ _ (f6 x hx) (fa x hx))) (fa x hx)
  have oe8 : ∀ x ∈ os, H8 x = some (.lst []) := fun x hx => k8 _ _ (g6 x hx) (oa x hx)
  have nin : ∀ {b : Addr}, b ∉ fas → b ∉ os → b ∉ fas ++ os := fun h1 h2 z => (List.mem_append.mp z).elim h1 h2
  refine ⟨_, rfl, a, C, dx, _, _, rfl, ha8, WK.cl, WK.nT, wf_T _ _ _ _, tl, _, rfl, SqL.of oldT.1, ?_⟩
  refine for_it (walk_enum (K := K) (a := tl) (xs := tas.map V.ref)) (fun i σ H' => ∃ v3 v4 v5 : Option V, σ = [some (.ref a), some (.int (N : Int)), some (.ref t), v3, v4, v5] ∧ KeptR (fas ++ os) H8 H' ∧ (∀ (j : Nat) (x : Addr), fas[j]? = some x → H' x = some (.lst (iv (frmN ts j i)))) ∧ (∀ (j : Nat) (x : Addr), os[j]? = some x → ∃ L : List V, H' x = some (.lst L) ∧ L.length ≤ i)) ?_ ?_ ?_ ?_
  · exact ⟨_, _, _, rfl, .refl _ _, fun j x e => fe8 x (List.mem_of_getElem? e), fun j x e => ⟨[], oe8 x (List.mem_of_getElem? e), Nat.zero_le _⟩⟩
  · rintro i σ H' hi ⟨v3, v4, v5, rfl, hk, _, _⟩
    exact SqL.of (hk _ _ oldT.1 (nin oldT.2.1 oldT.2.2))
  · rintro i x σ H9 H10 hi ⟨v3, v4, v5, rfl, hk, hf, hos⟩ ⟨T0, x1, x2, rfl, nT0, rfl, e1, e2⟩
    cases e1
    rw [List.length_map] at hi
    replace e2 : (tas.map V.ref)[i]? = some x2 := e2
    rw [List.getElem?_map, List.getElem?_eq_getElem hi] at e2
    cases e2
    obtain ⟨⟨u, v⟩, he, hpe⟩ := paired_get hP1 (List.getElem?_eq_getElem hi)
    obtain ⟨hu, hv⟩ := ho.ok _ (List.mem_of_getElem? he)
    have hp8 := oldE _ _ hpe
    have hp9 : H9 tas[i] = some (.tup [.int (u : Int), .int (v : Int)]) := hk _ _ hp8.1 (nin hp8.2.1 hp8.2.2)
    have hkN : KeptR (fas ++ os) H8 (upd H9 T0 (.tup [.int (i : Int), .ref tas[i]])) := hk.new nT0
    generalize e10 : upd H9 T0 (.tup [.int (i : Int), .ref tas[i]]) = H10
    rw [e10] at hkN
    have hT10 : H10 T0 = some (.tup [.int (i : Int), .ref tas[i]]) := by rw [← e10]; exact upd_same
    have hS10 : Same H9 H10 := by rw [← e10]; exact same_new nT0 _
    have hp10 := hS10 _ _ hp9
    have ha10 := hkN _ _ ha8 (nin oldA.1 oldA.2)
    have hfl10 := hkN _ _ f58 (nin D1f D1o)
    obtain ⟨xu, eu⟩ : ∃ x, fas[u]? = some x := ⟨fas[u]'(by omega), List.getElem?_eq_getElem _⟩
    obtain ⟨xv, ev⟩ : ∃ x, os[v]? = some x := ⟨os[v]'(by omega), List.getElem?_eq_getElem _⟩
    have mu := List.mem_of_getElem? eu
    have mv := List.mem_of_getElem? ev
    have hxu := hS10 _ _ (hf u xu eu)
    obtain ⟨Lv, hxv, hLv⟩ := hos v xv ev
    have nxu : ∀ {b : Addr}, b ∉ fas → b ≠ xu := fun h z => h (by rw [z]; exact mu)
    have nxv : ∀ {b : Addr}, b ∉ os → b ≠ xv := fun h z => h (by rw [z]; exact mv)
    have htl := ho.m
    have htsl : i < ts.length := by rw [← paired_len hP1]; exact hi
    refine ⟨T0, _, rfl, SqT.of hT10, rfl, _, _, rfl, _, _, rfl, rfl, ?_⟩
    refine ⟨_, rfl, a, C, dx, _, _, rfl, ha10, WK.cl, WK.nF, wf_F _ _ _ _, _, rfl, _, _, _, .int (u : Int), rfl, rfl, SqT.of hp10, rfl, _, _, _, .ref xu, rfl, rfl, SqL.of hfl10, atI_nat (by rw [List.getElem?_map, eu]; rfl), .inl ⟨rfl, _, SqL.of hxu⟩, _, rfl, xu, _, _, rfl, rfl, hxu, ?_, ?_⟩
    · rw [List.length_map]
      exact Nat.lt_of_le_of_lt (frmN_len ts u i) (Nat.lt_trans (by omega : i < 1000) (by decide))
    generalize e11 : upd H10 xu (.lst (iv (frmN ts u i) ++ [.int (i : Int)])) = H11
    have hk11 : KeptR (fas ++ os) H8 H11 := by rw [← e11]; exact hkN.put (List.mem_append_left _ mu)
    have ha11 := hk11 _ _ ha8 (nin oldA.1 oldA.2)
    have hol11 := hk11 _ _ g58 (nin D2f D2o)
    have hp11 : H11 tas[i] = some (.tup [.int (u : Int), .int (v : Int)]) := hk11 _ _ hp8.1 (nin hp8.2.1 hp8.2.2)
    have hxv11 : H11 xv = some (.lst Lv) := by
      rw [← e11, upd_ne (fun z => fo xu mu (by rw [← z]; exact mv))]
      exact hS10 _ _ hxv
    refine ⟨_, rfl, a, C, dx, _, _, rfl, ha11, WK.cl, WK.nO, wf_O _ _ _ _, _, rfl, _, _, _, .int (v : Int), rfl, rfl, SqT.of hp11, rfl, _, _, _, .ref xv, rfl, rfl, SqL.of hol11, atI_nat (by rw [List.getElem?_map, ev]; rfl), .inl ⟨rfl, _, SqL.of hxv11⟩, _, rfl, xv, _, _, rfl, rfl, hxv11, Nat.lt_of_le_of_lt hLv (Nat.lt_trans (by omega : i < 1000) (by decide)), ?_⟩
    refine ⟨_, _, _, rfl, hk11.put (List.mem_append_right _ mv), fun j x e => ?_, fun j x e => ?_⟩
    · have nx : x ≠ xv := fun z => fo x (List.mem_of_getElem? e) (by rw [z]; exact mv)
      rw [upd_ne nx]
      have eti : ts[i]?.map Prod.fst = some u := by rw [he]; rfl
      by_cases c : x = xu
      · have ej : j = u := nodup_get f2 e (by rw [c]; exact eu)
        subst ej
        rw [c, ← e11, upd_same, show frmN ts j (i + 1) = frmN ts j i ++ [i] from if_pos eti, iv_app]
      · have ej : ¬ (ts[i]?.map Prod.fst) = some j := fun z => by
          rw [eti] at z
          cases z
          rw [eu] at e
          exact c (Option.some.inj e).symm
        rw [← e11, upd_ne c, show frmN ts j (i + 1) = frmN ts j i from if_neg ej]
        exact hS10 _ _ (hf j x e)
    · by_cases c : x = xv
      · exact ⟨_, by rw [c]; exact upd_same, by rw [List.length_append, List.length_singleton]; omega⟩
      · obtain ⟨L, h1, h2⟩ := hos j x e
        refine ⟨L, ?_, by omega⟩
        rw [upd_ne c, ← e11, upd_ne (fun z => fo xu mu (by rw [← z]; exact List.mem_of_getElem? e))]
        exact hS10 _ _ h1
  · rintro σ H9 ⟨v3, v4, v5, rfl, hk, hf, hos⟩
    have hlen : (tas.map V.ref).length = ts.length := by rw [List.length_map]; exact paired_len hP1
    rw [hlen] at hf
    have to9 : ∀ b o, H4 b = some o → b ≠ a → H9 b = some o := fun b o e n => by
      have h := old b o e n
      exact hk _ _ h.1 (nin h.2.1 h.2.2)
    have g0 : ∀ b, b ≠ a → H4 b = none → H b = none := fun b n e => by
      cases e2 : H b with
      | none => rfl
      | some o =>
        rw [k4 _ _ (hS1 _ _ e2) n] at e
        cases e
    refine q H9 (fun b o e n => to9 b o (k4 _ _ (hS1 _ _ e) n) n) ⟨dx, tl, D1, D2, Sub.of (hk _ _ ha8 (nin oldA.1 oldA.2)) (.inr (.inl rfl)), ⟨tas, Sub.of (to9 _ _ htl4 ntla) (.inl (hS1.free ntl1)), ?_⟩, ⟨fas, Sub.of (hk _ _ f58 (nin D1f D1o)) (.inl (g0 _ naD1 nD1)), f1, fun j x e => Sub.of (hf j x e) (.inl ?_)⟩⟩
    · refine paired_mono (fun p e hp => ?_) hP1
      have hp9 := to9 _ _ (k4 _ _ hp (nta p e hp)) (nta p e hp)
      exact Sub.of hp9 (.inr (.inr ⟨_, hp9⟩))
    · have hm := List.mem_of_getElem? e
      exact g0 x (fa x hm) (f3 x hm).1
def spWeb_places (_ : PySem.W.Frag) (C : Addr) : Sp := fun vs H Q _ => ∃ a N ts, vs = [.ref a] ∧ WebAt C a N ts H ∧ Q (.int (N : Int)) H
theorem okWeb_places (D : DefP K C "places" "Web.places" sWeb_places ["self"]) (B : Bs mg) (Glb : Glo mg) (WK : WebK K mg C) :
    GoodP P w K mg base C "places" "Web.places" sWeb_places ["self"] 1 (spWeb_places K C) := by
  refine D.good fun f fd F => ?_
  refine F.ok scWeb_places (fun vs H Q E h => ?_) (fun cdv A outer s H vs Q E hr h => ?_)
  · obtain ⟨a, N, ts, rfl, ⟨dx, tl, fl, ol, h1, h2, h3⟩, q⟩ := h
    first | rfl | (rcases h with ⟨_, _, rfl, _⟩ | ⟨_, rfl, _⟩ <;> rfl)
  obtain ⟨a, N, ts, rfl, ⟨dx, tl, fl, ol, h1, h2, h3⟩, q⟩ := h
  refine ⟨_, (pss_one (ps_ret (pe_fld (pv 0) rfl))), ?_⟩
  exact ⟨_, rfl, a, C, dx, _, _, rfl, h1, WK.cl, WK.nP, wf_P _ _ _ _, q⟩
def spWeb_many (_ : PySem.W.Frag) (C : Addr) : Sp := fun vs H Q _ => ∃ a N ts, vs = [.ref a] ∧ WebAt C a N ts H ∧ Q (.int (ts.length : Int)) H
theorem okWeb_many (D : DefP K C "many" "Web.many" sWeb_many ["self"]) (B : Bs mg) (Glb : Glo mg) (WK : WebK K mg C) :
    GoodP P w K mg base C "many" "Web.many" sWeb_many ["self"] 1 (spWeb_many K C) := by
  refine D.good fun f fd F => ?_
  refine F.ok scWeb_many (fun vs H Q E h => ?_) (fun cdv A outer s H vs Q E hr h => ?_)
  · obtain ⟨a, N, ts, rfl, ⟨dx, tl, fl, ol, h1, ⟨tas, ht, hP⟩, h3⟩, q⟩ := h
    first | rfl | (rcases h with ⟨_, _, rfl, _⟩ | ⟨_, rfl, _⟩ <;> rfl)
  obtain ⟨a, N, ts, rfl, ⟨dx, tl, fl, ol, h1, ⟨tas, ht, hP⟩, h3⟩, q⟩ := h
  refine ⟨_, (pss_one (ps_ret (pe_callB call_len_seq (by rfl) B.len (by decide +kernel) (pa_cons (pe_fld (pv 0) rfl) pa_nil)))), ?_⟩
  refine ⟨_, rfl, a, C, dx, _, _, rfl, h1, WK.cl, WK.nT, wf_T _ _ _ _, _, _, rfl, .inl (SqL.of ht), ?_⟩
  rw [List.length_map, paired_len hP]
  exact q
def spWeb_ties (_ : PySem.W.Frag) (C : Addr) : Sp := fun vs H Q _ => ∃ a N ts, vs = [.ref a] ∧ WebAt C a N ts H ∧ ∀ H' l, H l = none → Same H H' → TiesAt H' l ts → Q (.ref l) H'
theorem okWeb_ties (D : DefM K C "ties" "Web.ties" sWeb_ties ["self"]) (B : Bs mg) (Glb : Glo mg) (WK : WebK K mg C) :
    GoodM P w K mg base C "ties" "Web.ties" sWeb_ties ["self"] 1 (spWeb_ties K C) := by
  refine D.good fun f fd F => ?_
  refine F.ok scWeb_ties (fun vs H Q E h => ?_) (fun cdv A outer s H vs Q E hr h => ?_)
  · obtain ⟨a, N, ts, rfl, ⟨dx, tl, fl, ol, h1, ⟨tas, ht, hP⟩, h3⟩, q⟩ := h
    first | rfl | (rcases h with ⟨_, _, rfl, _⟩ | ⟨_, rfl, _⟩ <;> rfl)
  obtain ⟨a, N, ts, rfl, ⟨dx, tl, fl, ol, h1, ⟨tas, ht, hP⟩, h3⟩, q⟩ := h
  refine ⟨_, (pss_one (ps_ret (pe_callTy call_list_of (by rfl) B.list (by decide +kernel) (pa_cons (pe_fld (pv 0) rfl) pa_nil)))), ?_⟩
  exact ⟨_, rfl, a, C, dx, _, _, rfl, h1, WK.cl, WK.nT, wf_T _ _ _ _, _, _, rfl, .inl (SqL.of ht), fun l nl => q _ l nl (same_new nl _) ⟨tas, upd_same, paired_mono (fun p e hp => same_new nl _ _ _ hp) hP⟩⟩
def spneed_web (_ : PySem.W.Frag) (C : Addr) : Sp := fun vs H Q _ => ∃ a N ts, vs = [.ref a] ∧ WebAt C a N ts H ∧ Q .non H
theorem okneed_web (D : Def K mg "need_web" sneed_web ["web"]) (B : Bs mg) (Glb : Glo mg) (WK : WebK K mg C) :
    Good P w K mg base "need_web" sneed_web ["web"] 3 (spneed_web K C) := by
  refine D.good fun f fd F => ?_
  refine F.ok scneed_web (fun vs H Q E h => ?_) (fun cdv A outer s H vs Q E hr h => ?_)
  · obtain ⟨a, N, ts, rfl, hw, q⟩ := h
    first | rfl | (rcases h with ⟨_, _, rfl, _⟩ | ⟨_, rfl, _⟩ <;> rfl)
  obtain ⟨a, N, ts, rfl, hw, q⟩ := h
  refine ⟨_, (pss_one (ps_if (pt_not (pt_val (pe_callB call_isi (by rfl) B.isinstance (by decide +kernel) (pa_cons (pv 0) (pa_cons (pe_glob (v := .ref C) (by rfl) WK.mgC rfl) pa_nil)))))
    (pss_one ps_never) pss_nil)), ?_⟩
  obtain ⟨dx, tl, fl, ol, h1, h2, h3⟩ := id hw
  exact ⟨_, rfl, _, _, _, _, true, rfl, .own C, .base (.ins h1 WK.cl WK.i1 WK.i2 WK.i3 WK.i4), WK.i5, _, rfl, iteF q⟩
/-- a list or a tuple of ints -/
def SeqAt (H : Hp) (s : Addr) (W : List Nat) : Prop := H s = some (.lst (iv W)) ∨ H s = some (.tup (iv W))
theorem SeqAt.same {H H' : Hp} {s : Addr} {W : List Nat} (h : SeqAt H s W) (hs : Same H H') : SeqAt H' s W := h.imp (hs _ _) (hs _ _)
def spare_numbers (_ : PySem.W.Frag) (C : Addr) : Sp := fun vs H Q _ => ∃ a N ts s W, vs = [.ref a, .ref s] ∧ WebAt C a N ts H ∧ SeqAt H s W ∧ (∀ x ∈ W, x < ts.length) ∧ ∀ H', Same H H' → Q (.bl true) H'
theorem okare_numbers (D : Def K mg "are_numbers" sare_numbers ["web", "value"]) (B : Bs mg) (Glb : Glo mg) (WK : WebK K mg C)
    (his_listed : Good P w K mg base "is_listed" sis_listed ["value"] 1 (spis_listed K C))
    (his_below : Good P w K mg base "is_below" sis_below ["value", "limit"] 3 (spis_below K C))
    (hWeb_many : GoodP P w K mg base C "many" "Web.many" sWeb_many ["self"] 1 (spWeb_many K C)) :
    Good P w K mg base "are_numbers" sare_numbers ["web", "value"] 4 (spare_numbers K C) := by
  refine D.good fun f fd F => ?_
  obtain ⟨fis_listed, dis_listed, Ois_listed, mis_listed, kis_listed, bis_listed, Fis_listed⟩ := his_listed
  obtain ⟨fis_below, dis_below, Ois_below, mis_below, kis_below, bis_below, Fis_below⟩ := his_below
  obtain ⟨qWeb_many, fWeb_many, dWeb_many, OWeb_many, pWeb_many, bWeb_many⟩ := hWeb_many
  refine F.ok scare_numbers (fun vs H Q E h => ?_) (fun cdv A outer s H vs Q E hr h => ?_)
  · obtain ⟨a, N, ts, s, W, rfl, hw, hs, hW, q⟩ := h
    first | rfl | (rcases h with ⟨_, _, rfl, _⟩ | ⟨_, rfl, _⟩ <;> rfl)
  obtain ⟨a, N, ts, s, W, rfl, hw, hs, hW, q⟩ := h
  refine ⟨_, (pss_cons (ps_if (pt_not (pt_val (pe_call Ois_listed (hr.mono (by decide)) rfl mis_listed kis_listed bis_listed .nil pass0 (pa_cons (pv 1) pa_nil))))
    (pss_one (ps_ret pe_bl)) pss_nil)
  (pss_cons (ps_for PassesOwn.never rfl (pi_or (pi_list (pv 1)) (pi_tup (pv 1))) (pg_name (i := 2) scare_numbers.nd rfl (by first | exact Or.inl rfl | exact Or.inr rfl))
    (pss_one (ps_if (pt_not (pt_val (pe_call Ois_below hr rfl mis_below kis_below bis_below .nil pass0 (pa_cons (pv 2) (pa_cons (pe_prop (pv 0) WK.cl pWeb_many OWeb_many (hr.mono (by decide)) bWeb_many .nil pass0 (by rfl)) pa_nil)))))
    (pss_one (ps_ret pe_bl)) pss_nil)))
  (pss_one (ps_ret pe_bl)))), ?_⟩
  refine ⟨_, rfl, s, rfl, hs.imp (fun h => ⟨_, h⟩) (fun h => ⟨_, h⟩), fun H1 hS1 => ⟨_, rfl, iteF ?_⟩⟩
  have key : ∀ (i : Nat) (x : V) (H2 : Hp), (iv W)[i]? = some x → Same H1 H2 → ∃ n : Nat, x = .int (n : Int) ∧ n < ts.length ∧ WebAt C a N ts H2 := fun i x H2 hx hS2 => by
    rw [List.getElem?_map] at hx
    cases e : W[i]? with
    | none => rw [e] at hx; cases hx
    | some n =>
      rw [e] at hx
      exact ⟨n, (Option.some.inj hx).symm, hW n (List.mem_of_getElem? e), (hw.same hS1).same hS2⟩
  rcases hs.same hS1 with h | h
  · refine .inl ⟨_, rfl, s, rfl, ⟨_, SqL.of h⟩, for_list (K := K) (a := s) (xs := iv W) (fun i σ H' => Same H1 H' ∧ ∃ v, σ = [some (.ref a), some (.ref s), v]) ⟨fun _ _ e => e, none, rfl⟩ (fun i σ H' _ ⟨hS', _⟩ => SqL.of (hS' _ _ h)) ?_ ?_⟩
    · rintro i x σ H2 hx ⟨hS2, v, rfl⟩
      obtain ⟨n, rfl, hn, hw2⟩ := key i x H2 hx hS2
      obtain ⟨dx, tl, fl, ol, h1, _⟩ := id hw2
      exact ⟨_, rfl, _, rfl, a, dx, _, rfl, h1, a, N, ts, rfl, hw2, n, _, rfl, by omega, _, rfl, iteF ⟨hS2, _, rfl⟩⟩
    · rintro σ H2 ⟨hS2, v, rfl⟩
      exact q H2 (hS1.trans hS2)
  · refine .inr ⟨_, rfl, s, rfl, ⟨_, SqT.of h⟩, for_tup (K := K) (a := s) (xs := iv W) (fun i σ H' => Same H1 H' ∧ ∃ v, σ = [some (.ref a), some (.ref s), v]) ⟨fun _ _ e => e, none, rfl⟩ (fun i σ H' _ ⟨hS', _⟩ => SqT.of (hS' _ _ h)) ?_ ?_⟩
    · rintro i x σ H2 hx ⟨hS2, v, rfl⟩
      obtain ⟨n, rfl, hn, hw2⟩ := key i x H2 hx hS2
      obtain ⟨dx, tl, fl, ol, h1, _⟩ := id hw2
      exact ⟨_, rfl, _, rfl, a, dx, _, rfl, h1, a, N, ts, rfl, hw2, n, _, rfl, by omega, _, rfl, iteF ⟨hS2, _, rfl⟩⟩
    · rintro σ H2 ⟨hS2, v, rfl⟩
      exact q H2 (hS1.trans hS2)
end
end My
namespace My
open PySem L2 PyProof.Rows
theorem SeqAt.seq {K : PySem.W.Frag} {H : Hp} {s : Addr} {W : List Nat} (h : SeqAt H s W) : SqL K H s (iv W) ∨ SqT K H s (iv W) := h.imp SqL.of SqT.of
theorem SeqAt.ix {K : PySem.W.Frag} {H : Hp} {s : Addr} {W : List Nat} {i : Int} {b : Nat} {Q : VK} (h : SeqAt H s W) (e : atI (iv W) i = some (.int (b : Int))) (q : Q (.int (b : Int)) H) : rIx K (.ref s) (.int i) H Q := by
  rcases h with h | h
  · exact .inl ⟨_, _, _, _, rfl, rfl, SqL.of h, e, q⟩
  · exact .inr (.inl ⟨_, _, _, _, rfl, rfl, SqT.of h, e, q⟩)
theorem TiesAt.at_ {H : Hp} {l : Addr} {ts : List (Nat × Nat)} (h : TiesAt H l ts) {x : Nat} {e : Nat × Nat} (hx : ts[x]? = some e) : ∃ xs p, H l = some (.lst xs) ∧ atI xs (x : Int) = some (.ref p) ∧ H p = some (.tup [.int (e.1 : Int), .int (e.2 : Int)]) := by
  obtain ⟨tas, h1, h2⟩ := h
  have hl := paired_len h2
  have hx2 := (List.getElem?_eq_some_iff.mp hx).1
  have e1 : tas[x]? = some (tas[x]'(by omega)) := List.getElem?_eq_getElem _
  obtain ⟨f, hf, hp⟩ := paired_get h2 e1
  rw [hx] at hf
  cases hf
  refine ⟨_, _, h1, atI_nat ?_, hp⟩
  rw [List.getElem?_map, e1]
  rfl
theorem atI_back {α : Type} {xs : List α} {v : α} (h : xs[xs.length - 1]? = some v) : atI xs (-1) = some v := by
  have h0 := (List.getElem?_eq_some_iff.mp h).1
  unfold atI ixN
  rw [if_neg (by decide), if_pos (by omega)]
  show xs[((-1 : Int) + (xs.length : Int)).toNat]? = _
  rw [show ((-1 : Int) + (xs.length : Int)).toNat = xs.length - 1 by omega]
  exact h
theorem iv_back {L : List Nat} {b : Nat} (h : L[L.length - 1]? = some b) : atI (iv L) (-1) = some (.int (b : Int)) := by
  refine atI_back ?_
  rw [List.length_map, List.getElem?_map, h]
  rfl
/-! ### walks and rounds -/
structure Chain (ts : List (Nat × Nat)) (R : List Nat) : Prop where
  n0 : 0 < R.length
  num : ∀ x ∈ R, x < ts.length
  on : ∀ i, i + 1 < R.length → ∃ x y e f, R[i]? = some x ∧ R[i + 1]? = some y ∧ ts[x]? = some e ∧ ts[y]? = some f ∧ f.1 = e.2
structure Tour (ts : List (Nat × Nat)) (R : List Nat) : Prop where
  ch : Chain ts R
  n1 : R.length ≤ 1000
  back : ∃ x y e f, R[0]? = some x ∧ R[R.length - 1]? = some y ∧ ts[x]? = some e ∧ ts[y]? = some f ∧ e.1 = f.2
section
variable {P : Program} {w : World} {K : PySem.W.Frag} {mg : Str → Option Value} {base : Heap} {C : Addr}
def sp_go_on (_ : PySem.W.Frag) (C : Addr) : Sp := fun vs H Q _ => ∃ a N ts s R, ∃ m : Int, vs = [.ref a, .ref s, .int m] ∧ WebAt C a N ts H ∧ SeqAt H s R ∧ Chain ts R ∧ (R.length : Int) ≤ m ∧ R.length ≤ 1000 ∧ ∀ H', Same H H' → Q (.bl true) H'
theorem ok_go_on (D : Def K mg "_go_on" s_go_on ["web", "value", "longest"]) (B : Bs mg) (Glb : Glo mg) (WK : WebK K mg C)
    (his_listed : Good P w K mg base "is_listed" sis_listed ["value"] 1 (spis_listed K C))
    (his_between : Good P w K mg base "is_between" sis_between ["value", "least", "most"] 2 (spis_between K C))
    (hare_numbers : Good P w K mg base "are_numbers" sare_numbers ["web", "value"] 4 (spare_numbers K C))
    (hWeb_ties : GoodM P w K mg base C "ties" "Web.ties" sWeb_ties ["self"] 1 (spWeb_ties K C)) :
    Good P w K mg base "_go_on" s_go_on ["web", "value", "longest"] 5 (sp_go_on K C) := by
  refine D.good fun f fd F => ?_
  obtain ⟨fis_listed, dis_listed, Ois_listed, mis_listed, kis_listed, bis_listed, Fis_listed⟩ := his_listed
  obtain ⟨fis_between, dis_between, Ois_between, mis_between, kis_between, bis_between, Fis_between⟩ := his_between
  obtain ⟨fare_numbers, dare_numbers, Oare_numbers, mare_numbers, kare_numbers, bare_numbers, Fare_numbers⟩ := hare_numbers
  obtain ⟨fWeb_ties, dWeb_ties, OWeb_ties, tWeb_ties, bWeb_ties, FWeb_ties⟩ := hWeb_ties
  refine F.ok sc_go_on (fun vs H Q E h => ?_) (fun cdv A outer s H vs Q E hr h => ?_)
  · obtain ⟨a, N, ts, s, R, m, rfl, hw, hs, hc, hm, h1, q⟩ := h
    first | rfl | (rcases h with ⟨_, _, rfl, _⟩ | ⟨_, rfl, _⟩ <;> rfl)
  obtain ⟨a, N, ts, s, R, m, rfl, hw, hs, hc, hm, h1, q⟩ := h
  refine ⟨_, (pss_cons (ps_if (PW.pt (pw_or (pt_not (pt_val (pe_call Ois_listed (hr.mono (by decide)) rfl mis_listed kis_listed bis_listed .nil pass0 (pa_cons (pv 1) pa_nil)))) (pw_or (pt_not (pt_val (pe_call Ois_between (hr.mono (by decide)) rfl mis_between kis_between bis_between .nil pass0 (pa_cons (pe_callB call_len_seq (by rfl) B.len (by decide +kernel) (pa_cons (pv 1) pa_nil)) (pa_cons pe_int (pa_cons (pv 2) pa_nil)))))) (pw_or1 (pt_not (pt_val (pe_call Oare_numbers hr rfl mare_numbers kare_numbers bare_numbers .nil pass0 (pa_cons (pv 0) (pa_cons (pv 1) pa_nil)))))))))
    (pss_one (ps_ret pe_bl)) pss_nil)
  (pss_cons (ps_set (i := 3) sc_go_on.nd rfl (by first | exact Or.inl rfl | exact Or.inr rfl) (pe_meth0 (pv 0) WK.cl tWeb_ties OWeb_ties (hr.mono (by decide)) bWeb_ties .nil pass0))
  (pss_cons (ps_for PassesOwn.never rfl (pi_range2 (by rfl) B.range (pa_cons pe_int (pa_cons (pe_callB call_len_seq (by rfl) B.len (by decide +kernel) (pa_cons (pv 1) pa_nil)) pa_nil))) (pg_name (i := 4) sc_go_on.nd rfl (by first | exact Or.inl rfl | exact Or.inr rfl))
    (pss_one (ps_if (pt_cmpR op_ne (pe_ix ix_tup (pe_ix ix_list (pv 3) (pe_ix ix_seq (pv 1) (pv 4) (fun _ _ => rfl)) (fun _ _ => rfl)) pe_int (fun _ _ => rfl)) (pe_ix ix_tup (pe_ix ix_list (pv 3) (pe_ix ix_seq (pv 1) (pe_op op_sub (pv 4) pe_int) (fun _ _ => rfl)) (fun _ _ => rfl)) pe_int (fun _ _ => rfl)) (nomark _))
    (pss_one (ps_ret pe_bl)) pss_nil)))
  (pss_one (ps_ret pe_bl))))), ?_⟩
  have h0 := hc.n0
  refine ⟨_, rfl, s, rfl, hs.imp (fun h => ⟨_, h⟩) (fun h => ⟨_, h⟩), fun H1 hS1 => ⟨_, rfl, iteF ?_⟩⟩
  refine ⟨_, rfl, s, _, rfl, (hs.same hS1).seq, _, rfl, (R.length : Int), 1, m, ?_, by omega, hm, _, rfl, iteF ?_⟩
  · rw [List.length_map]
    rfl
  refine ⟨_, rfl, _, rfl, a, N, ts, s, R, rfl, hw.same hS1, hs.same hS1, hc.num, fun H2 hS2 => ⟨_, rfl, iteF ?_⟩⟩
  have hw2 := (hw.same hS1).same hS2
  obtain ⟨dx, tl, fl, ol, g1, _⟩ := id hw2
  refine ⟨_, rfl, a, dx, _, rfl, g1, wf_no _ _ _ _ (by decide +kernel) (by decide +kernel) (by decide +kernel) (by decide +kernel), a, N, ts, rfl, hw2, fun H3 l nl hS3 hT => ?_⟩
  have hs3 := ((hs.same hS1).same hS2).same hS3
  refine ⟨_, rfl, s, _, rfl, hs3.seq, _, _, rfl, ⟨by omega, by omega, by omega, by rw [List.length_map]; omega⟩, ?_⟩
  rw [List.length_map, show ((R.length : Int) - 1).toNat = R.length - 1 by omega]
  refine for_range (lo := 1) (n := R.length - 1) (fun i σ H' => H' = H3 ∧ ∃ v, σ = [some (.ref a), some (.ref s), some (.int m), some (.ref l), v]) ⟨rfl, none, rfl⟩ ?_ ?_
  · rintro i σ H4 hi ⟨rfl, v, rfl⟩
    rw [show (1 : Int) + (i : Int) = ((i + 1 : Nat) : Int) by omega]
    obtain ⟨x, y, e, f, e1, e2, e3, e4, e5⟩ := hc.on i (by omega)
    obtain ⟨xs, p, k1, k2, k3⟩ := hT.at_ e4
    obtain ⟨xs', p', k1', k2', k3'⟩ := hT.at_ e3
    refine ⟨_, rfl, _, rfl, _, rfl, hs3.ix (iv_at e2) ⟨_, _, _, _, rfl, rfl, SqL.of k1, k2, _, _, _, _, rfl, rfl, SqT.of k3, rfl, ?_⟩⟩
    refine ⟨_, rfl, _, rfl, _, rfl, _, _, rfl, rfl, hs3.ix (by rw [show ((i + 1 : Nat) : Int) - 1 = (i : Int) by omega]; exact iv_at e1) ⟨_, _, _, _, rfl, rfl, SqL.of k1', k2', _, _, _, _, rfl, rfl, SqT.of k3', rfl, rfl, _, rfl, ?_⟩⟩
    refine iteNot' (by rw [e5]) ⟨rfl, _, rfl⟩
  · rintro σ H4 ⟨rfl, v, rfl⟩
    exact q H4 ((hS1.trans hS2).trans hS3)
def spis_round (_ : PySem.W.Frag) (C : Addr) : Sp := fun vs H Q _ => ∃ a N ts s R, vs = [.ref a, .ref s] ∧ WebAt C a N ts H ∧ SeqAt H s R ∧ Tour ts R ∧ ∀ H', Same H H' → Q (.bl true) H'
theorem okis_round (D : Def K mg "is_round" sis_round ["web", "value"]) (B : Bs mg) (Glb : Glo mg) (WK : WebK K mg C)
    (hneed_web : Good P w K mg base "need_web" sneed_web ["web"] 3 (spneed_web K C))
    (h_go_on : Good P w K mg base "_go_on" s_go_on ["web", "value", "longest"] 5 (sp_go_on K C))
    (hWeb_ties : GoodM P w K mg base C "ties" "Web.ties" sWeb_ties ["self"] 1 (spWeb_ties K C)) :
    Good P w K mg base "is_round" sis_round ["web", "value"] 6 (spis_round K C) := by
  refine D.good fun f fd F => ?_
  obtain ⟨fneed_web, dneed_web, Oneed_web, mneed_web, kneed_web, bneed_web, Fneed_web⟩ := hneed_web
  obtain ⟨f_go_on, d_go_on, O_go_on, m_go_on, k_go_on, b_go_on, F_go_on⟩ := h_go_on
  obtain ⟨fWeb_ties, dWeb_ties, OWeb_ties, tWeb_ties, bWeb_ties, FWeb_ties⟩ := hWeb_ties
  refine F.ok scis_round (fun vs H Q E h => ?_) (fun cdv A outer s H vs Q E hr h => ?_)
  · obtain ⟨a, N, ts, s, R, rfl, hw, hs, ht, q⟩ := h
    first | rfl | (rcases h with ⟨_, _, rfl, _⟩ | ⟨_, rfl, _⟩ <;> rfl)
  obtain ⟨a, N, ts, s, R, rfl, hw, hs, ht, q⟩ := h
  refine ⟨_, (pss_cons (ps_expr (pe_call Oneed_web (hr.mono (by decide)) rfl mneed_web kneed_web bneed_web .nil pass0 (pa_cons (pv 0) pa_nil)))
  (pss_cons (ps_if (pt_not (pt_val (pe_call O_go_on hr rfl m_go_on k_go_on b_go_on .nil pass0 (pa_cons (pv 0) (pa_cons (pv 1) (pa_cons (pe_globI Glb.LONGEST_ROUND) pa_nil))))))
    (pss_one (ps_ret pe_bl)) pss_nil)
  (pss_cons (ps_set (i := 2) scis_round.nd rfl (by first | exact Or.inl rfl | exact Or.inr rfl) (pe_meth0 (pv 0) WK.cl tWeb_ties OWeb_ties (hr.mono (by decide)) bWeb_ties .nil pass0))
  (pss_one (ps_ret (pe_cmpR op_eq (pe_ix ix_tup (pe_ix ix_list (pv 2) (pe_ix ix_seq (pv 1) pe_int (fun _ _ => rfl)) (fun _ _ => rfl)) pe_int (fun _ _ => rfl)) (pe_ix ix_tup (pe_ix ix_list (pv 2) (pe_ix ix_seq (pv 1) (pe_un un_neg pe_int) (fun _ _ => rfl)) (fun _ _ => rfl)) pe_int (fun _ _ => rfl)) (nomark _))))))), ?_⟩
  have h0 := ht.ch.n0
  have h1 := ht.n1
  refine ⟨_, rfl, a, N, ts, rfl, hw, _, rfl, _, rfl, a, N, ts, s, R, 200000, rfl, hw, hs, ht.ch, by omega, h1, fun H1 hS1 => ⟨_, rfl, iteF ?_⟩⟩
  have hw2 := hw.same hS1
  obtain ⟨dx, tl, fl, ol, g1, _⟩ := id hw2
  refine ⟨_, rfl, a, dx, _, rfl, g1, wf_no _ _ _ _ (by decide +kernel) (by decide +kernel) (by decide +kernel) (by decide +kernel), a, N, ts, rfl, hw2, fun H3 l nl hS3 hT => ?_⟩
  have hs3 := (hs.same hS1).same hS3
  obtain ⟨x, y, e, f, e1, e2, e3, e4, e5⟩ := ht.back
  obtain ⟨xs, p, k1, k2, k3⟩ := hT.at_ e3
  obtain ⟨xs', p', k1', k2', k3'⟩ := hT.at_ e4
  refine ⟨_, rfl, _, rfl, hs3.ix (iv_at (j := 0) e1) ⟨_, _, _, _, rfl, rfl, SqL.of k1, k2, _, _, _, _, rfl, rfl, SqT.of k3, rfl, ?_⟩⟩
  refine ⟨_, rfl, _, rfl, _, rfl, hs3.ix (b := y) ?_ ⟨_, _, _, _, rfl, rfl, SqL.of k1', k2', _, _, _, _, rfl, rfl, SqT.of k3', rfl, rfl, ?_⟩⟩
  · exact iv_back e2
  · exact bl_true (by rw [e5]) (q H3 (hS1.trans hS3))
def spneed_tour (_ : PySem.W.Frag) (C : Addr) : Sp := fun vs H Q _ => ∃ a N ts s R, vs = [.ref a, .ref s] ∧ WebAt C a N ts H ∧ SeqAt H s R ∧ Tour ts R ∧ ∀ H', Same H H' → Q .non H'
theorem okneed_tour (D : Def K mg "need_tour" sneed_tour ["web", "tour"]) (B : Bs mg) (Glb : Glo mg) (WK : WebK K mg C)
    (his_round : Good P w K mg base "is_round" sis_round ["web", "value"] 6 (spis_round K C)) :
    Good P w K mg base "need_tour" sneed_tour ["web", "tour"] 7 (spneed_tour K C) := by
  refine D.good fun f fd F => ?_
  obtain ⟨fis_round, dis_round, Ois_round, mis_round, kis_round, bis_round, Fis_round⟩ := his_round
  refine F.ok scneed_tour (fun vs H Q E h => ?_) (fun cdv A outer s H vs Q E hr h => ?_)
  · obtain ⟨a, N, ts, s, R, rfl, hw, hs, ht, q⟩ := h
    first | rfl | (rcases h with ⟨_, _, rfl, _⟩ | ⟨_, rfl, _⟩ <;> rfl)
  obtain ⟨a, N, ts, s, R, rfl, hw, hs, ht, q⟩ := h
  refine ⟨_, (pss_one (ps_if (pt_not (pt_val (pe_call Ois_round hr rfl mis_round kis_round bis_round .nil pass0 (pa_cons (pv 0) (pa_cons (pv 1) pa_nil)))))
    (pss_one ps_never) pss_nil)), ?_⟩
  exact ⟨_, rfl, _, rfl, a, N, ts, s, R, rfl, hw, hs, ht, fun H1 hS1 => ⟨_, rfl, iteF (q H1 hS1)⟩⟩
def spis_walk (_ : PySem.W.Frag) (C : Addr) : Sp := fun vs H Q _ => ∃ a N ts s R, vs = [.ref a, .ref s] ∧ WebAt C a N ts H ∧ SeqAt H s R ∧ Chain ts R ∧ R.length ≤ 400 ∧ ∀ H', Same H H' → Q (.bl true) H'
theorem okis_walk (D : Def K mg "is_walk" sis_walk ["web", "value"]) (B : Bs mg) (Glb : Glo mg) (WK : WebK K mg C)
    (hneed_web : Good P w K mg base "need_web" sneed_web ["web"] 3 (spneed_web K C))
    (h_go_on : Good P w K mg base "_go_on" s_go_on ["web", "value", "longest"] 5 (sp_go_on K C)) :
    Good P w K mg base "is_walk" sis_walk ["web", "value"] 6 (spis_walk K C) := by
  refine D.good fun f fd F => ?_
  obtain ⟨fneed_web, dneed_web, Oneed_web, mneed_web, kneed_web, bneed_web, Fneed_web⟩ := hneed_web
  obtain ⟨f_go_on, d_go_on, O_go_on, m_go_on, k_go_on, b_go_on, F_go_on⟩ := h_go_on
  refine F.ok scis_walk (fun vs H Q E h => ?_) (fun cdv A outer s H vs Q E hr h => ?_)
  · obtain ⟨a, N, ts, s, R, rfl, hw, hs, hc, h1, q⟩ := h
    first | rfl | (rcases h with ⟨_, _, rfl, _⟩ | ⟨_, rfl, _⟩ <;> rfl)
  obtain ⟨a, N, ts, s, R, rfl, hw, hs, hc, h1, q⟩ := h
  refine ⟨_, (pss_cons (ps_expr (pe_call Oneed_web (hr.mono (by decide)) rfl mneed_web kneed_web bneed_web .nil pass0 (pa_cons (pv 0) pa_nil)))
  (pss_one (ps_ret (pe_call O_go_on hr rfl m_go_on k_go_on b_go_on .nil pass0 (pa_cons (pv 0) (pa_cons (pv 1) (pa_cons (pe_globI Glb.LONGEST_WALK) pa_nil))))))), ?_⟩
  exact ⟨_, rfl, a, N, ts, rfl, hw, _, rfl, _, rfl, a, N, ts, s, R, 400, rfl, hw, hs, hc, by omega, by omega, q⟩
def spneed_walk (_ : PySem.W.Frag) (C : Addr) : Sp := fun vs H Q _ => ∃ a N ts s R, vs = [.ref a, .ref s] ∧ WebAt C a N ts H ∧ SeqAt H s R ∧ Chain ts R ∧ R.length ≤ 400 ∧ ∀ H', Same H H' → Q .non H'
theorem okneed_walk (D : Def K mg "need_walk" sneed_walk ["web", "walk"]) (B : Bs mg) (Glb : Glo mg) (WK : WebK K mg C)
    (his_walk : Good P w K mg base "is_walk" sis_walk ["web", "value"] 6 (spis_walk K C)) :
    Good P w K mg base "need_walk" sneed_walk ["web", "walk"] 7 (spneed_walk K C) := by
  refine D.good fun f fd F => ?_
  obtain ⟨fis_walk, dis_walk, Ois_walk, mis_walk, kis_walk, bis_walk, Fis_walk⟩ := his_walk
  refine F.ok scneed_walk (fun vs H Q E h => ?_) (fun cdv A outer s H vs Q E hr h => ?_)
  · obtain ⟨a, N, ts, s, R, rfl, hw, hs, hc, h1, q⟩ := h
    first | rfl | (rcases h with ⟨_, _, rfl, _⟩ | ⟨_, rfl, _⟩ <;> rfl)
  obtain ⟨a, N, ts, s, R, rfl, hw, hs, hc, h1, q⟩ := h
  refine ⟨_, (pss_one (ps_if (pt_not (pt_val (pe_call Ois_walk hr rfl mis_walk kis_walk bis_walk .nil pass0 (pa_cons (pv 0) (pa_cons (pv 1) pa_nil)))))
    (pss_one ps_never) pss_nil)), ?_⟩
  exact ⟨_, rfl, _, rfl, a, N, ts, s, R, rfl, hw, hs, hc, h1, fun H1 hS1 => ⟨_, rfl, iteF (q H1 hS1)⟩⟩
end
end My
namespace My
open PySem L2 PyProof.Rows
theorem cutV_from {xs : List V} {k : Nat} : cutV xs (some (k : Int)) none = xs.drop k := by
  unfold cutV
  rw [HT.sIx_none, HT.sIx_nat]
  by_cases h : k ≤ xs.length
  · rw [Nat.min_eq_left h, List.take_of_length_le (by rw [List.length_drop]; omega)]
  · rw [Nat.min_eq_right (by omega), List.drop_of_length_le (by omega), List.drop_of_length_le (by omega)]
    simp
section
variable {P : Program} {w : World} {K : PySem.W.Frag} {mg : Str → Option Value} {base : Heap} {C : Addr}
def splongest_borders (_ : PySem.W.Frag) (_ : Addr) : Sp := fun vs H Q _ => ∃ s W, vs = [.ref s] ∧ SeqAt H s W ∧ 0 < W.length ∧ W.length ≤ 500 ∧ ∀ L p H', Bords W L → Same H H' → H p = none → H' p = some (.lst (iv L)) → Q (.ref p) H'
theorem oklongest_borders (D : Def K mg "longest_borders" slongest_borders ["word"]) (B : Bs mg) (Glb : Glo mg) (WK : WebK K mg C) :
    Good P w K mg base "longest_borders" slongest_borders ["word"] 1 (splongest_borders K C) := by
  refine D.good fun f fd F => ?_
  refine F.ok sclongest_borders (fun vs H Q E h => ?_) (fun cdv A outer s H vs Q E hr h => ?_)
  · obtain ⟨s, W, rfl, hs, h0, hlen, q'⟩ := h
    first | rfl | (rcases h with ⟨_, _, rfl, _⟩ | ⟨_, rfl, _⟩ <;> rfl)
  obtain ⟨s, W, rfl, hs, h0, hlen, q'⟩ := h
  refine ⟨_, (pss_cons (ps_set (i := 1) sclongest_borders.nd rfl (by first | exact Or.inl rfl | exact Or.inr rfl) (pe_lst (pa_cons pe_int pa_nil)))
  (pss_cons (ps_set (i := 2) sclongest_borders.nd rfl (by first | exact Or.inl rfl | exact Or.inr rfl) pe_int)
  (pss_cons (ps_for PassesOwn.never rfl (pi_or (pi_list (pe_slice sl_list (pv 0) (po_some pe_int) po_none)) (pi_tup (pe_slice sl_tup (pv 0) (po_some pe_int) po_none))) (pg_name (i := 3) sclongest_borders.nd rfl (by first | exact Or.inl rfl | exact Or.inr rfl))
    (pss_cons (ps_while PassesOwn.never (PW.pt (pw_and (pt_cmpR op_gt (pv 2) pe_int (nomark _)) (pw_and1 (pt_cmpR op_ne (pe_ix ix_seq (pv 0) (pv 2) (fun _ _ => rfl)) (pv 3) (nomark _)))))
    (pss_one (ps_set (i := 2) sclongest_borders.nd rfl (by first | exact Or.inl rfl | exact Or.inr rfl) (pe_ix ix_list (pv 1) (pe_op op_sub (pv 2) pe_int) (fun _ _ => rfl)))))
  (pss_cons (ps_if (pt_cmpR op_eq (pe_ix ix_seq (pv 0) (pv 2) (fun _ _ => rfl)) (pv 3) (nomark _))
    (pss_one (ps_aug (i := 2) sclongest_borders.nd rfl (by first | exact Or.inl rfl | exact Or.inr rfl) pe_int ip_add)) pss_nil)
  (pss_one (ps_expr (pe_bm PySem.F.plainAttrs_list PySem.F.slot_list_append PySem.F.type_list_append mt_append (pv 1) (pa_cons (pv 2) pa_nil)))))))
  (pss_one (ps_ret (pv 1)))))), ?_⟩
  refine ⟨(by show 1 ≤ sizeLine; decide), fun p np => ?_⟩
  rcases hs with h | h
  · have hsl : SeqAt H s W := .inl h
    refine .inl ⟨_, rfl, _, rfl, s, _, rfl, SqL.of (same_new np _ _ _ h), fun q nq => ?_⟩
    rw [show cutV (iv W) (some (1 : Int)) none = (iv W).drop 1 from cutV_from (k := 1)]
    have hqp : p ≠ q := ne_of_none upd_same nq
    have hS1 : Same H (upd (upd H p (.lst [.int 0])) q (.lst ((iv W).drop 1))) := (same_new np _).trans (same_new nq _)
    have hq1 : upd (upd H p (.lst [.int 0])) q (.lst ((iv W).drop 1)) q = some (.lst (iv (W.drop 1))) := by rw [upd_same, iv, iv, List.map_drop]
    have hp1 : upd (upd H p (.lst [.int 0])) q (.lst ((iv W).drop 1)) p = some (.lst (iv [0])) := by rw [upd_ne hqp]; exact upd_same
    generalize upd (upd H p (.lst [.int 0])) q (.lst ((iv W).drop 1)) = H1 at hS1 hq1 hp1
    refine ⟨q, rfl, ⟨_, SqL.of hq1⟩, ?_⟩
    refine for_list (K := K) (a := q) (xs := iv (W.drop 1)) (fun i σ H' => ∃ (L : List Nat) (k : Nat) (v : Option V), σ = [some (.ref s), some (.ref p), some (.int (k : Int)), v] ∧ BordsTo W (i + 1) L ∧ Longest W ((W.drop 1).take i) k ∧ Same H H' ∧ H' p = some (.lst (iv L)) ∧ H' q = some (.lst (iv (W.drop 1)))) ⟨[0], 0, none, rfl, bordsTo_one h0, by simpa using longest_nil W, hS1, hp1, hq1⟩ (fun i σ H' _ ⟨_, _, _, _, _, _, _, _, h⟩ => SqL.of h) ?_ ?_
    · rintro i x σ H2 hx ⟨L, k, v, rfl, hB, hL, hS, hp, hq⟩
      have hil := (List.getElem?_eq_some_iff.mp hx).1
      rw [List.length_map, List.length_drop] at hil
      obtain ⟨c, hci, rfl⟩ : ∃ c, (W.drop 1)[i]? = some c ∧ x = .int ((c : Nat) : Int) := by
        rw [List.getElem?_map] at hx
        cases e : (W.drop 1)[i]? with
        | none => rw [e] at hx; cases hx
        | some c => rw [e] at hx; exact ⟨c, rfl, (Option.some.inj hx).symm⟩
      have hki := longest_le hL
      rw [List.length_take, List.length_drop] at hki
      have hs2 := hsl.same hS
      refine ⟨fun m σ H' => ∃ k : Nat, m = k ∧ σ = [some (.ref s), some (.ref p), some (.int (k : Int)), some (.int (c : Int))] ∧ At W ((W.drop 1).take i) c k ∧ k ≤ i ∧ H' = H2, ⟨k, k, rfl, rfl, at_start hL, by omega, rfl⟩, ?_⟩
      rintro m σ H' ⟨k, rfl, rfl, hA, hk, rfl⟩
      refine ⟨_, rfl, _, _, rfl, rfl, _, rfl, ?_⟩
      refine ite2 (fun c1 => ?pos) (fun c1 => ?neg)
      case' pos =>
        have hpos : (0 : Int) < (m : Int) := of_decide_eq_true c1
        have e := getD_lt (l := W) (i := m) (by omega)
        refine ⟨_, rfl, _, rfl, hs2.ix (iv_at e) ⟨_, rfl, rfl, _, rfl, ?_⟩⟩
        refine ite2 (fun c2 => ?_) (fun c2 => ?_)
        · have hne : W[m]? ≠ some c := by
            rw [e]
            intro z
            rw [Option.some.inj z] at c2
            simp at c2
          obtain ⟨b, eb, lb, hlt⟩ := bordsTo_at hB (k := m) (by omega) (by omega)
          refine ⟨fun σ' H'' => ∃ k' : Nat, k' < m ∧ σ' = [some (.ref s), some (.ref p), some (.int (k' : Int)), some (.int (c : Int))] ∧ At W ((W.drop 1).take i) c k' ∧ k' ≤ i ∧ H'' = H', fun σ' H'' ⟨k', h, e⟩ => ⟨k', h, k', rfl, e⟩, ?_⟩
          refine ⟨_, rfl, _, rfl, _, _, rfl, rfl, _, _, _, .int (b : Int), rfl, rfl, SqL.of hp, ?_, ?_⟩
          · rw [show (m : Int) - 1 = ((m - 1 : Nat) : Int) by omega]
            exact iv_at eb
          · exact ⟨b, hlt, rfl, at_fall hA hne lb, by omega, rfl⟩
        have fin : m = 0 ∨ W[m]? = some c := by
          right
          rw [e]
          have c3 : V.int ((W.getD m 0 : Nat) : Int) = V.int (c : Int) := by
            have := Bool.eq_false_iff.mpr c2
            simpa using this
          have := int_eq.mp c3
          congr 1
          omega
      case' neg =>
        have fin : m = 0 ∨ W[m]? = some c := .inl (by
          have : ¬ ((0 : Int) < (m : Int)) := of_decide_eq_false (Bool.eq_false_iff.mpr c1)
          omega)
      all_goals
        have e := getD_lt (l := W) (i := m) (by omega)
        have etk : (W.drop 1).take (i + 1) = (W.drop 1).take i ++ [c] := by
          rw [List.take_add_one, hci]
          rfl
        have hli : i + 1 < W.length := by omega
        have hL2 : L.length = i + 1 := hB.1
        refine ⟨_, rfl, _, rfl, hs2.ix (iv_at e) ⟨_, rfl, rfl, _, rfl, ?_⟩⟩
        refine ite2 (fun c2 => ?_) (fun c2 => ?_)
        · have he : W[m]? = some c := by
            rw [e]
            have := int_eq.mp (of_decide_eq_true c2)
            congr 1
            omega
          refine ⟨_, rfl, _, _, rfl, rfl, _, rfl, .inl ⟨rfl, _, SqL.of hp⟩, _, rfl, _, _, _, rfl, rfl, hp, ?_, ?_⟩
          · rw [List.length_map, hL2]
            exact Nat.lt_of_le_of_lt (by omega : i + 1 ≤ 1000) (by decide)
          · have hL3 : Longest W ((W.drop 1).take (i + 1)) (m + 1) := by
              rw [etk]
              exact at_hit hA he
            refine ⟨L ++ [m + 1], m + 1, _, rfl, bordsTo_succ hli hB hL3, hL3, same_upd hS np, ?_, ?_⟩
            · exact upd_same.trans (congrArg (fun z => some (HO.lst z)) (iv_app _ _).symm)
            · rw [upd_ne hqp.symm]; exact hq
        · have hne : W[m]? ≠ some c := by
            rw [e]
            intro z
            rw [Option.some.inj z] at c2
            simp at c2
          have hm0 : m = 0 := by
            rcases fin with h | h
            · exact h
            · exact absurd h hne
          subst hm0
          refine ⟨_, rfl, .inl ⟨rfl, _, SqL.of hp⟩, _, rfl, _, _, _, rfl, rfl, hp, ?_, ?_⟩
          · rw [List.length_map, hL2]
            exact Nat.lt_of_le_of_lt (by omega : i + 1 ≤ 1000) (by decide)
          · have hL3 : Longest W ((W.drop 1).take (i + 1)) 0 := by
              rw [etk]
              exact at_miss hA hne
            refine ⟨L ++ [0], 0, _, rfl, bordsTo_succ hli hB hL3, hL3, same_upd hS np, ?_, ?_⟩
            · exact upd_same.trans (congrArg (fun z => some (HO.lst z)) (iv_app _ _).symm)
            · rw [upd_ne hqp.symm]; exact hq
    · rintro σ H2 ⟨L, k, v, rfl, hB, hL, hS, hp, hq⟩
      refine ⟨_, rfl, q' L p H2 ?_ hS np hp⟩
      rw [List.length_map, List.length_drop, show W.length - 1 + 1 = W.length by omega] at hB
      exact bords_of.mp hB
  · have hsl : SeqAt H s W := .inr h
    refine .inr ⟨_, rfl, _, rfl, s, _, rfl, SqT.of (same_new np _ _ _ h), (fun z => by have z1 := z.1; rw [show (1 : Int) = ((1 : Nat) : Int) from rfl, HT.sIx_nat, List.length_map] at z1; omega), fun q nq => ?_⟩
    rw [show cutV (iv W) (some (1 : Int)) none = (iv W).drop 1 from cutV_from (k := 1)]
    have hqp : p ≠ q := ne_of_none upd_same nq
    have hS1 : Same H (upd (upd H p (.lst [.int 0])) q (.tup ((iv W).drop 1))) := (same_new np _).trans (same_new nq _)
    have hq1 : upd (upd H p (.lst [.int 0])) q (.tup ((iv W).drop 1)) q = some (.tup (iv (W.drop 1))) := by rw [upd_same, iv, iv, List.map_drop]
    have hp1 : upd (upd H p (.lst [.int 0])) q (.tup ((iv W).drop 1)) p = some (.lst (iv [0])) := by rw [upd_ne hqp]; exact upd_same
    generalize upd (upd H p (.lst [.int 0])) q (.tup ((iv W).drop 1)) = H1 at hS1 hq1 hp1
    refine ⟨q, rfl, ⟨_, SqT.of hq1⟩, ?_⟩
    refine for_tup (K := K) (a := q) (xs := iv (W.drop 1)) (fun i σ H' => ∃ (L : List Nat) (k : Nat) (v : Option V), σ = [some (.ref s), some (.ref p), some (.int (k : Int)), v] ∧ BordsTo W (i + 1) L ∧ Longest W ((W.drop 1).take i) k ∧ Same H H' ∧ H' p = some (.lst (iv L)) ∧ H' q = some (.tup (iv (W.drop 1)))) ⟨[0], 0, none, rfl, bordsTo_one h0, by simpa using longest_nil W, hS1, hp1, hq1⟩ (fun i σ H' _ ⟨_, _, _, _, _, _, _, _, h⟩ => SqT.of h) ?_ ?_
    · rintro i x σ H2 hx ⟨L, k, v, rfl, hB, hL, hS, hp, hq⟩
      have hil := (List.getElem?_eq_some_iff.mp hx).1
      rw [List.length_map, List.length_drop] at hil
      obtain ⟨c, hci, rfl⟩ : ∃ c, (W.drop 1)[i]? = some c ∧ x = .int ((c : Nat) : Int) := by
        rw [List.getElem?_map] at hx
        cases e : (W.drop 1)[i]? with
        | none => rw [e] at hx; cases hx
        | some c => rw [e] at hx; exact ⟨c, rfl, (Option.some.inj hx).symm⟩
      have hki := longest_le hL
      rw [List.length_take, List.length_drop] at hki
      have hs2 := hsl.same hS
      refine ⟨fun m σ H' => ∃ k : Nat, m = k ∧ σ = [some (.ref s), some (.ref p), some (.int (k : Int)), some (.int (c : Int))] ∧ At W ((W.drop 1).take i) c k ∧ k ≤ i ∧ H' = H2, ⟨k, k, rfl, rfl, at_start hL, by omega, rfl⟩, ?_⟩
      rintro m σ H' ⟨k, rfl, rfl, hA, hk, rfl⟩
      refine ⟨_, rfl, _, _, rfl, rfl, _, rfl, ?_⟩
      refine ite2 (fun c1 => ?pos2) (fun c1 => ?neg2)
      case' pos2 =>
        have hpos : (0 : Int) < (m : Int) := of_decide_eq_true c1
        have e := getD_lt (l := W) (i := m) (by omega)
        refine ⟨_, rfl, _, rfl, hs2.ix (iv_at e) ⟨_, rfl, rfl, _, rfl, ?_⟩⟩
        refine ite2 (fun c2 => ?_) (fun c2 => ?_)
        · have hne : W[m]? ≠ some c := by
            rw [e]
            intro z
            rw [Option.some.inj z] at c2
            simp at c2
          obtain ⟨b, eb, lb, hlt⟩ := bordsTo_at hB (k := m) (by omega) (by omega)
          refine ⟨fun σ' H'' => ∃ k' : Nat, k' < m ∧ σ' = [some (.ref s), some (.ref p), some (.int (k' : Int)), some (.int (c : Int))] ∧ At W ((W.drop 1).take i) c k' ∧ k' ≤ i ∧ H'' = H', fun σ' H'' ⟨k', h, e⟩ => ⟨k', h, k', rfl, e⟩, ?_⟩
          refine ⟨_, rfl, _, rfl, _, _, rfl, rfl, _, _, _, .int (b : Int), rfl, rfl, SqL.of hp, ?_, ?_⟩
          · rw [show (m : Int) - 1 = ((m - 1 : Nat) : Int) by omega]
            exact iv_at eb
          · exact ⟨b, hlt, rfl, at_fall hA hne lb, by omega, rfl⟩
        have fin : m = 0 ∨ W[m]? = some c := by
          right
          rw [e]
          have c3 : V.int ((W.getD m 0 : Nat) : Int) = V.int (c : Int) := by
            have := Bool.eq_false_iff.mpr c2
            simpa using this
          have := int_eq.mp c3
          congr 1
          omega
      case' neg2 =>
        have fin : m = 0 ∨ W[m]? = some c := .inl (by
          have : ¬ ((0 : Int) < (m : Int)) := of_decide_eq_false (Bool.eq_false_iff.mpr c1)
          omega)
      all_goals
        have e := getD_lt (l := W) (i := m) (by omega)
        have etk : (W.drop 1).take (i + 1) = (W.drop 1).take i ++ [c] := by
          rw [List.take_add_one, hci]
          rfl
        have hli : i + 1 < W.length := by omega
        have hL2 : L.length = i + 1 := hB.1
        refine ⟨_, rfl, _, rfl, hs2.ix (iv_at e) ⟨_, rfl, rfl, _, rfl, ?_⟩⟩
        refine ite2 (fun c2 => ?_) (fun c2 => ?_)
        · have he : W[m]? = some c := by
            rw [e]
            have := int_eq.mp (of_decide_eq_true c2)
            congr 1
            omega
          refine ⟨_, rfl, _, _, rfl, rfl, _, rfl, .inl ⟨rfl, _, SqL.of hp⟩, _, rfl, _, _, _, rfl, rfl, hp, ?_, ?_⟩
          · rw [List.length_map, hL2]
            exact Nat.lt_of_le_of_lt (by omega : i + 1 ≤ 1000) (by decide)
          · have hL3 : Longest W ((W.drop 1).take (i + 1)) (m + 1) := by
              rw [etk]
              exact at_hit hA he
            refine ⟨L ++ [m + 1], m + 1, _, rfl, bordsTo_succ hli hB hL3, hL3, same_upd hS np, ?_, ?_⟩
            · exact upd_same.trans (congrArg (fun z => some (HO.lst z)) (iv_app _ _).symm)
            · rw [upd_ne hqp.symm]; exact hq
        · have hne : W[m]? ≠ some c := by
            rw [e]
            intro z
            rw [Option.some.inj z] at c2
            simp at c2
          have hm0 : m = 0 := by
            rcases fin with h | h
            · exact h
            · exact absurd h hne
          subst hm0
          refine ⟨_, rfl, .inl ⟨rfl, _, SqL.of hp⟩, _, rfl, _, _, _, rfl, rfl, hp, ?_, ?_⟩
          · rw [List.length_map, hL2]
            exact Nat.lt_of_le_of_lt (by omega : i + 1 ≤ 1000) (by decide)
          · have hL3 : Longest W ((W.drop 1).take (i + 1)) 0 := by
              rw [etk]
              exact at_miss hA hne
            refine ⟨L ++ [0], 0, _, rfl, bordsTo_succ hli hB hL3, hL3, same_upd hS np, ?_, ?_⟩
            · exact upd_same.trans (congrArg (fun z => some (HO.lst z)) (iv_app _ _).symm)
            · rw [upd_ne hqp.symm]; exact hq
    · rintro σ H2 ⟨L, k, v, rfl, hB, hL, hS, hp, hq⟩
      refine ⟨_, rfl, q' L p H2 ?_ hS np hp⟩
      rw [List.length_map, List.length_drop, show W.length - 1 + 1 = W.length by omega] at hB
      exact bords_of.mp hB
end
end My
namespace My
open PySem L2 PyProof.Rows
theorem sml1000 {n : Nat} (h : n ≤ 1000) : n < sizeLine := Nat.lt_of_le_of_lt h (by decide)
theorem dueTo_yes {c w : List Nat} {i k : Nat} (h : Longest w (rd c 0 (i + 1)) k) (e : k = w.length) : w.length ≤ i + 1 ∧ dueTo c w (i + 1 + 1 - w.length) = dueTo c w (i + 1 - w.length) ++ [i + 1 - w.length] := by
  obtain ⟨h1, h2⟩ := (longest_full h).mp e
  refine ⟨h1, ?_⟩
  rw [show i + 1 + 1 - w.length = (i + 1 - w.length) + 1 by omega]
  exact dueTo_succ_yes h2
theorem dueTo_no {c w : List Nat} {i k : Nat} (h : Longest w (rd c 0 (i + 1)) k) (e : ¬ k = w.length) : dueTo c w (i + 1 + 1 - w.length) = dueTo c w (i + 1 - w.length) := by
  by_cases h1 : w.length ≤ i + 1
  · rw [show i + 1 + 1 - w.length = (i + 1 - w.length) + 1 by omega]
    exact dueTo_succ_no fun z => e ((longest_full h).mpr ⟨h1, z⟩)
  · rw [show i + 1 + 1 - w.length = 0 by omega, show i + 1 - w.length = 0 by omega]
theorem dueTo_len (c w : List Nat) (n : Nat) : (dueTo c w n).length ≤ n := by
  have := List.length_filter_le (fun p => rd c p w.length == w) (List.range n)
  rw [List.length_range] at this
  exact this
theorem iv_last {L : List Nat} {b : Nat} (h : L[L.length - 1]? = some b) : atI (iv L) (-1) = some (.int (b : Int)) := by
  rw [← List.getLast?_eq_getElem?, List.getLast?_eq_some_iff] at h
  obtain ⟨ys, e⟩ := h
  rw [e, iv_app]
  exact atI_last _ _
theorem ones_len (l : List Nat) : ((l.map fun c => (⟨#[c]⟩ : Str)).map (·.length)).sum = l.length := by
  induction l with
  | nil => rfl
  | cons a r ih =>
    rw [List.map_cons, List.map_cons, List.sum_cons, ih, List.length_cons]
    show 1 + r.length = r.length + 1
    omega
section
variable {P : Program} {w : World} {K : PySem.W.Frag} {mg : Str → Option Value} {base : Heap} {C : Addr}
def spstarts_in (_ : PySem.W.Frag) (_ : Addr) : Sp := fun vs H Q _ => ∃ cs ws c w, vs = [.ref cs, .ref ws] ∧ SeqAt H cs c ∧ SeqAt H ws w ∧ 0 < c.length ∧ c.length ≤ 400 ∧ 0 < w.length ∧ w.length ≤ 400 ∧ ∀ p H', Same H H' → H p = none → H' p = some (.lst (iv (due c w))) → Q (.ref p) H'
theorem okstarts_in (D : Def K mg "starts_in" sstarts_in ["cycle", "word"]) (B : Bs mg) (Glb : Glo mg) (WK : WebK K mg C)
    (hlongest_borders : Good P w K mg base "longest_borders" slongest_borders ["word"] 1 (splongest_borders K C)) :
    Good P w K mg base "starts_in" sstarts_in ["cycle", "word"] 2 (spstarts_in K C) := by
  refine D.good fun f fd F => ?_
  obtain ⟨flongest_borders, dlongest_borders, Olongest_borders, mlongest_borders, klongest_borders, blongest_borders, Flongest_borders⟩ := hlongest_borders
  refine F.ok scstarts_in (fun vs H Q E h => ?_) (fun cdv A outer s H vs Q E hr h => ?_)
  · obtain ⟨cs, ws, c, w, rfl, hC, hW, hc0, hcl, hw0, hwl, q⟩ := h
    first | rfl | (rcases h with ⟨_, _, rfl, _⟩ | ⟨_, rfl, _⟩ <;> rfl)
  obtain ⟨cs, ws, c, w, rfl, hC, hW, hc0, hcl, hw0, hwl, q⟩ := h
  refine ⟨_, (pss_cons (ps_set (i := 2) scstarts_in.nd rfl (by first | exact Or.inl rfl | exact Or.inr rfl) (pe_call Olongest_borders hr rfl mlongest_borders klongest_borders blongest_borders .nil pass0 (pa_cons (pv 1) pa_nil)))
  (pss_cons (ps_set (i := 3) scstarts_in.nd rfl (by first | exact Or.inl rfl | exact Or.inr rfl) (pe_lst pa_nil))
  (pss_cons (ps_set (i := 4) scstarts_in.nd rfl (by first | exact Or.inl rfl | exact Or.inr rfl) pe_int)
  (pss_cons (ps_for PassesOwn.never rfl (pi_range1 (by rfl) B.range (pa_cons (pe_op op_sub (pe_op op_add (pe_callB call_len_seq (by rfl) B.len (by decide +kernel) (pa_cons (pv 0) pa_nil)) (pe_callB call_len_seq (by rfl) B.len (by decide +kernel) (pa_cons (pv 1) pa_nil))) pe_int) pa_nil)) (pg_name (i := 5) scstarts_in.nd rfl (by first | exact Or.inl rfl | exact Or.inr rfl))
    (pss_cons (ps_set (i := 6) scstarts_in.nd rfl (by first | exact Or.inl rfl | exact Or.inr rfl) (pe_ix ix_seq (pv 0) (pe_op op_mod (pv 5) (pe_callB call_len_seq (by rfl) B.len (by decide +kernel) (pa_cons (pv 0) pa_nil))) (fun _ _ => rfl)))
  (pss_cons (ps_while PassesOwn.never (PW.pt (pw_and (pt_cmpR op_gt (pv 4) pe_int (nomark _)) (pw_and1 (PW.pt (pw_or (pt_cmpR op_eq (pv 4) (pe_callB call_len_seq (by rfl) B.len (by decide +kernel) (pa_cons (pv 1) pa_nil)) (nomark _)) (pw_or1 (pt_cmpR op_ne (pe_ix ix_seq (pv 1) (pv 4) (fun _ _ => rfl)) (pv 6) (nomark _))))))))
    (pss_one (ps_set (i := 4) scstarts_in.nd rfl (by first | exact Or.inl rfl | exact Or.inr rfl) (pe_ix ix_list (pv 2) (pe_op op_sub (pv 4) pe_int) (fun _ _ => rfl)))))
  (pss_cons (ps_if (pt_cmpR op_eq (pe_ix ix_seq (pv 1) (pv 4) (fun _ _ => rfl)) (pv 6) (nomark _))
    (pss_one (ps_aug (i := 4) scstarts_in.nd rfl (by first | exact Or.inl rfl | exact Or.inr rfl) pe_int ip_add)) pss_nil)
  (pss_one (ps_if (pt_cmpR op_eq (pv 4) (pe_callB call_len_seq (by rfl) B.len (by decide +kernel) (pa_cons (pv 1) pa_nil)) (nomark _))
    (pss_one (ps_expr (pe_bm PySem.F.plainAttrs_list PySem.F.slot_list_append PySem.F.type_list_append mt_append (pv 3) (pa_cons (pe_op op_add (pe_op op_sub (pv 5) (pe_callB call_len_seq (by rfl) B.len (by decide +kernel) (pa_cons (pv 1) pa_nil))) pe_int) pa_nil)))) pss_nil))))))
  (pss_one (ps_ret (pv 3))))))), ?_⟩
  refine ⟨_, rfl, ws, w, rfl, hW, hw0, by omega, fun L a H1 hB hS1 na ha => ?_⟩
  refine ⟨(by show 0 ≤ sizeLine; decide), fun p np => ?_⟩
  have npa : a ≠ p := ne_of_none ha np
  have np0 : H p = none := hS1.free np
  have hS01 := same_upd (o := .lst []) hS1 np0
  have hC1 := hC.same hS01
  have hW1 := hW.same hS01
  refine ⟨_, rfl, cs, _, rfl, hC1.seq, _, rfl, ws, _, rfl, hW1.seq, _, _, rfl, rfl, _, _, rfl, rfl, _, rfl, (by rw [List.length_map, List.length_map]; omega), (by rw [List.length_map, List.length_map]; omega), ?_⟩
  rw [List.length_map, List.length_map, show (((c.length : Nat) : Int) + ((w.length : Nat) : Int) - 1).toNat = c.length + w.length - 1 by omega]
  refine for_range (lo := 0) (n := c.length + w.length - 1) (fun i σ H' => ∃ (k : Nat) (v1 v2 : Option V), σ = [some (.ref cs), some (.ref ws), some (.ref a), some (.ref p), some (.int (k : Int)), v1, v2] ∧ Longest w (rd c 0 i) k ∧ Same H H' ∧ H' a = some (.lst (iv L)) ∧ H' p = some (.lst (iv (dueTo c w (i + 1 - w.length)))))
    ⟨0, none, none, rfl, longest_nil w, same_upd hS1 np0, by rw [upd_ne npa]; exact ha, ?_⟩ ?_ ?_
  · rw [show 0 + 1 - w.length = 0 by omega]
    exact upd_same
  · rintro i σ H2 hi ⟨k, v1, v2, rfl, hL, hS, ha2, hp2⟩
    have hC2 := hC.same hS
    have hW2 := hW.same hS
    have ei : (0 + (i : Int)) % (((iv c).length : Nat) : Int) = ((i % c.length : Nat) : Int) := by
      rw [List.length_map, Int.zero_add]
      rfl
    have e0 := getD_lt (l := c) (i := i % c.length) (Nat.mod_lt _ hc0)
    -- sign = cycle[at % len(cycle)]
    refine ⟨_, rfl, _, rfl, _, rfl, cs, _, rfl, hC2.seq, _, _, rfl, rfl, (by rw [List.length_map]; omega), hC2.ix (b := c.getD (i % c.length) 0) (by rw [ei]; exact iv_at e0) ?_⟩
    have etk : rd c 0 (i + 1) = rd c 0 i ++ [c.getD (i % c.length) 0] := by
      rw [rd_succ, Nat.zero_add]
    generalize c.getD (i % c.length) 0 = x at etk
    refine ⟨fun m σ H' => ∃ k : Nat, m = k ∧ σ = [some (.ref cs), some (.ref ws), some (.ref a), some (.ref p), some (.int (k : Int)), some (.int (0 + (i : Int))), some (.int (x : Int))] ∧ At w (rd c 0 i) x k ∧ H' = H2, ⟨k, k, rfl, rfl, at_start hL, rfl⟩, ?_⟩
    rintro m σ H' ⟨k, rfl, rfl, hA, rfl⟩
    have hmw : m ≤ w.length := hA.1.1
    refine ⟨_, rfl, _, _, rfl, rfl, _, rfl, ?_⟩
    have fall : 0 < m → w[m]? ≠ some x → ∃ b, L[m - 1]? = some b ∧ At w (rd c 0 i) x b ∧ b < m := fun h0 hne => by
      obtain ⟨b, eb, lb, hlt⟩ := bordsTo_at (bords_of.mpr hB) h0 hmw
      exact ⟨b, eb, at_fall hA hne lb, hlt⟩
    refine ite2 (fun c1 => ?pos) (fun c1 => ?neg)
    case' pos =>
      have hpos : (0 : Int) < (m : Int) := of_decide_eq_true c1
      refine ⟨_, rfl, _, rfl, ws, _, rfl, hW2.seq, rfl, _, rfl, ?_⟩
      refine ite2 (fun c2 => ?_) (fun c2 => ?_)
      · have hm2 : m = w.length := by
          have := int_eq.mp (of_decide_eq_true c2)
          rw [List.length_map] at this
          omega
        obtain ⟨b, eb, lb, hlt⟩ := fall (by omega) (by rw [List.getElem?_eq_none (by omega)]; intro z; cases z)
        refine ⟨fun σ' H'' => ∃ k' : Nat, k' < m ∧ σ' = [some (.ref cs), some (.ref ws), some (.ref a), some (.ref p), some (.int (k' : Int)), some (.int (0 + (i : Int))), some (.int (x : Int))] ∧ At w (rd c 0 i) x k' ∧ H'' = H', fun σ' H'' ⟨k', h, e⟩ => ⟨k', h, k', rfl, e⟩, ?_⟩
        refine ⟨_, rfl, _, rfl, _, _, rfl, rfl, _, _, _, .int (b : Int), rfl, rfl, SqL.of ha2, ?_, ?_⟩
        · rw [show (m : Int) - 1 = ((m - 1 : Nat) : Int) by omega]
          exact iv_at eb
        · exact ⟨b, hlt, rfl, lb, rfl⟩
      have hmlt : m < w.length := by
        have c3 : ¬ V.int (m : Int) = V.int (((iv w).length : Nat) : Int) := of_decide_eq_false (Bool.eq_false_iff.mpr c2)
        rw [int_eq, List.length_map] at c3
        omega
      have e := getD_lt hmlt
      refine ⟨_, rfl, _, rfl, hW2.ix (iv_at e) ⟨_, rfl, rfl, _, rfl, ?_⟩⟩
      refine ite2 (fun c2 => ?_) (fun c2 => ?_)
      · have hne : w[m]? ≠ some x := by
          rw [e]
          intro z
          rw [Option.some.inj z] at c2
          simp at c2
        obtain ⟨b, eb, lb, hlt⟩ := fall (by omega) hne
        refine ⟨fun σ' H'' => ∃ k' : Nat, k' < m ∧ σ' = [some (.ref cs), some (.ref ws), some (.ref a), some (.ref p), some (.int (k' : Int)), some (.int (0 + (i : Int))), some (.int (x : Int))] ∧ At w (rd c 0 i) x k' ∧ H'' = H', fun σ' H'' ⟨k', h, e⟩ => ⟨k', h, k', rfl, e⟩, ?_⟩
        refine ⟨_, rfl, _, rfl, _, _, rfl, rfl, _, _, _, .int (b : Int), rfl, rfl, SqL.of ha2, ?_, ?_⟩
        · rw [show (m : Int) - 1 = ((m - 1 : Nat) : Int) by omega]
          exact iv_at eb
        · exact ⟨b, hlt, rfl, lb, rfl⟩
      have fin : m < w.length ∧ (m = 0 ∨ w[m]? = some x) := ⟨hmlt, by
        right
        rw [e]
        have c3 : V.int ((w.getD m 0 : Nat) : Int) = V.int (x : Int) := by
          have := Bool.eq_false_iff.mpr c2
          simpa using this
        have := int_eq.mp c3
        congr 1
        omega⟩
    case' neg =>
      have fin : m < w.length ∧ (m = 0 ∨ w[m]? = some x) := by
        have : ¬ ((0 : Int) < (m : Int)) := of_decide_eq_false (Bool.eq_false_iff.mpr c1)
        exact ⟨by omega, .inl (by omega)⟩
    all_goals
      have e := getD_lt fin.1
      have hlen : (dueTo c w (i + 1 - w.length)).length ≤ 900 := by
        have := dueTo_len c w (i + 1 - w.length)
        omega
      refine ⟨_, rfl, _, rfl, hW2.ix (iv_at e) ⟨_, rfl, rfl, _, rfl, ?_⟩⟩
      refine ite2 (fun c2 => ?_) (fun c2 => ?_)
      · have he : w[m]? = some x := by
          rw [e]
          have := int_eq.mp (of_decide_eq_true c2)
          congr 1
          omega
        have hL3 : Longest w (rd c 0 (i + 1)) (m + 1) := by
          rw [etk]
          exact at_hit hA he
        refine ⟨_, rfl, _, _, rfl, rfl, _, rfl, _, rfl, ws, _, rfl, hW2.seq, rfl, _, rfl, ?_⟩
        refine ite2 (fun c4 => ?_) (fun c4 => ?_)
        · have hf : m + 1 = w.length := by
            have := int_eq.mp (of_decide_eq_true c4)
            rw [List.length_map] at this
            have h2 : (m : Int) + 1 = ((w.length : Nat) : Int) := this
            omega
          obtain ⟨g1, g2⟩ := dueTo_yes hL3 hf
          refine ⟨_, rfl, .inl ⟨rfl, _, SqL.of hp2⟩, _, rfl, _, rfl, ws, _, rfl, hW2.seq, _, _, rfl, rfl, _, _, rfl, rfl, _, _, _, rfl, rfl, hp2, ?_, ?_⟩
          · rw [List.length_map]
            exact sml1000 (by omega)
          · refine ⟨m + 1, _, _, rfl, hL3, same_upd hS np0, by rw [upd_ne npa]; exact ha2, ?_⟩
            rw [g2, iv_app]
            refine upd_same.trans ?_
            have ev : (0 + (i : Int)) - (((iv w).length : Nat) : Int) + 1 = ((i + 1 - w.length : Nat) : Int) := by
              rw [List.length_map]
              omega
            exact congrArg (fun z => some (HO.lst (iv (dueTo c w (i + 1 - w.length)) ++ [V.int z]))) ev
        · have hf : ¬ m + 1 = w.length := fun z => by
            have c5 : ¬ V.int ((m : Int) + 1) = V.int (((iv w).length : Nat) : Int) := of_decide_eq_false (Bool.eq_false_iff.mpr c4)
            rw [int_eq, List.length_map] at c5
            omega
          exact ⟨m + 1, _, _, rfl, hL3, hS, ha2, by rw [dueTo_no hL3 hf]; exact hp2⟩
      · have hne : w[m]? ≠ some x := by
          rw [e]
          intro z
          rw [Option.some.inj z] at c2
          simp at c2
        have hm0 : m = 0 := by
          rcases fin.2 with h | h
          · exact h
          · exact absurd h hne
        subst hm0
        have hL3 : Longest w (rd c 0 (i + 1)) 0 := by
          rw [etk]
          exact at_miss hA hne
        refine ⟨_, rfl, _, rfl, ws, _, rfl, hW2.seq, rfl, _, rfl, ?_⟩
        refine ite2 (fun c4 => ?_) (fun c4 => ?_)
        · exfalso
          have := int_eq.mp (of_decide_eq_true c4)
          rw [List.length_map] at this
          have h2 : ((0 : Nat) : Int) = ((w.length : Nat) : Int) := this
          omega
        · exact ⟨0, _, _, rfl, hL3, hS, ha2, by rw [dueTo_no hL3 (by omega)]; exact hp2⟩
  · rintro σ H2 ⟨k, v1, v2, rfl, hL, hS, ha2, hp2⟩
    rw [show c.length + w.length - 1 + 1 - w.length = c.length by omega, dueTo_all] at hp2
    exact ⟨_, rfl, q p H2 hS np0 hp2⟩
end
end My
namespace My
open PySem L2 PyProof.Rows
def PotOk (x y : Int) : Prop := 0 ≤ x ∧ 0 ≤ y ∧ y < 2147483588
def PotAt (H : Hp) (a : Addr) : Prop := ∃ x y : Int, H a = some (.lst [.int x, .int y]) ∧ PotOk x y
theorem PotAt.new {H : Hp} {a p : Addr} {o : HO} (h : PotAt H a) (np : H p = none) : PotAt (upd H p o) a := by
  obtain ⟨x, y, e, h⟩ := h
  exact ⟨x, y, by rw [upd_ne (ne_of_none e np)]; exact e, h⟩
theorem PotAt.put {H : Hp} {a p : Addr} {o : HO} (h : PotAt H a) (np : p ≠ a) : PotAt (upd H p o) a := by
  obtain ⟨x, y, e, h⟩ := h
  exact ⟨x, y, by rw [upd_ne np.symm]; exact e, h⟩
theorem PotAt.same {H H' : Hp} {a : Addr} (h : PotAt H a) (s : Same H H') : PotAt H' a := by
  obtain ⟨x, y, e, h⟩ := h
  exact ⟨x, y, s _ _ e, h⟩
theorem PotAt.ne {H : Hp} {a p : Addr} (h : PotAt H a) (np : H p = none) : p ≠ a := by
  obtain ⟨x, y, e, h⟩ := h
  exact (ne_of_none e np).symm
theorem PotAt.ntup {H : Hp} {a p : Addr} {xs : List V} (h : PotAt H a) (hp : H p = some (.tup xs)) : p ≠ a := by
  obtain ⟨x, y, e, h⟩ := h
  exact ne_of hp e (by intro q; cases q)
theorem Kept.new {H H' : Hp} {a p : Addr} {o : HO} (h : Kept a H H') (np : H' p = none) : Kept a H (upd H' p o) := h.trans (Same.kept (same_new np o))
theorem Kept.put {H H' : Hp} {a p : Addr} {o : HO} (h : Kept a H H') (np : H p = none) : Kept a H (upd H' p o) := fun b u e n => by
  rw [upd_ne (ne_of_none e np)]
  exact h b u e n
theorem TiesAt.kept {H H' : Hp} {a t : Addr} {ts : List (Nat × Nat)} (h : TiesAt H t ts) (k : Kept a H H') (hp : PotAt H a) (hn : t ≠ a) : TiesAt H' t ts := by
  obtain ⟨tas, h1, h2⟩ := h
  exact ⟨tas, k _ _ h1 hn, paired_mono (fun p e hq => k _ _ hq (hp.ntup hq)) h2⟩
theorem paired_app {α β : Type} {F : α → β → Prop} {a : α} {b : β} : ∀ {l1 : List α} {l2 : List β}, Paired F l1 l2 → F a b → Paired F (l1 ++ [a]) (l2 ++ [b])
  | _, _, .nil, h => .cons h .nil
  | _, _, .cons r t, h => .cons r (paired_app t h)
theorem paired_apps {α β : Type} {F : α → β → Prop} : ∀ {l1 m1 : List α} {l2 m2 : List β}, Paired F l1 l2 → Paired F m1 m2 → Paired F (l1 ++ m1) (l2 ++ m2)
  | _, _, _, _, .nil, h => h
  | _, _, _, _, .cons r t, h => .cons r (paired_apps t h)
theorem paired_rev {α β : Type} {F : α → β → Prop} : ∀ {l1 : List α} {l2 : List β}, Paired F l1 l2 → Paired F l1.reverse l2.reverse
  | _, _, .nil => .nil
  | _, _, .cons r t => by
    rw [List.reverse_cons, List.reverse_cons]
    exact paired_app (paired_rev t) r
theorem TiesAt.push {H : Hp} {p tp : Addr} {ts : List (Nat × Nat)} {u v : Nat} (h : TiesAt H p ts) (nt : H tp = none) :
    ∃ xs, (upd H tp (.tup [.int (u : Int), .int (v : Int)])) p = some (.lst xs) ∧ xs.length = ts.length ∧ TiesAt (upd (upd H tp (.tup [.int (u : Int), .int (v : Int)])) p (.lst (xs ++ [.ref tp]))) p (ts ++ [(u, v)]) := by
  obtain ⟨tas, h1, h2⟩ := h
  have npt : p ≠ tp := ne_of_none h1 nt
  refine ⟨tas.map V.ref, by rw [upd_ne npt]; exact h1, by rw [List.length_map]; exact paired_len h2, tas ++ [tp], by rw [upd_same, List.map_append]; rfl, paired_app (paired_mono (fun q e hq => ?_) h2) ?_⟩
  · have nqp : q ≠ p := ne_of hq h1 (by intro z; cases z)
    show upd _ _ _ q = _
    rw [upd_ne nqp, upd_ne (ne_of_none hq nt)]
    exact hq
  · show upd _ _ _ tp = _
    rw [upd_ne npt.symm, upd_same]
theorem TiesAt.pushV {H : Hp} {p tp : Addr} {ts : List (Nat × Nat)} {u v : Nat} {x y : V} (hx : x = .int (u : Int)) (hy : y = .int (v : Int)) (h : TiesAt H p ts) (nt : H tp = none) :
    ∃ xs, (upd H tp (.tup [x, y])) p = some (.lst xs) ∧ xs.length = ts.length ∧ TiesAt (upd (upd H tp (.tup [x, y])) p (.lst (xs ++ [.ref tp]))) p (ts ++ [(u, v)]) := by
  subst hx hy
  exact h.push nt
theorem TiesAt.nil {H : Hp} {p : Addr} : TiesAt (upd H p (.lst [])) p [] := ⟨[], upd_same, .nil⟩
theorem TiesAt.cat {H : Hp} {l m p : Addr} {ts us : List (Nat × Nat)} (h : TiesAt H l ts) (k : TiesAt H m us) (np : H p = none) : ∃ xs zs, H l = some (.lst xs) ∧ H m = some (.lst zs) ∧ xs.length = ts.length ∧ zs.length = us.length ∧ TiesAt (upd H p (.lst (xs ++ zs))) p (ts ++ us) := by
  obtain ⟨tas, h1, h2⟩ := h
  obtain ⟨uas, k1, k2⟩ := k
  refine ⟨_, _, h1, k1, by rw [List.length_map]; exact paired_len h2, by rw [List.length_map]; exact paired_len k2, tas ++ uas, by rw [upd_same, List.map_append], paired_mono (fun q e hq => ?_) (paired_apps h2 k2)⟩
  exact same_new np _ _ _ hq
theorem TiesAt.get {H : Hp} {l : Addr} {ts : List (Nat × Nat)} (h : TiesAt H l ts) : ∃ xs, H l = some (.lst xs) ∧ xs.length = ts.length := by
  obtain ⟨tas, h1, h2⟩ := h
  exact ⟨_, h1, by rw [List.length_map]; exact paired_len h2⟩
theorem TiesAt.new {H : Hp} {l p : Addr} {ts : List (Nat × Nat)} {o : HO} (h : TiesAt H l ts) (np : H p = none) : TiesAt (upd H p o) l ts := h.same (same_new np o)
theorem TiesAt.rev {H : Hp} {l p : Addr} {ts : List (Nat × Nat)} (h : TiesAt H l ts) (np : H p = none) : ∃ xs, H l = some (.lst xs) ∧ TiesAt (upd H p (.lst xs.reverse)) p ts.reverse := by
  obtain ⟨tas, h1, h2⟩ := h
  refine ⟨_, h1, tas.reverse, by rw [upd_same, List.map_reverse], paired_mono (fun q e hq => same_new np _ _ _ hq) (paired_rev h2)⟩
theorem TiesAt.catOne {H : Hp} {l p : Addr} {ts : List (Nat × Nat)} {tp : Addr} {u v : Nat} (h : TiesAt H l ts) (ht : H tp = some (.tup [.int (u : Int), .int (v : Int)])) (np : H p = none) :
    ∃ xs, H l = some (.lst xs) ∧ xs.length = ts.length ∧ TiesAt (upd H p (.lst (xs ++ [.ref tp]))) p (ts ++ [(u, v)]) := by
  obtain ⟨tas, h1, h2⟩ := h
  refine ⟨_, h1, by rw [List.length_map]; exact paired_len h2, tas ++ [tp], by rw [upd_same, List.map_append]; rfl, paired_app (paired_mono (fun q e hq => same_new np _ _ _ hq) h2) (same_new np _ _ _ ht)⟩
theorem Kept.free {a p : Addr} {H H' : Hp} (h : Kept a H H') (hn : H' p = none) (np : p ≠ a) : H p = none := by
  cases e : H p with
  | none => rfl
  | some o =>
    have := h p o e np
    rw [hn] at this
    cases this
theorem ok_app {N : Nat} {ts us : List (Nat × Nat)} (h : ∀ e ∈ ts, e.1 < N ∧ e.2 < N) (k : ∀ e ∈ us, e.1 < N ∧ e.2 < N) : ∀ e ∈ ts ++ us, e.1 < N ∧ e.2 < N := fun e he => (List.mem_append.mp he).elim (h e) (k e)
theorem ok_one {N u v : Nat} (h1 : u < N) (h2 : v < N) : ∀ e ∈ [(u, v)], e.1 < N ∧ e.2 < N := fun e he => by rw [List.mem_singleton.mp he]; exact ⟨h1, h2⟩
theorem ok_up {N M : Nat} {ts : List (Nat × Nat)} (h : ∀ e ∈ ts, e.1 < N ∧ e.2 < N) (hm : N ≤ M) : ∀ e ∈ ts, e.1 < M ∧ e.2 < M := fun e he => ⟨Nat.lt_of_lt_of_le (h e he).1 hm, Nat.lt_of_lt_of_le (h e he).2 hm⟩
section
variable {P : Program} {w : World} {K : PySem.W.Frag} {mg : Str → Option Value} {base : Heap} {C : Addr}
def sptimes_in (_ : PySem.W.Frag) (C : Addr) : Sp := fun vs H Q _ => ∃ a t s N ts R W, vs = [.ref a, .ref t, .ref s] ∧ WebAt C a N ts H ∧ SeqAt H t R ∧ Tour ts R ∧ R.length ≤ 400 ∧ SeqAt H s W ∧ Chain ts W ∧ W.length ≤ 400 ∧ ∀ H', Same H H' → Q (.int ((due R W).length : Int)) H'
theorem oktimes_in (D : Def K mg "times_in" stimes_in ["web", "tour", "walk"]) (B : Bs mg) (Glb : Glo mg) (WK : WebK K mg C)
    (hneed_web : Good P w K mg base "need_web" sneed_web ["web"] 3 (spneed_web K C))
    (hneed_tour : Good P w K mg base "need_tour" sneed_tour ["web", "tour"] 7 (spneed_tour K C))
    (hneed_walk : Good P w K mg base "need_walk" sneed_walk ["web", "walk"] 7 (spneed_walk K C))
    (hstarts_in : Good P w K mg base "starts_in" sstarts_in ["cycle", "word"] 2 (spstarts_in K C)) :
    Good P w K mg base "times_in" stimes_in ["web", "tour", "walk"] 8 (sptimes_in K C) := by
  refine D.good fun f fd F => ?_
  obtain ⟨fneed_web, dneed_web, Oneed_web, mneed_web, kneed_web, bneed_web, Fneed_web⟩ := hneed_web
  obtain ⟨fneed_tour, dneed_tour, Oneed_tour, mneed_tour, kneed_tour, bneed_tour, Fneed_tour⟩ := hneed_tour
  obtain ⟨fneed_walk, dneed_walk, Oneed_walk, mneed_walk, kneed_walk, bneed_walk, Fneed_walk⟩ := hneed_walk
  obtain ⟨fstarts_in, dstarts_in, Ostarts_in, mstarts_in, kstarts_in, bstarts_in, Fstarts_in⟩ := hstarts_in
  refine F.ok sctimes_in (fun vs H Q E h => ?_) (fun cdv A outer s H vs Q E hr h => ?_)
  · obtain ⟨a, t, s, N, ts, R, W, rfl, hw, ht, hR, h4, hs, hW, w4, q⟩ := h
    first | rfl | (rcases h with ⟨_, _, rfl, _⟩ | ⟨_, rfl, _⟩ <;> rfl)
  obtain ⟨a, t, s, N, ts, R, W, rfl, hw, ht, hR, h4, hs, hW, w4, q⟩ := h
  refine ⟨_, (pss_cons (ps_expr (pe_call Oneed_web (hr.mono (by decide)) rfl mneed_web kneed_web bneed_web .nil pass0 (pa_cons (pv 0) pa_nil)))
  (pss_cons (ps_expr (pe_call Oneed_tour hr rfl mneed_tour kneed_tour bneed_tour .nil pass0 (pa_cons (pv 0) (pa_cons (pv 1) pa_nil))))
  (pss_cons (ps_expr (pe_call Oneed_walk hr rfl mneed_walk kneed_walk bneed_walk .nil pass0 (pa_cons (pv 0) (pa_cons (pv 2) pa_nil))))
  (pss_one (ps_ret (pe_callB call_len_seq (by rfl) B.len (by decide +kernel) (pa_cons (pe_call Ostarts_in (hr.mono (by decide)) rfl mstarts_in kstarts_in bstarts_in .nil pass0 (pa_cons (pv 1) (pa_cons (pv 2) pa_nil))) pa_nil))))))), ?_⟩
  refine ⟨_, rfl, a, N, ts, rfl, hw, _, rfl, _, rfl, a, N, ts, t, R, rfl, hw, ht, hR, fun H1 hS1 => ?_⟩
  refine ⟨_, rfl, _, rfl, a, N, ts, s, W, rfl, hw.same hS1, hs.same hS1, hW, w4, fun H2 hS2 => ?_⟩
  have hS12 := hS1.trans hS2
  refine ⟨_, rfl, _, rfl, t, s, R, W, rfl, ht.same hS12, hs.same hS12, hR.ch.n0, h4, hW.n0, w4, fun p H3 hS3 np hp => ?_⟩
  refine ⟨p, _, rfl, .inl (SqL.of hp), ?_⟩
  rw [List.length_map]
  exact q H3 (hS12.trans hS3)
def sp_law_pot (K : PySem.W.Frag) (_ : Addr) : Sp := fun vs H Q _ => ∃ a, ∃ ns : List Int, vs = [.ref a, .int 0] ∧ SqL K H a (ns.map V.int) ∧ ∀ p H', PotAt H' p → Same H H' → H p = none → Q (.ref p) H'
theorem ok_law_pot (D : Def K mg "_law_pot" s_law_pot ["_law_script", "_law_k"]) (B : Bs mg) (Glb : Glo mg) (WK : WebK K mg C) :
    Good P w K mg base "_law_pot" s_law_pot ["_law_script", "_law_k"] 1 (sp_law_pot K C) := by
  refine D.good fun f fd F => ?_
  refine F.ok sc_law_pot (fun vs H Q E h => ?_) (fun cdv A outer s H vs Q E hr h => ?_)
  · obtain ⟨a, ns, rfl, hS, q⟩ := h
    first | rfl | (rcases h with ⟨_, _, rfl, _⟩ | ⟨_, rfl, _⟩ <;> rfl)
  obtain ⟨a, ns, rfl, hS, q⟩ := h
  refine ⟨_, (pss_cons (ps_set (i := 2) sc_law_pot.nd rfl (by first | exact Or.inl rfl | exact Or.inr rfl) (pe_ifExp (pt_cmpR op_lt (pv 1) (pe_callB call_len_seq (by rfl) B.len (by decide +kernel) (pa_cons (pv 0) pa_nil)) (nomark _)) (pe_callB call_abs (by rfl) B.abs (by decide +kernel) (pa_cons (pe_ix ix_list (pv 0) (pv 1) (fun _ _ => rfl)) pa_nil)) (pe_op op_add (pe_op op_mul pe_int (pv 1)) pe_int)))
  (pss_one (ps_ret (pe_lst (pa_cons (pe_callB (call_max2 rfl) (by rfl) B.max (by decide +kernel) (pa_cons pe_int (pa_cons (pe_op op_sub (pv 2) (pe_op op_pow pe_int pe_int)) pa_nil))) (pa_cons (pe_op op_add (pe_op op_mod (pe_callTy call_int1 (by rfl) B.int (by decide +kernel) (pa_cons (pe_op op_add (pe_op op_add (pe_op op_mul (pe_op op_mod (pe_callTy call_int1 (by rfl) B.int (by decide +kernel) (pa_cons (pv 2) pa_nil)) pe_int) pe_int) (pe_op op_mul pe_int (pv 1))) pe_int) pa_nil)) pe_int) pe_int) pa_nil)))))), ?_⟩
  refine ⟨_, rfl, _, rfl, _, _, rfl, .inl hS, _, _, rfl, rfl, _, rfl, ?_⟩
  refine ite2 (fun c1 => ?pos) (fun c1 => ?neg)
  case' pos =>
    obtain ⟨n, rest, rfl⟩ : ∃ n rest, ns = n :: rest := by
      cases ns with
      | nil => exact absurd (of_decide_eq_true c1) (by decide)
      | cons n rest => exact ⟨n, rest, rfl⟩
    refine ⟨_, rfl, _, rfl, _, _, _, .int n, rfl, rfl, hS, atI_nat (j := 0) rfl, _, rfl, ?_⟩
    have hz0 : (0 : Int) ≤ (if n < 0 then -n else n) := by split <;> omega
  case' neg =>
    refine ⟨_, rfl, _, _, rfl, rfl, .inl ⟨by decide, by decide⟩, _, _, rfl, rfl, ?_⟩
    have hz0 : (0 : Int) ≤ (887 * 0 + 857) := by decide
  all_goals
    refine ⟨_, rfl, _, _, rfl, rfl, ⟨by decide, by decide, by decide⟩, _, _, rfl, rfl, _, _, rfl, _, rfl, .inl ⟨_, rfl, _, _, rfl, rfl, (by show (0 : Int) < 2147483549; decide), _, _, rfl, rfl, .inl ⟨?_, ?_⟩, _, rfl, _, _, rfl, rfl, .inl ⟨by decide, by decide⟩, _, _, rfl, rfl, _, _, rfl, rfl, .inl ⟨_, rfl, _, _, rfl, rfl, (by show (0 : Int) < 2147483563; decide), _, _, rfl, rfl, (by show 2 ≤ sizeLine; decide), fun p np => q p _ ⟨_, _, upd_same, ?_, ?_, ?_⟩ (same_new np _) np⟩⟩⟩
    · omega
    · omega
    · split <;> omega
    · omega
    · omega
def sp_law_draw (_ : PySem.W.Frag) (_ : Addr) : Sp := fun vs H Q _ => ∃ a n, vs = [.ref a, .int ((n : Nat) : Int)] ∧ PotAt H a ∧ 0 < n ∧ n ≤ 1000 ∧ ∀ (d : Nat) H', d < n → Kept a H H' → PotAt H' a → Q (.int (d : Int)) H'
theorem ok_law_draw (D : Def K mg "_law_draw" s_law_draw ["_law_pot_here", "_law_many"]) (B : Bs mg) (Glb : Glo mg) (WK : WebK K mg C) :
    Good P w K mg base "_law_draw" s_law_draw ["_law_pot_here", "_law_many"] 1 (sp_law_draw K C) := by
  refine D.good fun f fd F => ?_
  refine F.ok sc_law_draw (fun vs H Q E h => ?_) (fun cdv A outer s H vs Q E hr h => ?_)
  · obtain ⟨a, n, rfl, ⟨x, y, ha, hx, hy, hy2⟩, hn, hn2, q⟩ := h
    first | rfl | (rcases h with ⟨_, _, rfl, _⟩ | ⟨_, rfl, _⟩ <;> rfl)
  obtain ⟨a, n, rfl, ⟨x, y, ha, hx, hy, hy2⟩, hn, hn2, q⟩ := h
  refine ⟨_, (pss_cons (ps_if (pt_cmpR op_gt (pe_ix ix_list (pv 0) pe_int (fun _ _ => rfl)) pe_int (nomark _))
    (pss_cons (ps_asg (pe_callB call_divmod (by rfl) B.divmod (by decide +kernel) (pa_cons (pe_ix ix_list (pv 0) pe_int (fun _ _ => rfl)) (pa_cons (pv 1) pa_nil))) (pg_tup rfl (pgs_cons (pg_sub (pv 0) pe_int set_list) (pgs_cons (pg_name (i := 2) sc_law_draw.nd rfl (by first | exact Or.inl rfl | exact Or.inr rfl)) pgs_nil))))
  (pss_one (ps_ret (pv 2)))) pss_nil)
  (pss_cons (ps_asg (pe_op op_mod (pe_callTy call_int1 (by rfl) B.int (by decide +kernel) (pa_cons (pe_op op_add (pe_op op_mul (pe_ix ix_list (pv 0) pe_int (fun _ _ => rfl)) pe_int) pe_int) pa_nil)) pe_int) (pg_sub (pv 0) pe_int set_list))
  (pss_one (ps_ret (pe_op op_mod (pe_callTy call_int1 (by rfl) B.int (by decide +kernel) (pa_cons (pe_op op_fdiv (pe_op op_mod (pe_callTy call_int1 (by rfl) B.int (by decide +kernel) (pa_cons (pe_op op_mul (pe_ix ix_list (pv 0) pe_int (fun _ _ => rfl)) (pe_ix ix_list (pv 0) pe_int (fun _ _ => rfl))) pa_nil)) pe_int) pe_int) pa_nil)) (pv 1)))))), ?_⟩
  refine ⟨_, rfl, _, _, _, .int x, rfl, rfl, SqL.of ha, rfl, _, _, rfl, rfl, _, rfl, ?_⟩
  refine ite2 (fun c1 => ?_) (fun c1 => ?_)
  · have hpos : (0 : Int) < x := of_decide_eq_true c1
    refine ⟨_, rfl, _, _, _, .int x, rfl, rfl, SqL.of ha, rfl, _, rfl, _, _, rfl, ⟨by omega, by omega⟩, fun p np => ?_⟩
    have hpa : a ≠ p := ne_of_none ha np
    have ha' : (upd H p (.tup [.int (x / (n : Int)), .int (x % (n : Int))])) a = some (.lst [.int x, .int y]) := by
      rw [upd_ne hpa]
      exact ha
    have ed : (((x % (n : Int)).toNat : Nat) : Int) = x % (n : Int) := Int.toNat_of_nonneg (Int.emod_nonneg _ (by omega))
    have el := Int.emod_lt_of_pos x (show (0 : Int) < (n : Int) by omega)
    refine ⟨_, _, rfl, SqT.of upd_same, rfl, _, _, rfl, _, rfl, _, _, _, 0, rfl, rfl, ha', rfl, _, _, rfl, rfl, ?_⟩
    refine ⟨_, rfl, ?_⟩
    have := q (x % (n : Int)).toNat (upd (upd H p (.tup [.int (x / (n : Int)), .int (x % (n : Int))])) a (.lst [.int (x / (n : Int)), .int y])) (by omega) (fun b o e nb => by rw [upd_ne nb, upd_ne (ne_of_none e np)]; exact e)
      ⟨_, _, upd_same, Int.ediv_nonneg hx (by omega), hy, hy2⟩
    rw [ed] at this
    exact this
  · refine ⟨_, rfl, _, _, _, .int y, rfl, rfl, SqL.of ha, rfl, _, _, rfl, rfl, .inl ⟨by omega, by omega⟩, _, _, rfl, rfl, .inl ⟨_, rfl, _, _, rfl, rfl, (by show (0 : Int) < 2147483587; decide), _, rfl, _, _, _, 1, rfl, rfl, ha, rfl, ?_⟩⟩
    have hz0 : (0 : Int) ≤ (y * 39373 + 8581) % 2147483587 := by omega
    have hz1 : (y * 39373 + 8581) % 2147483587 < (2147483587 : Int) := by omega
    refine ⟨_, rfl, _, _, _, .int ((y * 39373 + 8581) % 2147483587), rfl, rfl, SqL.of upd_same, rfl, _, rfl, _, _, _, .int ((y * 39373 + 8581) % 2147483587), rfl, rfl, SqL.of upd_same, rfl, _, _, rfl, rfl, .inl ⟨by omega, by omega⟩, .inl ⟨_, rfl, _, _, rfl, rfl, (by show (0 : Int) < 2147483563; decide), _, _, rfl, rfl, ⟨by decide, by decide⟩, .inl ⟨_, rfl, _, rfl, _, _, rfl, rfl, (by show (0 : Int) < (n : Int); omega), ?_⟩⟩⟩
    have fin : ∀ z : Int, 0 ≤ z → z < 2147483587 → Q (V.int (z * z % 2147483563 / 19 % (n : Int))) (upd H a (.lst [.int x, .int z])) := fun z hz0 hz1 => by
      have ed : (((z * z % 2147483563 / 19 % (n : Int)).toNat : Nat) : Int) = z * z % 2147483563 / 19 % (n : Int) := Int.toNat_of_nonneg (Int.emod_nonneg _ (by omega))
      have el := Int.emod_lt_of_pos (z * z % 2147483563 / 19) (show (0 : Int) < (n : Int) by omega)
      have := q (z * z % 2147483563 / 19 % (n : Int)).toNat (upd H a (.lst [.int x, .int z])) (by omega) (fun b o e nb => by rw [upd_ne nb]; exact e) ⟨_, _, upd_same, hx, hz0, by omega⟩
      rw [ed] at this
      exact this
    exact fin _ hz0 hz1
end
end My
namespace My
open PySem L2 PyProof.Rows
theorem cutV_to {xs : List V} {k : Nat} : cutV xs none (some (k : Int)) = xs.take k := by
  unfold cutV
  rw [HT.sIx_none, HT.sIx_nat]
  show (xs.drop 0).take _ = _
  rw [List.drop_zero]
  by_cases h : k ≤ xs.length
  · rw [Nat.min_eq_left h]; rfl
  · rw [Nat.min_eq_right (by omega), List.take_of_length_le (by omega), List.take_of_length_le (by omega)]
theorem dp_iv {K : PySem.W.Frag} {H : Hp} {p : Addr} {L : List Nat} (h : H p = some (.lst (iv L))) : Dp K H (.ref p) (dz (L.map fun n : Nat => (n : Int))) := dp_iz (by rw [← iv_iz]; exact h)
theorem TiesAt.take {H : Hp} {l : Addr} {ts : List (Nat × Nat)} {k : Nat} {xs : List V} (h : TiesAt H l ts) (hx : H l = some (.lst xs)) {p : Addr} (hp : H p = some (.lst (xs.take k))) : TiesAt H p (ts.take k) := by
  obtain ⟨tas, h1, h2⟩ := h
  rw [hx] at h1
  cases h1
  refine ⟨tas.take k, by rw [hp, List.map_take], ?_⟩
  clear hx hp
  induction h2 generalizing k with
  | nil => simp; exact .nil
  | cons r t ih =>
    cases k with
    | zero => exact .nil
    | succ k => exact .cons r ih
theorem TiesAt.drop {H : Hp} {l : Addr} {ts : List (Nat × Nat)} {k : Nat} {xs : List V} (h : TiesAt H l ts) (hx : H l = some (.lst xs)) {p : Addr} (hp : H p = some (.lst (xs.drop k))) : TiesAt H p (ts.drop k) := by
  obtain ⟨tas, h1, h2⟩ := h
  rw [hx] at h1
  cases h1
  refine ⟨tas.drop k, by rw [hp, List.map_drop], ?_⟩
  clear hx hp
  induction h2 generalizing k with
  | nil => simp; exact .nil
  | cons r t ih =>
    cases k with
    | zero => exact .cons r t
    | succ k => exact ih
theorem TiesAt.app {H : Hp} {l m p : Addr} {ts us : List (Nat × Nat)} {xs zs : List V} (h : TiesAt H l ts) (k : TiesAt H m us) (hx : H l = some (.lst xs)) (hz : H m = some (.lst zs)) (hp : H p = some (.lst (xs ++ zs))) : TiesAt H p (ts ++ us) := by
  obtain ⟨tas, h1, h2⟩ := h
  obtain ⟨uas, k1, k2⟩ := k
  rw [hx] at h1
  rw [hz] at k1
  cases h1
  cases k1
  exact ⟨tas ++ uas, by rw [hp, List.map_append], paired_apps h2 k2⟩
theorem iv_erase : ∀ (L : List Nat) (d : Nat), iv (L.eraseIdx d) = (iv L).eraseIdx d
  | [], _ => rfl
  | _ :: _, 0 => rfl
  | x :: r, d + 1 => congrArg (List.cons _) (iv_erase r d)
theorem erase_perm : ∀ {L : List Nat} {d x : Nat}, L[d]? = some x → (x :: L.eraseIdx d).Perm L
  | [], _, _, h => by simp at h
  | y :: r, 0, x, h => by
    have : y = x := by simpa using h
    subst this
    exact List.Perm.refl _
  | y :: r, d + 1, x, h => by
    have ih := erase_perm (L := r) (d := d) (x := x) (by simpa using h)
    exact (List.Perm.swap y x _).trans (ih.cons y)
/-- a tie begins at each place -/
def Goes (N : Nat) (ts : List (Nat × Nat)) : Prop := ∀ p, p < N → ∃ e ∈ ts, e.1 = p
theorem goes_frm {N : Nat} {ts : List (Nat × Nat)} (h : Goes N ts) {p : Nat} (hp : p < N) : 0 < (frm ts p).length := by
  obtain ⟨e, he, rfl⟩ := h p hp
  obtain ⟨i, hi⟩ := List.getElem?_of_mem he
  have : i ∈ frm ts e.1 := (frmN_mem ts e.1 i _).mpr ⟨(List.getElem?_eq_some_iff.mp hi).1, by rw [hi]; rfl⟩
  exact List.length_pos_of_mem this
/-- the ring of a sequence of places -/
def ringOf (o : List Nat) (n : Nat) : List (Nat × Nat) := (List.range n).map fun k => (o.getD k 0, o.getD ((k + 1) % o.length) 0)
theorem ringOf_snoc (o : List Nat) (n : Nat) : ringOf o (n + 1) = ringOf o n ++ [(o.getD n 0, o.getD ((n + 1) % o.length) 0)] := by
  unfold ringOf
  rw [List.range_succ, List.map_append]
  rfl
theorem getD_mem {o : List Nat} {k : Nat} (h : k < o.length) : o.getD k 0 ∈ o := by
  rw [List.getD_eq_getElem?_getD, List.getElem?_eq_getElem h]
  exact List.getElem_mem h
theorem sIx_lt {d n : Nat} (h : d < n) : seqIndex? (d : Int) n = some d := by
  refine (ixN_seq ?_).1
  unfold ixN
  rw [if_pos (by omega), if_pos (by omega)]
  rfl
theorem zip_ties {H : Hp} {l : Addr} : ∀ {ts : List Addr} {es : List (Nat × Nat)}, ts.length = es.length → (∀ (j : Nat) (t : Addr) (u v : Nat), ts[j]? = some t → es[j]? = some (u, v) → H t = some (.tup [.int (u : Int), .int (v : Int)])) → Paired (TupAt H) ts es
  | [], [], _, _ => .nil
  | [], _ :: _, h, _ => by simp at h
  | _ :: _, [], h, _ => by simp at h
  | t :: ts, (u, v) :: es, h, k => .cons (k 0 t u v rfl rfl) (zip_ties (l := l) (by simpa using h) fun j a b c h1 h2 => k (j + 1) a b c (by simpa using h1) (by simpa using h2))
theorem paired_take {α β : Type} {F : α → β → Prop} : ∀ {l1 : List α} {l2 : List β} (k : Nat), Paired F l1 l2 → Paired F (l1.take k) (l2.take k)
  | _, _, 0, _ => .nil
  | _, _, _ + 1, .nil => .nil
  | _, _, k + 1, .cons r t => .cons r (paired_take k t)
theorem paired_drop {α β : Type} {F : α → β → Prop} : ∀ {l1 : List α} {l2 : List β} (k : Nat), Paired F l1 l2 → Paired F (l1.drop k) (l2.drop k)
  | _, _, 0, h => h
  | _, _, _ + 1, .nil => .nil
  | _, _, k + 1, .cons _ t => paired_drop k t
theorem TiesAt.insert {H : Hp} {l p : Addr} {ts : List (Nat × Nat)} {xs : List V} {e : Nat × Nat} (k : Nat) (h : TiesAt H l ts) (hx : H l = some (.lst xs)) (hp : TupAt H p e) : TiesAt (upd H l (.lst (xs.take k ++ [.ref p] ++ xs.drop k))) l (ts.take k ++ [e] ++ ts.drop k) := by
  obtain ⟨tas, h1, h2⟩ := h
  rw [hx] at h1
  cases h1
  refine ⟨tas.take k ++ [p] ++ tas.drop k, by rw [upd_same, List.map_append, List.map_append, List.map_take, List.map_drop]; rfl, paired_mono (fun q f hq => ?_) (paired_apps (paired_apps (paired_take k h2) (.cons hp .nil)) (paired_drop k h2))⟩
  show upd _ _ _ q = _
  rw [upd_ne (ne_of hq hx (by intro z; cases z))]
  exact hq
/-- a ring goes through all places -/
def Rnd (N : Nat) (ts : List (Nat × Nat)) : Prop := ∃ ord : List Nat, ord.Perm (List.range N) ∧ ∀ e ∈ ringOf ord N, e ∈ ts
section
variable {P : Program} {w : World} {K : PySem.W.Frag} {mg : Str → Option Value} {base : Heap} {C : Addr}
def sp_law_close (_ : PySem.W.Frag) (_ : Addr) : Sp := fun vs H Q _ => ∃ a mo m, vs = [.ref a, .int ((mo : Nat) : Int), .int ((m : Nat) : Int)] ∧ PotAt H a ∧ 0 < mo ∧ mo ≤ 10 ∧ m ≤ 10 ∧ ∀ T N l ts H', ts.length ≤ N + m → N ≤ mo → OkWeb N ts → Goes N ts → Rnd N ts → Kept a H H' → PotAt H' a → H l = none → H' T = some (.tup [.int ((N : Nat) : Int), .ref l]) → TiesAt H' l ts → Q (.ref T) H'
theorem ok_law_close (D : Def K mg "_law_close" s_law_close ["_law_pot_here", "_law_most", "_law_more"]) (B : Bs mg) (Glb : Glo mg) (WK : WebK K mg C)
    (h_law_draw : Good P w K mg base "_law_draw" s_law_draw ["_law_pot_here", "_law_many"] 1 (sp_law_draw K C)) :
    Good P w K mg base "_law_close" s_law_close ["_law_pot_here", "_law_most", "_law_more"] 2 (sp_law_close K C) := by
  refine D.good fun f fd F => ?_
  obtain ⟨f_law_draw, d_law_draw, O_law_draw, m_law_draw, k_law_draw, b_law_draw, F_law_draw⟩ := h_law_draw
  refine F.ok sc_law_close (fun vs H Q E h => ?_) (fun cdv A outer s H vs Q E hr h => ?_)
  · obtain ⟨a, mo, m, rfl, hp, hmo, hmo10, hm, q⟩ := h
    first | rfl | (rcases h with ⟨_, _, rfl, _⟩ | ⟨_, rfl, _⟩ <;> rfl)
  obtain ⟨a, mo, m, rfl, hp, hmo, hmo10, hm, q⟩ := h
  refine ⟨_, (pss_cons (ps_set (i := 3) sc_law_close.nd rfl (by first | exact Or.inl rfl | exact Or.inr rfl) (pe_op op_add pe_int (pe_call O_law_draw hr rfl m_law_draw k_law_draw b_law_draw .nil pass0 (pa_cons (pv 0) (pa_cons (pv 1) pa_nil)))))
  (pss_cons (ps_par (i := 4) (j := 5) (by rfl) sc_law_close.nd rfl rfl (by decide) rfl rfl (pa_cons (pe_lst pa_nil) (pa_cons (pe_callTy (call_listRng rfl) (by rfl) B.list (by decide +kernel) (pa_cons (pe_callTy cr_range1 (by rfl) B.range (by decide +kernel) (pa_cons (pv 3) pa_nil)) pa_nil)) pa_nil)) (by rfl))
  (pss_cons (ps_while PassesOwn.never (pt_cmpR (op_neD hr.units) (pv 5) (pe_lst pa_nil) (nomark _))
    (pss_one (ps_expr (pe_bm PySem.F.plainAttrs_list PySem.F.slot_list_append PySem.F.type_list_append mt_append (pv 4) (pa_cons (pe_bm PySem.F.plainAttrs_list PySem.F.slot_list_pop PySem.F.type_list_pop mt_popAt (pv 5) (pa_cons (pe_call O_law_draw hr rfl m_law_draw k_law_draw b_law_draw .nil pass0 (pa_cons (pv 0) (pa_cons (pe_callB call_len_seq (by rfl) B.len (by decide +kernel) (pa_cons (pv 5) pa_nil)) pa_nil))) pa_nil)) pa_nil)))))
  (pss_cons (ps_set (i := 6) sc_law_close.nd rfl (by first | exact Or.inl rfl | exact Or.inr rfl) (pe_listZip (by rfl) B.list (by rfl) B.zip (pa_cons (pv 4) (pa_cons (pe_op op_cat (pe_slice sl_list (pv 4) (po_some pe_int) po_none) (pe_slice sl_list (pv 4) po_none (po_some pe_int))) pa_nil))))
  (pss_cons (ps_for PassesOwn.never rfl (pi_range1 (by rfl) B.range (pa_cons (pe_call O_law_draw hr rfl m_law_draw k_law_draw b_law_draw .nil pass0 (pa_cons (pv 0) (pa_cons (pe_op op_add (pv 2) pe_int) pa_nil))) pa_nil)) (pg_name (i := 7) sc_law_close.nd rfl (by first | exact Or.inl rfl | exact Or.inr rfl))
    (pss_cons (ps_set (i := 8) sc_law_close.nd rfl (by first | exact Or.inl rfl | exact Or.inr rfl) (pe_call O_law_draw hr rfl m_law_draw k_law_draw b_law_draw .nil pass0 (pa_cons (pv 0) (pa_cons pe_int pa_nil))))
  (pss_cons (ps_par (i := 9) (j := 10) (by rfl) sc_law_close.nd rfl rfl (by decide) rfl rfl (pa_cons (pe_call O_law_draw hr rfl m_law_draw k_law_draw b_law_draw .nil pass0 (pa_cons (pv 0) (pa_cons (pv 3) pa_nil))) (pa_cons (pe_call O_law_draw hr rfl m_law_draw k_law_draw b_law_draw .nil pass0 (pa_cons (pv 0) (pa_cons (pv 3) pa_nil))) pa_nil)) (by rfl))
  (pss_cons (ps_set (i := 11) sc_law_close.nd rfl (by first | exact Or.inl rfl | exact Or.inr rfl) (pe_tup (pa_cons (pv 9) (pa_cons (pe_ifExp (pt_cmpR op_eq (pv 8) pe_int (nomark _)) (pv 9) (pv 10)) pa_nil))))
  (pss_cons (ps_if (pt_cmpR op_eq (pv 8) pe_int (nomark _))
    (pss_one (ps_set (i := 11) sc_law_close.nd rfl (by first | exact Or.inl rfl | exact Or.inr rfl) (pe_ix ix_list (pv 6) (pe_call O_law_draw hr rfl m_law_draw k_law_draw b_law_draw .nil pass0 (pa_cons (pv 0) (pa_cons (pe_callB call_len_seq (by rfl) B.len (by decide +kernel) (pa_cons (pv 6) pa_nil)) pa_nil))) (fun _ _ => rfl)))) pss_nil)
  (pss_one (ps_expr (pe_bm PySem.F.plainAttrs_list PySem.F.slot_list_insert PySem.F.type_list_insert mt_insert (pv 6) (pa_cons (pe_call O_law_draw hr rfl m_law_draw k_law_draw b_law_draw .nil pass0 (pa_cons (pv 0) (pa_cons (pe_op op_add (pe_callB call_len_seq (by rfl) B.len (by decide +kernel) (pa_cons (pv 6) pa_nil)) pe_int) pa_nil))) (pa_cons (pv 11) pa_nil))))))))))
  (pss_one (ps_ret (pe_tup (pa_cons (pv 3) (pa_cons (pv 6) pa_nil)))))))))), ?_⟩
  refine ⟨_, rfl, _, rfl, a, mo, rfl, hp, hmo, by omega, fun dN H_ hdN hk_ hp' => ⟨_, _, rfl, rfl, ?_⟩⟩
  obtain ⟨N, eN⟩ : ∃ N, N = 1 + dN := ⟨_, rfl⟩
  have hNv : (1 : Int) + (dN : Int) = (N : Int) := by omega
  have hN : 0 < N := by omega
  have hN60 : N ≤ 60 := by omega
  refine ⟨Nat.zero_le _, fun O nO => ⟨_, rfl, (N : Int), by rw [← hNv], fun pr npr => ⟨pr, N, rfl, upd_same, by omega, fun Lf nLf => ⟨_, _, rfl, ?_⟩⟩⟩⟩
  have nOpr : O ≠ pr := ne_of_none upd_same npr
  have nOL : O ≠ Lf := ne_of_none (by rw [upd_ne nOpr]; exact upd_same) nLf
  have hO0 : upd (upd (upd H_ O (.lst [])) pr (.rng 0 (N : Int))) Lf (.lst (iv (List.range N))) O = some (.lst (iv [])) := by rw [upd_ne nOL, upd_ne nOpr]; exact upd_same
  have hL0 : upd (upd (upd H_ O (.lst [])) pr (.rng 0 (N : Int))) Lf (.lst (iv (List.range N))) Lf = some (.lst (iv (List.range N))) := upd_same
  have hS0_ : Same H_ (upd (upd (upd H_ O (.lst [])) pr (.rng 0 (N : Int))) Lf (.lst (iv (List.range N)))) := ((same_new nO _).trans (same_new npr _)).trans (same_new nLf _)
  have nLf0 : H_ Lf = none := ((same_new nO (.lst [])).trans (same_new npr (.rng 0 (N : Int)))).free nLf
  have nOa : O ≠ a := hp'.ne nO
  have nLa : Lf ≠ a := hp'.ne nLf0
  have hp0 := hp'.same hS0_
  have nO := hk_.free nO nOa
  have nLf0 := hk_.free nLf0 nLa
  generalize upd (upd (upd H_ O (.lst [])) pr (.rng 0 (N : Int))) Lf (.lst (iv (List.range N))) = H0 at hO0 hL0 hS0_ hp0
  have hS0 := hk_.trans (Same.kept hS0_)
  let Pv : Nat → L2.St → Hp → Prop := fun m' σ H' => ∃ (ord lft : List Nat), σ = [some (.ref a), some (.int (mo : Int)), some (.int (m : Int)), some (.int ((1 : Int) + (dN : Int))), some (.ref O), some (.ref Lf), none, none, none, none, none, none] ∧ Kept a H H' ∧ PotAt H' a ∧ H' O = some (.lst (iv ord)) ∧ H' Lf = some (.lst (iv lft)) ∧ (ord ++ lft).Perm (List.range N) ∧ lft.length = m'
  refine ⟨Pv, ⟨_, [], List.range N, rfl, hS0, hp0, hO0, hL0, by simp, rfl⟩, ?_⟩
  rintro m' σ H1 ⟨ord, lft, rfl, hk1, hp1, hO1, hL1, hperm, hlen⟩
  have hlt : (ord ++ lft).length = N := by rw [hperm.length_eq, List.length_range]
  rw [List.length_append] at hlt
  refine ⟨_, rfl, (by decide), fun p0 np0 => ⟨_, _, dp_iv (same_new np0 _ _ _ hL1), dp_iz (L := []) upd_same, shaped_iz _, shaped_iz _, _, rfl, ?_⟩⟩
  rw [eqv_empty]
  have hk2 : Kept a H (upd H1 p0 (.lst [])) := hk1.new np0
  have hp2 : PotAt (upd H1 p0 (.lst [])) a := hp1.new np0
  have hO2 := same_new np0 (.lst []) _ _ hO1
  have hL2 := same_new np0 (.lst []) _ _ hL1
  generalize upd H1 p0 (.lst []) = H2 at hk2 hp2 hO2 hL2
  by_cases c : lft = []
  · subst c
    refine iteNot' (by rfl) ?_
    have hpo : ord.Perm (List.range N) := by simpa using hperm
    have hol : ord.length = N := by simpa using hlt
    have hlo : ∀ x ∈ ord, x < N := fun x hx => List.mem_range.mp (hpo.mem_iff.mp hx)
    refine ⟨_, rfl, _, rfl, _, rfl, O, _, rfl, SqL.of hO2, ?_⟩
    rw [show cutV (iv ord) (some (1 : Int)) none = (iv ord).drop 1 from cutV_from (k := 1)]
    refine fun p1 n1 => ?_
    have hS3 := same_new n1 (.lst ((iv ord).drop 1))
    have h13 : upd H2 p1 (.lst ((iv ord).drop 1)) p1 = some (.lst ((iv ord).drop 1)) := upd_same
    generalize upd H2 p1 (.lst ((iv ord).drop 1)) = H3 at hS3 h13
    refine ⟨_, rfl, _, rfl, O, _, rfl, SqL.of (hS3 _ _ hO2), ?_⟩
    rw [show cutV (iv ord) none (some (1 : Int)) = (iv ord).take 1 from cutV_to (k := 1)]
    refine fun p2 n2 => ⟨p1, p2, _, _, rfl, rfl, same_new n2 _ _ _ h13, upd_same, ?_, fun p3 n3 => ?_⟩
    · rw [List.length_drop, List.length_take, List.length_map]
      exact Nat.le_trans (by omega : _ ≤ 1000) (by decide)
    have hS5 := hS3.trans ((same_new n2 (.lst ((iv ord).take 1))).trans (same_new n3 (.lst ((iv ord).drop 1 ++ (iv ord).take 1))))
    have h35 : upd (upd H3 p2 (.lst ((iv ord).take 1))) p3 (.lst ((iv ord).drop 1 ++ (iv ord).take 1)) p3 = some (.lst (iv (ord.drop 1 ++ ord.take 1))) := by
      rw [upd_same]
      unfold iv
      rw [List.map_append, List.map_drop, List.map_take]
    generalize upd (upd H3 p2 (.lst ((iv ord).take 1))) p3 (.lst ((iv ord).drop 1 ++ (iv ord).take 1)) = H5 at hS5 h35
    refine ⟨O, p3, _, _, rfl, SqL.of (hS5 _ _ hO2), SqL.of h35, ?_, by rw [List.length_map]; omega, fun H6 l tas hS6 nl hl6 htl hpair => ?_⟩
    · rw [List.length_map, List.length_map, List.length_append, List.length_drop, List.length_take]
      omega
    rw [List.length_map] at htl
    have hr1 : (ringOf ord N).length = N := by unfold ringOf; rw [List.length_map, List.length_range]
    have hT6 : TiesAt H6 l (ringOf ord N) := ⟨tas, hl6, zip_ties (l := l) (by omega) fun j t u v h1 h2 => by
      have hj := (List.getElem?_eq_some_iff.mp h2).1
      rw [hr1] at hj
      unfold ringOf at h2
      rw [List.getElem?_map, List.getElem?_range hj] at h2
      cases h2
      refine hpair j t _ _ h1 (by rw [List.getElem?_map, getD_lt (by omega)]; rfl) ?_
      rw [List.getElem?_map]
      have : (ord.drop 1 ++ ord.take 1)[j]? = some (ord.getD ((j + 1) % ord.length) 0) := by
        by_cases c : j + 1 < ord.length
        · rw [List.getElem?_append_left (by rw [List.length_drop]; omega), List.getElem?_drop, Nat.mod_eq_of_lt c, Nat.add_comm 1 j]
          exact getD_lt c
        · have e : j + 1 = ord.length := by omega
          rw [List.getElem?_append_right (by rw [List.length_drop]; omega), List.length_drop, e, Nat.mod_self, show j - (ord.length - 1) = 0 by omega, List.getElem?_take_of_lt (by omega)]
          exact getD_lt (by omega)
      rw [this]
      rfl⟩
    have hr2 : ∀ e ∈ ringOf ord N, e.1 < N ∧ e.2 < N := fun e he => by
      obtain ⟨k, hk, rfl⟩ := List.mem_map.mp he
      have hk := List.mem_range.mp hk
      exact ⟨hlo _ (getD_mem (by omega)), hlo _ (getD_mem (Nat.mod_lt _ (by omega)))⟩
    have hr3 : Goes N (ringOf ord N) := fun p hpN => by
      have : p ∈ ord := hpo.mem_iff.mpr (List.mem_range.mpr hpN)
      obtain ⟨k, hk⟩ := List.getElem?_of_mem this
      have hk1 := (List.getElem?_eq_some_iff.mp hk).1
      refine ⟨_, List.mem_map.mpr ⟨k, List.mem_range.mpr (by omega), rfl⟩, ?_⟩
      show ord.getD k 0 = p
      rw [List.getD_eq_getElem?_getD, hk]
      rfl
    have hr4 : Rnd N (ringOf ord N) := ⟨ord, hpo, fun e he => he⟩
    have hk6 := hk2.trans (Same.kept (hS5.trans hS6))
    have hp6 := hp2.same (hS5.trans hS6)
    have nlH := (hk2.trans (Same.kept hS5)).free nl ((hp2.same hS5).ne nl)
    have hla : l ≠ a := (hp2.same hS5).ne nl
    generalize ringOf ord N = ts0 at hr1 hr2 hr3 hr4 hT6
    refine ⟨_, rfl, _, rfl, _, _, rfl, rfl, a, m + 1, rfl, hp6, by omega, by omega, fun d H7 hd hk7 hp7 => ⟨_, rfl, by omega, by omega, ?_⟩⟩
    rw [show ((d : Nat) : Int).toNat = d by omega]
    refine for_range (lo := 0) (n := d) (fun i σ H' => ∃ (ts : List (Nat × Nat)) (v7 v8 v9 v10 v11 : Option V), σ = [some (.ref a), some (.int (mo : Int)), some (.int (m : Int)), some (.int ((1 : Int) + (dN : Int))), some (.ref O), some (.ref Lf), some (.ref l), v7, v8, v9, v10, v11] ∧ ts.length = N + i ∧ (∀ e ∈ ts, e.1 < N ∧ e.2 < N) ∧ Goes N ts ∧ Rnd N ts ∧ Kept a H H' ∧ PotAt H' a ∧ TiesAt H' l ts) ⟨ts0, none, none, none, none, none, rfl, by rw [hr1]; rfl, hr2, hr3, hr4, hk6.trans hk7, hp7, hT6.kept hk7 hp6 hla⟩ ?_ ?_
    · rintro i σ H8 hi ⟨ts, v7, v8, v9, v10, v11, rfl, hl, hok, hgo, hrn, hk8, hp8, hT8⟩
      refine ⟨_, rfl, a, 5, rfl, hp8, by decide, by decide, fun y H9 hy hk9 hp9 => ?_⟩
      refine ⟨_, rfl, _, rfl, a, N, by rw [← hNv]; rfl, hp9, hN, by omega, fun u Ha hu hka hpa => ⟨_, rfl, _, rfl, a, N, by rw [← hNv]; rfl, hpa, hN, by omega, fun v Hb hv hkb hpb => ⟨_, _, rfl, ?_⟩⟩⟩
      have hk9b := (hk9.trans hka).trans hkb
      have hTb := hT8.kept hk9b hp8 hla
      have hkHb := hk8.trans hk9b
      refine ⟨_, rfl, _, rfl, rfl, _, rfl, ?_⟩
      refine ite2 (fun z => ⟨_, rfl, ?ia⟩) (fun z => ⟨_, rfl, ?ib⟩)
      case' ia =>
        refine ⟨(by show 2 ≤ sizeLine; decide), fun tp ntp => ?_⟩
        have hkC := hkHb.new (o := .tup [.int (u : Int), .int (u : Int)]) ntp
        have hpC := hpb.new (o := .tup [.int (u : Int), .int (u : Int)]) ntp
        have hTC := hTb.new (o := .tup [.int (u : Int), .int (u : Int)]) ntp
        have htp : ∃ e : Nat × Nat, e.1 < N ∧ e.2 < N ∧ TupAt (upd Hb tp (.tup [.int (u : Int), .int (u : Int)])) tp e := ⟨(u, u), hu, hu, upd_same⟩
        generalize upd Hb tp (.tup [.int (u : Int), .int (u : Int)]) = Hc at hkC hpC hTC htp
      case' ib =>
        refine ⟨(by show 2 ≤ sizeLine; decide), fun tp ntp => ?_⟩
        have hkC := hkHb.new (o := .tup [.int (u : Int), .int (v : Int)]) ntp
        have hpC := hpb.new (o := .tup [.int (u : Int), .int (v : Int)]) ntp
        have hTC := hTb.new (o := .tup [.int (u : Int), .int (v : Int)]) ntp
        have htp : ∃ e : Nat × Nat, e.1 < N ∧ e.2 < N ∧ TupAt (upd Hb tp (.tup [.int (u : Int), .int (v : Int)])) tp e := ⟨(u, v), hu, hv, upd_same⟩
        generalize upd Hb tp (.tup [.int (u : Int), .int (v : Int)]) = Hc at hkC hpC hTC htp
      all_goals
        refine ⟨_, rfl, rfl, _, rfl, ?_⟩
        refine ite2 (fun z2 => ?_) (fun z2 => ?_)
        · obtain ⟨xs0, hx0, hxl0⟩ := hTC.get
          refine ⟨_, rfl, _, rfl, _, rfl, l, _, rfl, .inl (SqL.of hx0), a, xs0.length, rfl, hpC, by omega, by omega, fun k Hd hk hkd hpd => ?_⟩
          obtain ⟨e, he⟩ : ∃ e, ts[k]? = some e := ⟨_, List.getElem?_eq_getElem (by omega)⟩
          obtain ⟨e1, e2⟩ := hok e (List.mem_of_getElem? he)
          have hTd := hTC.kept hkd hpC hla
          have hkD := hkC.trans hkd
          obtain ⟨xs', p, g1, g2, e3⟩ := hTd.at_ he
          refine ⟨_, _, _, .ref p, rfl, rfl, SqL.of g1, g2, ?_⟩
          obtain ⟨xs, hx, hxl⟩ := hTd.get
          refine ⟨_, rfl, .inl ⟨rfl, _, SqL.of hx⟩, _, rfl, _, rfl, l, _, rfl, .inl (SqL.of hx), _, _, rfl, rfl, a, xs.length + 1, rfl, hpd, by omega, by omega, fun k2 He hk2 hke hpe => ?_⟩
          have hxe := hke _ _ hx hla
          have hTe := hTd.kept hke hpd hla
          have hpe2 := hke _ _ e3 (hpd.ntup e3)
          refine ⟨_, rfl, l, xs, (k2 : Int), .ref p, rfl, rfl, hxe, Nat.lt_of_lt_of_le (by omega : xs.length < 1000) (by decide), by omega, by omega, ?_⟩
          refine ⟨ts.take k2 ++ [e] ++ ts.drop k2, _, _, _, _, _, rfl, ?_, ?_, ?_, ?_, (hkD.trans hke).put nlH, hpe.put hla, hTe.insert k2 hxe hpe2⟩
          · rw [List.length_append, List.length_append, List.length_take, List.length_singleton, List.length_drop]
            omega
          · intro f hf
            rcases List.mem_append.mp hf with hf | hf
            · rcases List.mem_append.mp hf with hf | hf
              · exact hok f (List.mem_of_mem_take hf)
              · rw [List.mem_singleton.mp hf]; exact ⟨e1, e2⟩
            · exact hok f (List.mem_of_mem_drop hf)
          · intro p' hpN
            obtain ⟨f, hf, h1⟩ := hgo p' hpN
            refine ⟨f, ?_, h1⟩
            rw [← List.take_append_drop k2 ts] at hf
            rcases List.mem_append.mp hf with hf | hf
            · exact List.mem_append_left _ (List.mem_append_left _ hf)
            · exact List.mem_append_right _ hf
          · obtain ⟨o, q1, q2⟩ := hrn
            refine ⟨o, q1, fun f hf => ?_⟩
            have hf := q2 f hf
            rw [← List.take_append_drop k2 ts] at hf
            rcases List.mem_append.mp hf with hf | hf
            · exact List.mem_append_left _ (List.mem_append_left _ hf)
            · exact List.mem_append_right _ hf
        · obtain ⟨e, e1, e2, e3⟩ := htp
          obtain ⟨xs, hx, hxl⟩ := hTC.get
          refine ⟨_, rfl, .inl ⟨rfl, _, SqL.of hx⟩, _, rfl, _, rfl, l, _, rfl, .inl (SqL.of hx), _, _, rfl, rfl, a, xs.length + 1, rfl, hpC, by omega, by omega, fun k2 He hk2 hke hpe => ?_⟩
          have hxe := hke _ _ hx hla
          have hTe := hTC.kept hke hpC hla
          have hpe2 := hke _ _ e3 (hpC.ntup e3)
          refine ⟨_, rfl, l, xs, (k2 : Int), .ref tp, rfl, rfl, hxe, Nat.lt_of_lt_of_le (by omega : xs.length < 1000) (by decide), by omega, by omega, ?_⟩
          refine ⟨ts.take k2 ++ [e] ++ ts.drop k2, _, _, _, _, _, rfl, ?_, ?_, ?_, ?_, (hkC.trans hke).put nlH, hpe.put hla, hTe.insert k2 hxe hpe2⟩
          · rw [List.length_append, List.length_append, List.length_take, List.length_singleton, List.length_drop]
            omega
          · intro f hf
            rcases List.mem_append.mp hf with hf | hf
            · rcases List.mem_append.mp hf with hf | hf
              · exact hok f (List.mem_of_mem_take hf)
              · rw [List.mem_singleton.mp hf]; exact ⟨e1, e2⟩
            · exact hok f (List.mem_of_mem_drop hf)
          · intro p' hpN
            obtain ⟨f, hf, h1⟩ := hgo p' hpN
            refine ⟨f, ?_, h1⟩
            rw [← List.take_append_drop k2 ts] at hf
            rcases List.mem_append.mp hf with hf | hf
            · exact List.mem_append_left _ (List.mem_append_left _ hf)
            · exact List.mem_append_right _ hf
          · obtain ⟨o, q1, q2⟩ := hrn
            refine ⟨o, q1, fun f hf => ?_⟩
            have hf := q2 f hf
            rw [← List.take_append_drop k2 ts] at hf
            rcases List.mem_append.mp hf with hf | hf
            · exact List.mem_append_left _ (List.mem_append_left _ hf)
            · exact List.mem_append_right _ hf
    · rintro σ H8 ⟨ts, v7, v8, v9, v10, v11, rfl, hl, hok, hgo, hrn, hk8, hp8, hT8⟩
      refine ⟨_, rfl, _, rfl, (by show 2 ≤ sizeLine; decide), fun T nT => ?_⟩
      have := q T N l ts (upd H8 T (.tup [.int (N : Int), .ref l])) (by omega) (by omega) ⟨hN, hN60, by omega, hok⟩ hgo hrn (hk8.new nT) (hp8.new nT) nlH upd_same (hT8.new nT)
      rw [← hNv] at this
      exact this
  · refine iteNot (by simpa using c) ?_
    have hl0 : 0 < lft.length := List.length_pos_iff.mpr c
    refine ⟨fun σ' H' => ∃ m'', m'' < m' ∧ Pv m'' σ' H', fun σ' H' h => h, ?_⟩
    refine ⟨_, rfl, .inl ⟨rfl, _, SqL.of hO2⟩, _, rfl, .inl ⟨rfl, _, SqL.of hL2⟩, _, rfl, _, rfl, Lf, _, rfl, .inl (SqL.of hL2), a, (iv lft).length, rfl, hp2, by rw [List.length_map]; exact hl0, by rw [List.length_map]; omega, fun d H3 hd hk3 hp3 => ?_⟩
    rw [List.length_map] at hd
    have hL3 := hk3 _ _ hL2 nLa
    have hO3 := hk3 _ _ hO2 nOa
    have ed : lft[d]? = some (lft[d]'hd) := List.getElem?_eq_getElem hd
    refine ⟨Lf, _, (d : Int), d, .int ((lft[d] : Nat) : Int), rfl, rfl, hL3, by omega, by omega, sIx_lt (by rw [List.length_map]; exact hd), by rw [List.getElem?_map, ed]; rfl, ?_⟩
    refine ⟨O, _, _, rfl, rfl, by rw [upd_ne nOL]; exact hO3, by rw [List.length_map]; exact Nat.lt_of_lt_of_le (by omega : ord.length < 1000) (by decide), ?_⟩
    refine ⟨_, ?_, ord ++ [lft[d]], lft.eraseIdx d, rfl, ?_, ?_, ?_, ?_, ?_, rfl⟩
    · rw [List.length_eraseIdx_of_lt hd]; omega
    · exact ((hk2.trans hk3).put nLf0).put nO
    · exact (hp3.put nLa).put nOa
    · rw [upd_same, iv_app]
    · rw [upd_ne nOL.symm, upd_same]
      congr 2
      exact (iv_erase _ _).symm
    · refine List.Perm.trans ?_ hperm
      rw [List.append_assoc]
      refine List.Perm.append_left _ ?_
      exact erase_perm ed
end
end My
namespace My
open PySem L2 PyProof.Rows
theorem Chain.one {ts : List (Nat × Nat)} {x : Nat} (h : x < ts.length) : Chain ts [x] := ⟨by simp, fun y hy => by rw [List.mem_singleton.mp hy]; exact h, fun i hi => by simp at hi⟩
theorem Chain.last {ts : List (Nat × Nat)} {R : List Nat} (h : Chain ts R) : ∃ x e, R[R.length - 1]? = some x ∧ ts[x]? = some e := by
  have h0 := h.n0
  have e1 : R[R.length - 1]? = some (R[R.length - 1]'(by omega)) := List.getElem?_eq_getElem _
  have := h.num _ (List.mem_of_getElem? e1)
  exact ⟨_, _, e1, List.getElem?_eq_getElem this⟩
theorem Chain.first {ts : List (Nat × Nat)} {R : List Nat} (h : Chain ts R) : ∃ x e, R[0]? = some x ∧ ts[x]? = some e := by
  have h0 := h.n0
  have e1 : R[0]? = some (R[0]'(by omega)) := List.getElem?_eq_getElem _
  have := h.num _ (List.mem_of_getElem? e1)
  exact ⟨_, _, e1, List.getElem?_eq_getElem this⟩
theorem Chain.snoc {ts : List (Nat × Nat)} {R : List Nat} {x y : Nat} {e : Nat × Nat} (h : Chain ts R) (hx : R[R.length - 1]? = some x) (he : ts[x]? = some e) (hy : y ∈ frm ts e.2) : Chain ts (R ++ [y]) := by
  have h0 := h.n0
  obtain ⟨y1, y2⟩ := (frmN_mem ts e.2 y _).mp hy
  obtain ⟨g, hg⟩ : ∃ g, ts[y]? = some g := ⟨_, List.getElem?_eq_getElem y1⟩
  rw [hg] at y2
  have y3 : g.1 = e.2 := by simpa using y2
  refine ⟨by simp, fun z hz => ?_, fun i hi => ?_⟩
  · rcases List.mem_append.mp hz with hz | hz
    · exact h.num z hz
    · rw [List.mem_singleton.mp hz]; exact y1
  · rw [List.length_append, List.length_singleton] at hi
    by_cases c : i + 1 < R.length
    · obtain ⟨x', y', e', f', k1, k2, k3, k4, k5⟩ := h.on i c
      exact ⟨x', y', e', f', by rw [List.getElem?_append_left (by omega)]; exact k1, by rw [List.getElem?_append_left c]; exact k2, k3, k4, k5⟩
    · have ei : i = R.length - 1 := by omega
      subst ei
      refine ⟨x, y, e, g, by rw [List.getElem?_append_left (by omega)]; exact hx, ?_, he, hg, y3⟩
      rw [List.getElem?_append_right (by omega), show R.length - 1 + 1 - R.length = 0 by omega]
      rfl
theorem iv_mem {L : List Nat} {v : V} (h : v ∈ iv L) : ∃ y : Nat, y ∈ L ∧ v = .int (y : Int) := by
  obtain ⟨y, hy, rfl⟩ := List.mem_map.mp h
  exact ⟨y, hy, rfl⟩
section
variable {P : Program} {w : World} {K : PySem.W.Frag} {mg : Str → Option Value} {base : Heap} {C : Addr}
def sp_law_walk (_ : PySem.W.Frag) (_ : Addr) : Sp := fun vs H Q _ => ∃ a l N ts m, vs = [.ref a, .ref l, .int ((m : Nat) : Int)] ∧ PotAt H a ∧ l ≠ a ∧ TiesAt H l ts ∧ OkWeb N ts ∧ Goes N ts ∧ 0 < m ∧ m ≤ 100 ∧ ∀ f R H', Chain ts R → R.length = m → Kept a H H' → PotAt H' a → H f = none → H' f = some (.lst (iv R)) → Q (.ref f) H'
theorem ok_law_walk (D : Def K mg "_law_walk" s_law_walk ["_law_pot_here", "_law_ties", "_law_many"]) (B : Bs mg) (Glb : Glo mg) (WK : WebK K mg C)
    (h_law_draw : Good P w K mg base "_law_draw" s_law_draw ["_law_pot_here", "_law_many"] 1 (sp_law_draw K C)) :
    Good P w K mg base "_law_walk" s_law_walk ["_law_pot_here", "_law_ties", "_law_many"] 2 (sp_law_walk K C) := by
  refine D.good fun f fd F => ?_
  obtain ⟨f_law_draw, d_law_draw, O_law_draw, m_law_draw, k_law_draw, b_law_draw, F_law_draw⟩ := h_law_draw
  refine F.ok sc_law_walk (fun vs H Q E h => ?_) (fun cdv A outer s H vs Q E hr h => ?_)
  · obtain ⟨a, l, N, ts, m, rfl, hp, hla, hT, ho, hgo, hm0, hm, q⟩ := h
    first | rfl | (rcases h with ⟨_, _, rfl, _⟩ | ⟨_, rfl, _⟩ <;> rfl)
  obtain ⟨a, l, N, ts, m, rfl, hp, hla, hT, ho, hgo, hm0, hm, q⟩ := h
  refine ⟨_, (pss_cons (ps_set (i := 3) sc_law_walk.nd rfl (by first | exact Or.inl rfl | exact Or.inr rfl) (pe_lst (pa_cons (pe_call O_law_draw hr rfl m_law_draw k_law_draw b_law_draw .nil pass0 (pa_cons (pv 0) (pa_cons (pe_callB call_len_seq (by rfl) B.len (by decide +kernel) (pa_cons (pv 1) pa_nil)) pa_nil))) pa_nil)))
  (pss_cons (ps_while PassesOwn.never (pt_cmpR op_lt (pe_callB call_len_seq (by rfl) B.len (by decide +kernel) (pa_cons (pv 3) pa_nil)) (pv 2) (nomark _))
    (pss_cons (ps_setLc (i := 4) (own := [("_law_at", 5), ("_law_tie", 6)]) (g := gTup K 2 (gCons (gName 5) (gCons (gName 6) gNil))) (by rfl) sc_law_walk.nd rfl rfl (sw_true rfl rfl rfl (by decide +kernel)) (pi_enum (by rfl) B.enumerate (pa_cons (pv 1) pa_nil)) (blkOk_by (own := [("_law_at", 5), ("_law_tie", 6)]) (N := ["_law_pot_here", "_law_ties", "_law_many", "_law_found", "_law_nexts", "_law_at", "_law_tie"]) (sc := defScope s_law_walk) (by decide +kernel)) (fun _ _ _ _ _ => (pg_tup rfl (pgs_cons (pg_name (i := 5) sc_law_walk.nd rfl (by first | exact Or.inl rfl | exact Or.inr rfl)) (pgs_cons (pg_name (i := 6) sc_law_walk.nd rfl (by first | exact Or.inl rfl | exact Or.inr rfl)) pgs_nil)))) (fun _ _ _ _ _ => (pts_one (pt_cmpR op_eq (pe_ix (ix_tupK (K := K) rfl) (pv 6) pe_int (by exact fun _ _ => rfl)) (pe_ix (ix_tupK (K := K) rfl) (pe_ix (ix_listK (K := K) rfl) (pv 1) (pe_ix (ix_listK (K := K) rfl) (pv 3) (pe_un un_neg pe_int) (by exact fun _ _ => rfl)) (by exact fun _ _ => rfl)) pe_int (by exact fun _ _ => rfl)) (nomark _)))) (fun _ _ _ _ _ => (pv 5)))
  (pss_one (ps_expr (pe_bm PySem.F.plainAttrs_list PySem.F.slot_list_append PySem.F.type_list_append mt_append (pv 3) (pa_cons (pe_ix ix_list (pv 4) (pe_call O_law_draw hr rfl m_law_draw k_law_draw b_law_draw .nil pass0 (pa_cons (pv 0) (pa_cons (pe_callB call_len_seq (by rfl) B.len (by decide +kernel) (pa_cons (pv 4) pa_nil)) pa_nil))) (fun _ _ => rfl)) pa_nil))))))
  (pss_one (ps_ret (pv 3))))), ?_⟩
  have htm := ho.m
  have hgm : 0 < ts.length := by
    obtain ⟨e, he, _⟩ := hgo 0 ho.n0
    exact List.length_pos_of_mem he
  obtain ⟨xs0, hxs0, hxl0⟩ := hT.get
  refine ⟨_, rfl, _, rfl, l, _, rfl, .inl (SqL.of hxs0), a, xs0.length, rfl, hp, by omega, by omega, fun d H0 hd hk0 hp0 => ⟨(by show 1 ≤ sizeLine; decide), fun f nf => ?_⟩⟩
  have hfa : f ≠ a := hp0.ne nf
  have nfH : H f = none := hk0.free nf hfa
  have hkF := hk0.new (o := .lst [.int (d : Int)]) nf
  have hpF := hp0.new (o := .lst [.int (d : Int)]) nf
  have hfF : upd H0 f (.lst [.int (d : Int)]) f = some (.lst (iv [d])) := upd_same
  generalize upd H0 f (.lst [.int (d : Int)]) = HF at hkF hpF hfF
  let Pv : Nat → L2.St → Hp → Prop := fun m' σ H' => ∃ (R : List Nat) (v4 : Option V), σ = [some (.ref a), some (.ref l), some (.int (m : Int)), some (.ref f), v4, none, none] ∧ Chain ts R ∧ R.length ≤ m ∧ m' = m - R.length ∧ Kept a H H' ∧ PotAt H' a ∧ H' f = some (.lst (iv R))
  refine ⟨Pv, ⟨_, [d], none, rfl, Chain.one (by omega), by show 1 ≤ m; omega, rfl, hkF, hpF, hfF⟩, ?_⟩
  rintro m' σ H1 ⟨R, v4, rfl, hc, hRm, rfl, hk1, hp1, hf1⟩
  have h0 := hc.n0
  refine ⟨_, rfl, f, _, rfl, .inl (SqL.of hf1), _, rfl, _, _, rfl, rfl, _, rfl, ?_⟩
  rw [List.length_map]
  refine ite2 (fun c1 => ?_) (fun c1 => ?_)
  · have c2 : (R.length : Int) < (m : Int) := of_decide_eq_true c1
    refine ⟨fun σ' H' => ∃ m'', m'' < m - R.length ∧ Pv m'' σ' H', fun σ' H' h => h, ?_⟩
    obtain ⟨x0, e, e1', e2⟩ := hc.last
    have hT1 := hT.kept hk1 hp hla
    obtain ⟨xs, p0, k1, k2, k3⟩ := hT1.at_ e2
    have e2' := e2
    obtain ⟨tas, hl1, hP1⟩ := id hT1
    refine ⟨_, rfl, l, _, rfl, SqL.of hl1, fun D nD => ?_⟩
    refine lc_it (walk_enum (K := K) (a := l) (xs := tas.map V.ref)) (fun i H' => Same H1 H' ∧ H' D = some (.lst (iv (frmN ts e.2 i)))) ⟨same_new nD _, upd_same⟩ (fun i H' _ ⟨hS', _⟩ => SqL.of (hS' _ _ hl1)) ?_ ?_
    · rintro i x H2 H3 hi ⟨hS2, hD2⟩ ⟨T0, x1, x2, rfl, nT0, rfl, e1, e2⟩
      cases e1
      rw [List.length_map] at hi
      replace e2 : (tas.map V.ref)[i]? = some x2 := e2
      rw [List.getElem?_map, List.getElem?_eq_getElem hi] at e2
      cases e2
      obtain ⟨⟨u, v⟩, he', hpe⟩ := paired_get hP1 (List.getElem?_eq_getElem hi)
      have hil := (List.getElem?_eq_some_iff.mp he').1
      have hS3 := same_new nT0 (.tup [.int (i : Int), .ref tas[i]])
      have hT3 : upd H2 T0 (.tup [.int (i : Int), .ref tas[i]]) T0 = some (.tup [.int (i : Int), .ref tas[i]]) := upd_same
      generalize upd H2 T0 (.tup [.int (i : Int), .ref tas[i]]) = H3 at hS3 hT3
      have hp3 : H3 tas[i] = some (.tup [.int (u : Int), .int (v : Int)]) := hS3 _ _ (hS2 _ _ hpe)
      have hD3 := hS3 _ _ hD2
      have hlf := frmN_len ts e.2 i
      refine ⟨T0, _, rfl, SqT.of hT3, rfl, _, _, rfl, _, _, rfl, rfl, rfl, ?_⟩
      refine ⟨_, rfl, _, _, _, .int (u : Int), rfl, rfl, SqT.of hp3, rfl, _, rfl, _, rfl, _, rfl, _, _, _, .int (x0 : Int), rfl, rfl, SqL.of (hS3 _ _ (hS2 _ _ hf1)), iv_back e1', _, _, _, .ref p0, rfl, rfl, SqL.of (hS3 _ _ (hS2 _ _ k1)), k2, _, _, _, .int (e.2 : Int), rfl, rfl, SqT.of (hS3 _ _ (hS2 _ _ k3)), rfl, rfl, _, rfl, ?_⟩
      by_cases c : u = e.2
      · have e3 : frmN ts e.2 (i + 1) = frmN ts e.2 i ++ [i] := if_pos (by rw [he', c]; rfl)
        refine iteYes (by rw [c]) ⟨_, rfl, _, hD3, ?_, same_upd (hS2.trans hS3) nD, ?_⟩
        · rw [List.length_map]
          exact Nat.lt_of_lt_of_le (by omega : (frmN ts e.2 i).length < 1000) (by decide)
        · rw [upd_same, e3, iv_app]
      · have e3 : frmN ts e.2 (i + 1) = frmN ts e.2 i := if_neg (by rw [he']; intro z; exact c (by simpa using z))
        refine iteNo (fun z => c (by have := int_eq.mp z; omega)) ⟨hS2.trans hS3, ?_⟩
        rw [e3]
        exact hD3
    rintro H2 ⟨hS2, hD2⟩
    rw [List.length_map, paired_len hP1] at hD2
    have hf2 := hS2 _ _ hf1
    have hgf := goes_frm hgo (ho.ok e (List.mem_of_getElem? e2)).2
    have hlf := frmN_len ts e.2 ts.length
    have hDa : D ≠ a := hp1.ne nD
    refine ⟨_, rfl, .inl ⟨rfl, _, SqL.of hf2⟩, _, rfl, _, rfl, _, rfl, D, _, rfl, .inl (SqL.of hD2), a, (frm ts e.2).length, by rw [List.length_map]; rfl, hp1.same hS2, hgf, Nat.le_trans hlf (by omega), fun dd H3 hdd hk3 hp3 => ?_⟩
    obtain ⟨y, hyj⟩ : ∃ y, (frm ts e.2)[dd]? = some y := ⟨_, List.getElem?_eq_getElem hdd⟩
    have hy := List.mem_of_getElem? hyj
    refine ⟨_, _, _, .int (y : Int), rfl, rfl, SqL.of (hk3 _ _ hD2 hDa), iv_at hyj, ?_⟩
    have hf3 := hk3 _ _ hf2 hfa
    refine ⟨f, _, _, rfl, rfl, hf3, by rw [List.length_map]; exact Nat.lt_of_lt_of_le (by omega : R.length < 1000) (by decide), ?_⟩
    refine ⟨m - (R ++ [y]).length, by rw [List.length_append, List.length_singleton]; omega, R ++ [y], _, rfl, hc.snoc e1' e2' hy, by rw [List.length_append, List.length_singleton]; omega, rfl, ((hk1.trans (Same.kept hS2)).trans hk3).put nfH, hp3.put hfa, ?_⟩
    rw [upd_same, iv_app]
  · have c2 : ¬ (R.length : Int) < (m : Int) := of_decide_eq_false (Bool.eq_false_iff.mpr c1)
    exact ⟨_, rfl, q f R H1 hc (by omega) hk1 hp1 nfH hf1⟩
end
end My
namespace My
open PySem L2 PyProof.Rows
section
variable {P : Program} {w : World} {K : PySem.W.Frag} {mg : Str → Option Value} {base : Heap} {C : Addr}
def sp_law_times (_ : PySem.W.Frag) (_ : Addr) : Sp := fun vs H Q _ => ∃ t s R W, vs = [.ref t, .ref s] ∧ H t = some (.lst (iv R)) ∧ H s = some (.lst (iv W)) ∧ 0 < R.length ∧ R.length ≤ 400 ∧ W.length ≤ 400 ∧ ∀ H', Same H H' → Q (.int ((due R W).length : Int)) H'
theorem ok_law_times (D : Def K mg "_law_times" s_law_times ["_law_tour_here", "_law_walk_here"]) (B : Bs mg) (Glb : Glo mg) (WK : WebK K mg C) :
    Good P w K mg base "_law_times" s_law_times ["_law_tour_here", "_law_walk_here"] 1 (sp_law_times K C) := by
  refine D.good fun f fd F => ?_
  refine F.ok sc_law_times (fun vs H Q E h => ?_) (fun cdv A outer s H vs Q E hr h => ?_)
  · obtain ⟨t, s, R, W, rfl, ht, hs, h0, hR, hW, q⟩ := h
    first | rfl | (rcases h with ⟨_, _, rfl, _⟩ | ⟨_, rfl, _⟩ <;> rfl)
  obtain ⟨t, s, R, W, rfl, ht, hs, h0, hR, hW, q⟩ := h
  refine ⟨_, (pss_cons (ps_set (i := 2) sc_law_times.nd rfl (by first | exact Or.inl rfl | exact Or.inr rfl) pe_int)
  (pss_cons (ps_for PassesOwn.never rfl (pi_range1 (by rfl) B.range (pa_cons (pe_callB call_len_seq (by rfl) B.len (by decide +kernel) (pa_cons (pv 0) pa_nil)) pa_nil)) (pg_name (i := 3) sc_law_times.nd rfl (by first | exact Or.inl rfl | exact Or.inr rfl))
    (pss_cons (ps_setLc (i := 4) (own := [("_law_at", 5), ("_law_tie", 6)]) (g := gTup K 2 (gCons (gName 5) (gCons (gName 6) gNil))) (by rfl) sc_law_times.nd rfl rfl (sw_true rfl rfl rfl (by decide +kernel)) (pi_enum (by rfl) B.enumerate (pa_cons (pv 1) pa_nil)) (blkOk_by (own := [("_law_at", 5), ("_law_tie", 6)]) (N := ["_law_tour_here", "_law_walk_here", "_law_found", "_law_begin", "_law_bad", "_law_at", "_law_tie"]) (sc := defScope s_law_times) (by decide +kernel)) (fun _ _ _ _ _ => (pg_tup rfl (pgs_cons (pg_name (i := 5) sc_law_times.nd rfl (by first | exact Or.inl rfl | exact Or.inr rfl)) (pgs_cons (pg_name (i := 6) sc_law_times.nd rfl (by first | exact Or.inl rfl | exact Or.inr rfl)) pgs_nil)))) (fun _ _ _ _ _ => (pts_one (pt_cmpR op_ne (pe_ix (ix_listK (K := K) rfl) (pv 0) (pe_op op_mod (pe_op op_add (pv 3) (pv 5)) (pe_callB (call_len_seqK (K := K) rfl) (by rfl) B.len (by decide +kernel) (pa_cons (pv 0) pa_nil))) (by exact fun _ _ => rfl)) (pv 6) (nomark _)))) (fun _ _ _ _ _ => (pv 5)))
  (pss_one (ps_set (i := 2) sc_law_times.nd rfl (by first | exact Or.inl rfl | exact Or.inr rfl) (pe_op op_add (pv 2) (pe_callTy call_int1 (by rfl) B.int (by decide +kernel) (pa_cons (pe_cmpR (op_eqD hr.units) (pv 4) (pe_lst pa_nil) (nomark _)) pa_nil)))))))
  (pss_one (ps_ret (pv 2))))), ?_⟩
  refine ⟨_, rfl, t, _, rfl, .inl (SqL.of ht), _, rfl, by omega, by rw [List.length_map]; omega, ?_⟩
  rw [List.length_map, show ((R.length : Nat) : Int).toNat = R.length by omega]
  refine for_range (lo := 0) (n := R.length) (fun i σ H' => Same H H' ∧ ∃ v3 v4 : Option V, σ = [some (.ref t), some (.ref s), some (.int ((dueTo R W i).length : Int)), v3, v4, none, none]) ⟨Same.refl _, none, none, rfl⟩ ?_ ?_
  · rintro i σ H1 hi ⟨hS1, v3, v4, rfl⟩
    rw [Int.zero_add]
    refine ⟨_, rfl, s, _, rfl, SqL.of (hS1 _ _ hs), fun D nD => ?_⟩
    refine lc_it (walk_enum (K := K) (a := s) (xs := iv W)) (fun j H' => ∃ A : List Nat, Same H1 H' ∧ H' D = some (.lst (iv A)) ∧ A.length ≤ j ∧ (A = [] ↔ ∀ k, k < j → W[k]? = some (R.getD ((i + k) % R.length) 0))) ⟨[], same_new nD _, upd_same, Nat.le_refl _, by simp⟩ (fun j H' _ ⟨_, hS', _⟩ => SqL.of (hS' _ _ (hS1 _ _ hs))) ?_ ?_
    · rintro j y H2 H3 hj ⟨A, hS2, hD2, hAl, hA⟩ ⟨T0, x1, x2, rfl, nT0, rfl, e1, e2⟩
      cases e1
      rw [List.length_map] at hj
      replace e2 : (iv W)[j]? = some x2 := e2
      rw [List.getElem?_map, List.getElem?_eq_getElem hj] at e2
      cases e2
      have hS3 := hS2.trans (same_new nT0 (.tup [.int (j : Int), .int (W[j] : Int)]))
      have hD3 := same_new nT0 (.tup [.int (j : Int), .int (W[j] : Int)]) _ _ hD2
      have ht3 := hS3 _ _ (hS1 _ _ ht)
      have em : ((i : Int) + (j : Int)) % (((iv R).length : Nat) : Int) = (((i + j) % R.length : Nat) : Int) := by rw [List.length_map]; rfl
      refine ⟨T0, _, rfl, SqT.of upd_same, rfl, _, _, rfl, _, _, rfl, rfl, rfl, ?_⟩
      have e0 := getD_lt (l := R) (i := (i + j) % R.length) (Nat.mod_lt _ h0)
      refine ⟨_, rfl, _, rfl, _, rfl, _, _, rfl, rfl, _, rfl, t, _, rfl, .inl (SqL.of ht3), _, _, rfl, rfl, (by rw [List.length_map]; omega), _, _, _, .int ((R.getD ((i + j) % R.length) 0 : Nat) : Int), rfl, rfl, SqL.of ht3, (by rw [em]; exact iv_at e0), _, rfl, rfl, _, rfl, ?_⟩
      have ew : W[j]? = some W[j] := List.getElem?_eq_getElem hj
      by_cases c : R.getD ((i + j) % R.length) 0 = W[j]
      · refine iteNot' (by rw [c]) ⟨A, hS3, hD3, by omega, ?_⟩
        rw [hA]
        constructor
        · intro h k hk
          by_cases z : k = j
          · subst z
            rw [ew, c]
          · exact h k (by omega)
        · exact fun h k hk => h k (by omega)
      · refine iteNot (fun z => c (by have := int_eq.mp z; omega)) ⟨_, rfl, _, hD3, ?_, A ++ [j], same_upd hS3 nD, by rw [upd_same, iv_app], by rw [List.length_append, List.length_singleton]; omega, ?_⟩
        · rw [List.length_map]
          exact Nat.lt_of_lt_of_le (by omega : A.length < 1000) (by decide)
        · constructor
          · intro h
            simp at h
          · intro h
            have := h j (by omega)
            rw [ew] at this
            exact absurd (Option.some.inj this).symm c
    rintro H2 ⟨A, hS2, hD2, hAl, hA⟩
    rw [List.length_map] at hA
    refine ⟨_, rfl, _, rfl, Nat.zero_le _, fun z nz => ⟨_, _, dp_iz (L := A.map fun n : Nat => (n : Int)) (by rw [← iv_iz]; exact same_new nz _ _ _ hD2), dp_iz (L := []) upd_same, shaped_iz _, shaped_iz _, ?_⟩⟩
    rw [eqv_empty]
    have hcond : A = [] ↔ rd R i W.length = W := by
      rw [hA]
      constructor
      · intro h
        refine List.ext_getElem? fun k => ?_
        by_cases c : k < W.length
        · rw [rd_get _ _ _ _ c, h k c]
        · rw [List.getElem?_eq_none (by rw [rd_len]; omega), List.getElem?_eq_none (by omega)]
      · intro h k hk
        have := rd_get R i W.length k hk
        rw [h] at this
        exact this
    have hSz := (hS1.trans hS2).trans (same_new nz (.lst []))
    by_cases c : A = []
    · refine .inr ⟨_, rfl, _, _, rfl, rfl, hSz, some (.int (i : Int)), some (.ref D), ?_⟩
      rw [dueTo_succ_yes (hcond.mp c), c]
      simp
    · refine .inr ⟨_, rfl, _, _, rfl, rfl, hSz, some (.int (i : Int)), some (.ref D), ?_⟩
      rw [dueTo_succ_no (fun z => c (hcond.mpr z))]
      simp [c]
  · rintro σ H1 ⟨hS1, v3, v4, rfl⟩
    exact ⟨_, rfl, q _ hS1⟩
end
end My
namespace My
open PySem L2 PyProof.Rows
/-! ### levels: how far it is home -/
def DL (kvs : List (Key × V)) (f : Nat → Option Nat) : Prop := ∀ n : Nat, valV kvs (Sum.inl (n : Int) : Key) = (f n).map fun x => V.int (x : Int)
def fset (f : Nat → Option Nat) (u m : Nat) : Nat → Option Nat := fun p => if p = u then some m else f p
theorem DL.put {kvs : List (Key × V)} {f : Nat → Option Nat} (h : DL kvs f) (u m : Nat) : DL (putK kvs (Sum.inl (u : Int) : Key) (.int (m : Int))) (fset f u m) := by
  intro n
  rw [valV_put]
  unfold fset
  by_cases c : n = u
  · rw [if_pos c, if_pos (by rw [c])]
    rfl
  · rw [if_neg c, if_neg (fun z => c (by have := Sum.inl.inj z; omega))]
    exact h n
theorem DL.one (s : Nat) : DL [((Sum.inl (s : Int) : Key), V.int 0)] (fset (fun _ => none) s 0) := by
  intro n
  unfold fset
  by_cases c : n = s
  · rw [if_pos c, valV_pos (by rw [c])]
    rfl
  · rw [if_neg c, valV_neg (fun z => c (by have := Sum.inl.inj z; omega))]
    rfl
structure Lvs (ts : List (Nat × Nat)) (s : Nat) (f : Nat → Option Nat) (b : Nat) : Prop where
  st : f s = some 0
  up : ∀ p x, f p = some x → p ≠ s → ∃ q y, (p, q) ∈ ts ∧ f q = some y ∧ y < x
  bd : ∀ p x, f p = some x → x ≤ b
theorem Lvs.start (ts : List (Nat × Nat)) (s : Nat) : Lvs ts s (fset (fun _ => none) s 0) 0 := by
  refine ⟨if_pos rfl, fun p x h hp => ?_, fun p x h => ?_⟩
  · unfold fset at h
    rw [if_neg hp] at h
    cases h
  · unfold fset at h
    split at h
    · cases h; omega
    · cases h
theorem Lvs.mono {ts : List (Nat × Nat)} {s b c : Nat} {f : Nat → Option Nat} (h : Lvs ts s f b) (hb : b ≤ c) : Lvs ts s f c := ⟨h.st, h.up, fun p x e => Nat.le_trans (h.bd p x e) hb⟩
theorem Lvs.step {ts : List (Nat × Nat)} {s b u v y : Nat} {f : Nat → Option Nat} (h : Lvs ts s f b) (e : (u, v) ∈ ts) (hv : f v = some y) (hb : b < 99) : Lvs ts s (fset f u (min ((f u).getD 99) (y + 1))) (b + 1) := by
  have hy := h.bd v y hv
  have big : ∀ x, f u = some x → min ((f u).getD 99) (y + 1) ≤ x := fun x hx => by rw [hx]; exact Nat.min_le_left _ _
  -- what was told is told no greater
  have mon : ∀ q z, f q = some z → ∃ z', fset f u (min ((f u).getD 99) (y + 1)) q = some z' ∧ z' ≤ z := fun q z hq => by
    unfold fset
    by_cases c : q = u
    · rw [if_pos c]
      subst c
      exact ⟨_, rfl, big z hq⟩
    · rw [if_neg c]
      exact ⟨z, hq, Nat.le_refl _⟩
  refine ⟨?_, fun p x hp hps => ?_, fun p x hp => ?_⟩
  · obtain ⟨z, h1, h2⟩ := mon s 0 h.st
    rw [h1]
    congr 1
    omega
  · have old : ∀ x', f p = some x' → x' ≤ x → ∃ q y', (p, q) ∈ ts ∧ fset f u (min ((f u).getD 99) (y + 1)) q = some y' ∧ y' < x := fun x' hx hle => by
      obtain ⟨q, y', h1, h2, h3⟩ := h.up p x' hx hps
      obtain ⟨z, h4, h5⟩ := mon q y' h2
      exact ⟨q, z, h1, h4, by omega⟩
    by_cases c : p = u
    · subst c
      have hm : x = min ((f p).getD 99) (y + 1) := by
        unfold fset at hp
        rw [if_pos rfl] at hp
        exact (Option.some.inj hp).symm
      rcases Option.eq_none_or_eq_some (f p) with ef | ⟨x0, ef⟩
      · rw [ef] at hm
        obtain ⟨z, h4, h5⟩ := mon v y hv
        refine ⟨v, z, e, h4, ?_⟩
        have : (none : Option Nat).getD 99 = 99 := rfl
        omega
      · rw [ef] at hm
        have : (some x0).getD 99 = x0 := rfl
        rw [this] at hm
        by_cases k : x0 ≤ y + 1
        · exact old x0 ef (by omega)
        · obtain ⟨z, h4, h5⟩ := mon v y hv
          exact ⟨v, z, e, h4, by omega⟩
    · have hx : f p = some x := by
        unfold fset at hp
        rw [if_neg c] at hp
        exact hp
      exact old x hx (Nat.le_refl _)
  · unfold fset at hp
    split at hp
    · have := Option.some.inj hp
      omega
    · have := h.bd p x hp
      omega
theorem putK_lenT (kvs : List (Key × V)) (k : Key) (x : V) : (putK kvs k x).length ≤ kvs.length + 1 := by
  unfold putK
  split <;> simp
theorem fset_here {f : Nat → Option Nat} {u m : Nat} : fset f u m u ≠ none := by
  unfold fset
  rw [if_pos rfl]
  intro z
  cases z
theorem fset_keeps {f : Nat → Option Nat} {u m p : Nat} (h : f p ≠ none) : fset f u m p ≠ none := by
  unfold fset
  split
  · intro z; cases z
  · exact h
/-- the places that are k steps ahead of the j-th one in a ring -/
theorem ring_back {N : Nat} {ts : List (Nat × Nat)} {ord : List Nat} (hl : ord.length = N) (h : ∀ e ∈ ringOf ord N, e ∈ ts) {j k : Nat} (hN : 0 < N) (hk : k < N) : (ord.getD ((j + N - (k + 1)) % N) 0, ord.getD ((j + N - k) % N) 0) ∈ ts := by
  refine h _ (List.mem_map.mpr ⟨(j + N - (k + 1)) % N, List.mem_range.mpr (Nat.mod_lt _ hN), ?_⟩)
  rw [hl]
  have : ((j + N - (k + 1)) % N + 1) % N = (j + N - k) % N := by
    rw [Nat.mod_add_mod]
    congr 1
    omega
  rw [this]
theorem ring_all {N : Nat} {ord : List Nat} (hp : ord.Perm (List.range N)) {j : Nat} (hj : j < N) {D : Nat → Prop} (h : ∀ k, k ≤ N → D (ord.getD ((j + N - k) % N) 0)) {p : Nat} (hpN : p < N) : D p := by
  have hl : ord.length = N := by rw [hp.length_eq, List.length_range]
  have hm : p ∈ ord := hp.mem_iff.mpr (List.mem_range.mpr hpN)
  obtain ⟨i, hi⟩ := List.getElem?_of_mem hm
  have hil := (List.getElem?_eq_some_iff.mp hi).1
  have ep : ord.getD i 0 = p := by rw [List.getD_eq_getElem?_getD, hi]; rfl
  rw [← ep]
  by_cases c : i ≤ j
  · have := h (j - i) (by omega)
    rw [show j + N - (j - i) = i + N by omega, Nat.add_mod_right, Nat.mod_eq_of_lt (by omega)] at this
    exact this
  · have := h (j + N - i) (by omega)
    rw [show j + N - (j + N - i) = i by omega, Nat.mod_eq_of_lt (by omega)] at this
    exact this
section
variable {P : Program} {w : World} {K : PySem.W.Frag} {mg : Str → Option Value} {base : Heap} {C : Addr}
def sp_law_tour (_ : PySem.W.Frag) (_ : Addr) : Sp := fun vs H Q _ => ∃ a l N ts, vs = [.ref a, .int ((N : Nat) : Int), .ref l] ∧ PotAt H a ∧ l ≠ a ∧ TiesAt H l ts ∧ OkWeb N ts ∧ Goes N ts ∧ Rnd N ts ∧ N ≤ 4 ∧ ts.length ≤ 8 ∧ ∀ f R H', Tour ts R → R.length ≤ 60 → Kept a H H' → PotAt H' a → H f = none → H' f = some (.lst (iv R)) → Q (.ref f) H'
theorem ok_law_tour (D : Def K mg "_law_tour" s_law_tour ["_law_pot_here", "_law_places", "_law_ties"]) (B : Bs mg) (Glb : Glo mg) (WK : WebK K mg C)
    (h_law_walk : Good P w K mg base "_law_walk" s_law_walk ["_law_pot_here", "_law_ties", "_law_many"] 2 (sp_law_walk K C))
    (h_law_draw : Good P w K mg base "_law_draw" s_law_draw ["_law_pot_here", "_law_many"] 1 (sp_law_draw K C)) :
    Good P w K mg base "_law_tour" s_law_tour ["_law_pot_here", "_law_places", "_law_ties"] 3 (sp_law_tour K C) := by
  refine D.good fun f fd F => ?_
  obtain ⟨f_law_walk, d_law_walk, O_law_walk, m_law_walk, k_law_walk, b_law_walk, F_law_walk⟩ := h_law_walk
  obtain ⟨f_law_draw, d_law_draw, O_law_draw, m_law_draw, k_law_draw, b_law_draw, F_law_draw⟩ := h_law_draw
  refine F.ok sc_law_tour (fun vs H Q E h => ?_) (fun cdv A outer s H vs Q E hr h => ?_)
  · obtain ⟨a, l, N, ts, rfl, hp, hla, hT, ho, hgo, hrn, hN4, hm8, q⟩ := h
    first | rfl | (rcases h with ⟨_, _, rfl, _⟩ | ⟨_, rfl, _⟩ <;> rfl)
  obtain ⟨a, l, N, ts, rfl, hp, hla, hT, ho, hgo, hrn, hN4, hm8, q⟩ := h
  refine ⟨_, (pss_cons (ps_set (i := 3) sc_law_tour.nd rfl (by first | exact Or.inl rfl | exact Or.inr rfl) (pe_call O_law_walk hr rfl m_law_walk k_law_walk b_law_walk .nil pass0 (pa_cons (pv 0) (pa_cons (pv 2) (pa_cons (pe_op op_add pe_int (pe_call O_law_draw (hr.mono (by decide)) rfl m_law_draw k_law_draw b_law_draw .nil pass0 (pa_cons (pv 0) (pa_cons pe_int pa_nil)))) pa_nil)))))
  (pss_cons (ps_set (i := 4) sc_law_tour.nd rfl (by first | exact Or.inl rfl | exact Or.inr rfl) (pe_disp (pps_cons (pe_ix ix_tup (pe_ix ix_list (pv 2) (pe_ix ix_list (pv 3) pe_int (fun _ _ => rfl)) (fun _ _ => rfl)) pe_int (fun _ _ => rfl)) pe_int pps_nil) (by rfl) (by rfl) (fun z => by cases z) (by decide)))
  (pss_cons (ps_for PassesOwn.never rfl (pi_range1 (by rfl) B.range (pa_cons (pv 1) pa_nil)) (pg_name (i := 5) sc_law_tour.nd rfl (by first | exact Or.inl rfl | exact Or.inr rfl))
    (pss_one (ps_for PassesOwn.never rfl (pi_list (pv 2)) (pg_tup rfl (pgs_cons (pg_name (i := 6) sc_law_tour.nd rfl (by first | exact Or.inl rfl | exact Or.inr rfl)) (pgs_cons (pg_name (i := 7) sc_law_tour.nd rfl (by first | exact Or.inl rfl | exact Or.inr rfl)) pgs_nil)))
    (pss_one (ps_if (pt_cmp (pc_din (hu_of hr) (pv 7) (pv 4)))
    (pss_one (ps_dput (hu_of hr) (pv 4) (pv 6) (pe_callB (call_min2 rfl) (by rfl) B.min (by decide +kernel) (pa_cons (pe_dget2 (hu_of hr) (pv 4) (pv 6) pe_int ⟨rfl, rfl, rfl, rfl⟩) (pa_cons (pe_op op_add (pe_dget (hu_of hr) (pv 4) (pv 7) (fun _ _ => rfl)) pe_int) pa_nil))) rfl)) pss_nil)))))
  (pss_cons (ps_while PassesOwn.never (pt_cmpR op_ne (pe_ix ix_tup (pe_ix ix_list (pv 2) (pe_ix ix_list (pv 3) (pe_un un_neg pe_int) (fun _ _ => rfl)) (fun _ _ => rfl)) pe_int (fun _ _ => rfl)) (pe_ix ix_tup (pe_ix ix_list (pv 2) (pe_ix ix_list (pv 3) pe_int (fun _ _ => rfl)) (fun _ _ => rfl)) pe_int (fun _ _ => rfl)) (nomark _))
    (pss_cons (ps_set (i := 8) sc_law_tour.nd rfl (by first | exact Or.inl rfl | exact Or.inr rfl) (pe_ix ix_tup (pe_ix ix_list (pv 2) (pe_ix ix_list (pv 3) (pe_un un_neg pe_int) (fun _ _ => rfl)) (fun _ _ => rfl)) pe_int (fun _ _ => rfl)))
  (pss_cons (ps_setLc (i := 9) (own := [("_law_at", 10), ("_law_tie", 11)]) (g := gTup K 2 (gCons (gName 10) (gCons (gName 11) gNil))) (by rfl) sc_law_tour.nd rfl rfl (sw_true rfl rfl rfl (by decide +kernel)) (pi_enum (by rfl) B.enumerate (pa_cons (pv 2) pa_nil)) (blkOk_by (own := [("_law_at", 10), ("_law_tie", 11)]) (N := ["_law_pot_here", "_law_places", "_law_ties", "_law_found", "_law_levels", "_law_turn", "_law_near", "_law_far", "_law_here", "_law_best", "_law_at", "_law_tie"]) (sc := defScope s_law_tour) (by decide +kernel)) (fun _ _ _ _ _ => (pg_tup rfl (pgs_cons (pg_name (i := 10) sc_law_tour.nd rfl (by first | exact Or.inl rfl | exact Or.inr rfl)) (pgs_cons (pg_name (i := 11) sc_law_tour.nd rfl (by first | exact Or.inl rfl | exact Or.inr rfl)) pgs_nil)))) (fun _ _ _ _ _ => (pts_one (PW.pt (pw_and (pt_cmpR op_eq (pe_ix (ix_tupK (K := K) rfl) (pv 11) pe_int (by exact fun _ _ => rfl)) (pv 8) (nomark _)) (pw_and1 (pt_cmpR op_lt (pe_dget (hu_of hr) (pv 4) (pe_ix (ix_tupK (K := K) rfl) (pv 11) pe_int (by exact fun _ _ => rfl)) (by exact fun _ _ => rfl)) (pe_dget (hu_of hr) (pv 4) (pv 8) (by exact fun _ _ => rfl)) (nomark _))))))) (fun _ _ _ _ _ => (pv 10)))
  (pss_one (ps_expr (pe_bm PySem.F.plainAttrs_list PySem.F.slot_list_append PySem.F.type_list_append mt_append (pv 3) (pa_cons (pe_ix ix_list (pv 9) pe_int (fun _ _ => rfl)) pa_nil)))))))
  (pss_one (ps_ret (pv 3))))))), ?_⟩
  refine ⟨_, rfl, _, rfl, _, rfl, a, 9, rfl, hp, by decide, by decide, fun d H0 hd hk0 hp0 => ⟨_, _, rfl, rfl, ?_⟩⟩
  refine ⟨a, l, N, ts, 1 + d, by congr 3, hp0, hla, hT.kept hk0 hp hla, ho, hgo, by omega, by omega, fun f R0 H1 hc0 hR0 hk1 hpF0 nf1 hf1 => ?_⟩
  have hfa : f ≠ a := hp0.ne nf1
  obtain ⟨x0, e0, z1, z2⟩ := hc0.first
  have hT1 := (hT.kept hk0 hp hla).kept hk1 hp0 hla
  refine fun lv nlv => ?_
  obtain ⟨xs, p, k1, k2, k3⟩ := (hT1.new (o := .dK []) nlv).at_ z2
  refine ⟨_, rfl, _, rfl, _, _, _, .int (x0 : Int), rfl, rfl, SqL.of (same_new nlv _ _ _ hf1), iv_at (j := 0) z1, _, _, _, .ref p, rfl, rfl, SqL.of k1, k2, _, _, _, .int (e0.1 : Int), rfl, rfl, SqT.of k3, rfl, upd_same, [((Sum.inl (e0.1 : Int) : Key), V.int 0)], rfl, (by show 1 ≤ 15; decide), ?_⟩
  have hm1 : mergeK [] [((Sum.inl (e0.1 : Int) : Key), V.int 0)] = [((Sum.inl (e0.1 : Int) : Key), V.int 0)] := rfl
  rw [hm1, upd_upd]
  have hS2 := same_new nlv (.dK [((Sum.inl (e0.1 : Int) : Key), V.int 0)])
  have hd2 : upd H1 lv (.dK [((Sum.inl (e0.1 : Int) : Key), V.int 0)]) lv = some (.dK [((Sum.inl (e0.1 : Int) : Key), V.int 0)]) := upd_same
  generalize upd H1 lv (.dK [((Sum.inl (e0.1 : Int) : Key), V.int 0)]) = H2 at hS2 hd2
  have hT2 := hT1.same hS2
  obtain ⟨tas, hl2, hP2⟩ := id hT2
  have hll : l ≠ lv := ne_of hl2 hd2 (by intro q; cases q)
  have hN0 := ho.n0
  obtain ⟨ord, ho1, ho2⟩ := hrn
  have hol : ord.length = N := by rw [ho1.length_eq, List.length_range]
  have he0 := (ho.ok e0 (List.mem_of_getElem? z2)).1
  obtain ⟨j0, hj0⟩ := List.getElem?_of_mem (ho1.mem_iff.mpr (List.mem_range.mpr he0))
  have hj0l := (List.getElem?_eq_some_iff.mp hj0).1
  refine ⟨_, rfl, _, rfl, by omega, by omega, ?_⟩
  rw [show ((N : Nat) : Int).toNat = N by omega]
  refine for_range (lo := 0) (n := N) (fun t σ H' => ∃ (kvs : List (Key × V)) (g : Nat → Option Nat) (v5 v6 v7 : Option V), σ = [some (.ref a), some (.int (N : Int)), some (.ref l), some (.ref f), some (.ref lv), v5, v6, v7, none, none, none, none] ∧ DL kvs g ∧ Lvs ts e0.1 g (8 * t) ∧ kvs.length ≤ 1 + 8 * t ∧ (∀ k, k ≤ t → g (ord.getD ((j0 + N - k) % N) 0) ≠ none) ∧ Kept lv H2 H' ∧ H' lv = some (.dK kvs)) ⟨_, _, none, none, none, rfl, DL.one e0.1, Lvs.start ts e0.1, Nat.le_refl _, ?_, fun _ _ e _ => e, hd2⟩ ?_ ?_
  · intro k hk
    have : k = 0 := by omega
    subst this
    rw [show j0 + N - 0 = j0 + N by omega, Nat.add_mod_right, Nat.mod_eq_of_lt (by omega), List.getD_eq_getElem?_getD, hj0]
    show fset _ e0.1 0 e0.1 ≠ none
    rw [fset, if_pos rfl]
    intro z
    cases z
  · rintro t σ H3 ht ⟨kvs0, g0, v5, v6, v7, rfl, hD0, hL0, hkl0, hcov, hk3, hd3⟩
    refine ⟨_, rfl, l, rfl, ⟨_, SqL.of (hk3 _ _ hl2 hll)⟩, ?_⟩
    refine for_list (K := K) (a := l) (xs := tas.map V.ref) (fun i σ H' => ∃ (kvs : List (Key × V)) (g : Nat → Option Nat) (v6 v7 : Option V), σ = [some (.ref a), some (.int (N : Int)), some (.ref l), some (.ref f), some (.ref lv), some (.int (0 + (t : Int))), v6, v7, none, none, none, none] ∧ DL kvs g ∧ Lvs ts e0.1 g (8 * t + i) ∧ kvs.length ≤ 1 + 8 * t + i ∧ (∀ p, g0 p ≠ none → g p ≠ none) ∧ (∀ j, j < i → ∀ u v, ts[j]? = some (u, v) → g0 v ≠ none → g u ≠ none) ∧ Kept lv H2 H' ∧ H' lv = some (.dK kvs)) ⟨kvs0, g0, _, _, rfl, hD0, hL0, hkl0, fun _ h => h, fun j hj => by omega, hk3, hd3⟩ (fun i σ H' _ ⟨_, _, _, _, _, _, _, _, _, _, hk, _⟩ => SqL.of (hk _ _ hl2 hll)) ?_ ?_
    · rintro i x σ H4 hx ⟨kvs, g, v6, v7, rfl, hD, hL, hkl, hmon, hdone, hk4, hd4⟩
      obtain ⟨pt, hpt, rfl⟩ : ∃ p, tas[i]? = some p ∧ x = V.ref p := by
        rw [List.getElem?_map] at hx
        cases e : tas[i]? with
        | none => rw [e] at hx; cases hx
        | some p => rw [e] at hx; exact ⟨p, rfl, (Option.some.inj hx).symm⟩
      obtain ⟨⟨u, v⟩, he, hpe⟩ := paired_get hP2 hpt
      have hil := (List.getElem?_eq_some_iff.mp he).1
      have hpl : pt ≠ lv := ne_of hpe hd2 (by intro q; cases q)
      have hp4 : H4 pt = some (.tup [.int (u : Int), .int (v : Int)]) := hk4 _ _ hpe hpl
      refine ⟨pt, _, rfl, SqT.of hp4, rfl, _, _, rfl, _, _, rfl, rfl, ?_⟩
      refine ⟨_, rfl, _, rfl, lv, (g v).map fun x => V.int (x : Int), rfl, ?_, ?_⟩
      · exact .inl ⟨kvs, Sum.inl (v : Int), .inl hd4, rfl, (hD v).symm⟩
      cases eg : g v with
      | none =>
        refine ⟨_, rfl, iteF ⟨kvs, g, _, _, rfl, hD, hL.mono (by omega), by omega, hmon, fun j hj u' v' e hv' => ?_, hk4, hd4⟩⟩
        by_cases c : j = i
        · subst c
          rw [he] at e
          cases e
          exact absurd eg (hmon v hv')
        · exact hdone j (by omega) u' v' e hv'
      | some y =>
        refine ⟨_, rfl, iteT ?_⟩
        have hb : 8 * t + i < 99 := by omega
        have hmem : (u, v) ∈ ts := List.mem_of_getElem? he
        have key : ∃ m : Nat, m = min ((g u).getD 99) (y + 1) := ⟨_, rfl⟩
        obtain ⟨m, em⟩ := key
        refine ⟨_, rfl, lv, rfl, .inl ⟨_, .inl hd4⟩, _, rfl, (g u).map fun x => V.int (x : Int), .inl ⟨kvs, Sum.inl (u : Int), .inl hd4, rfl, (hD u).symm⟩, ?_⟩
        refine ⟨_, rfl, _, rfl, lv, .int (y : Int), rfl, .inl ⟨kvs, Sum.inl (v : Int), .inl hd4, rfl, by rw [hD v, eg]; rfl⟩, _, _, rfl, rfl, ?_⟩
        have eo : ((g u).map fun x => V.int (x : Int)).getD (.int 99) = V.int (((g u).getD 99 : Nat) : Int) := by cases g u <;> rfl
        rw [eo]
        refine ⟨_, _, rfl, ?_⟩
        have emi : (if (y : Int) + 1 < (((g u).getD 99 : Nat) : Int) then (y : Int) + 1 else (((g u).getD 99 : Nat) : Int)) = ((m : Nat) : Int) := by
          rw [em]
          split <;> omega
        rw [emi]
        refine ⟨_, rfl, _, rfl, lv, _, rfl, .inl ⟨kvs, Sum.inl (u : Int), hd4, rfl, Nat.lt_of_le_of_lt hkl (Nat.lt_of_lt_of_le (by omega : _ < 1000) (by decide)), rfl⟩, ?_⟩
        refine ⟨_, fset g u m, _, _, rfl, hD.put u m, ?_, ?_, fun p hp => fset_keeps (hmon p hp), fun j hj u' v' e hv' => ?_, fun b o e n => by rw [upd_ne n]; exact hk4 b o e n, upd_same⟩
        · rw [em, ← Nat.add_assoc]
          exact hL.step hmem eg hb
        · have := putK_lenT kvs (Sum.inl (u : Int)) (.int (m : Int))
          omega
        · by_cases c : j = i
          · subst c
            rw [he] at e
            cases e
            exact fset_here
          · exact fset_keeps (hdone j (by omega) u' v' e hv')
    · rintro σ H4 ⟨kvs, g, v6, v7, rfl, hD, hL, hkl, hmon, hdone, hk4, hd4⟩
      rw [List.length_map, paired_len hP2] at hL hkl hdone
      refine ⟨kvs, g, _, _, _, rfl, hD, hL.mono (by omega), by omega, fun k hk => ?_, hk4, hd4⟩
      by_cases c : k ≤ t
      · exact hmon _ (hcov k c)
      · have ek : k = t + 1 := by omega
        subst ek
        have hm := ring_back hol ho2 (j := j0) (k := t) (by omega) ht
        obtain ⟨j, hj⟩ := List.getElem?_of_mem hm
        exact hdone j (List.getElem?_eq_some_iff.mp hj).1 _ _ hj (hcov t (Nat.le_refl _))
  · rintro σ H3 ⟨kvs, g, v5, v6, v7, rfl, hD, hL, hkl, hcov, hk3, hd3⟩
    have hall : ∀ p, p < N → g p ≠ none := fun p hp => ring_all (D := fun p => g p ≠ none) ho1 (by omega) hcov hp
    have hfl : f ≠ lv := ne_of_none hf1 nlv
    have hf3 := hk3 _ _ (hS2 _ _ hf1) hfl
    have hl3 := hk3 _ _ hl2 hll
    have hP3 : ∀ (i : Nat) (e : Nat × Nat), ts[i]? = some e → ∃ p, tas[i]? = some p ∧ ∀ H', Kept f H3 H' → H' p = some (.tup [.int (e.1 : Int), .int (e.2 : Int)]) := fun i e he => by
      have hi := (List.getElem?_eq_some_iff.mp he).1
      have e1 : tas[i]? = some (tas[i]'(by rw [paired_len hP2]; exact hi)) := List.getElem?_eq_getElem _
      obtain ⟨e', he', hpe⟩ := paired_get hP2 e1
      rw [he] at he'
      cases he'
      refine ⟨_, e1, fun H' k => k _ _ (hk3 _ _ hpe (ne_of hpe hd2 (by intro q; cases q))) (ne_of hpe (hS2 _ _ hf1) (by intro q; cases q))⟩
    have hlf : l ≠ f := ne_of_none (hT.kept hk0 hp hla).get.choose_spec.1 nf1
    have hnone : ∀ (i : Nat) (p : Addr), tas[i]? = some p → (tas.map V.ref)[i]? = some (.ref p) := fun i p h => by rw [List.getElem?_map, h]; rfl
    have nfH : H f = none := hk0.free nf1 hfa
    have hKH : ∀ H', Kept f H3 H' → Kept a H H' ∧ (∀ x y, H1 a = some (.lst [.int x, .int y]) → H' a = some (.lst [.int x, .int y])) := fun H' k => by
      refine ⟨fun b o e n => ?_, fun x y e => ?_⟩
      · have h1 := hk1 b o (hk0 b o e n) n
        exact k _ _ (hk3 _ _ (hS2 _ _ h1) (ne_of_none h1 nlv)) (ne_of_none e nfH)
      · exact k _ _ (hk3 _ _ (hS2 _ _ e) (ne_of_none e nlv)) (fun z => hfa z.symm)
    let Pv : Nat → L2.St → Hp → Prop := fun m σ H' => ∃ (R : List Nat) (v8 v9 : Option V), σ = [some (.ref a), some (.int (N : Int)), some (.ref l), some (.ref f), some (.ref lv), v5, v6, v7, v8, v9, none, none] ∧ Chain ts R ∧ R[0]? = some x0 ∧ (∃ x e, R[R.length - 1]? = some x ∧ ts[x]? = some e ∧ g e.2 = some m) ∧ R.length + m ≤ 60 ∧ Kept f H3 H' ∧ H' f = some (.lst (iv R))
    obtain ⟨xl, el, l1, l2⟩ := hc0.last
    have hel := (ho.ok el (List.mem_of_getElem? l2)).2
    obtain ⟨m0, hm0⟩ : ∃ m0, g el.2 = some m0 := by
      cases e : g el.2 with
      | none => exact absurd e (hall _ hel)
      | some m0 => exact ⟨m0, rfl⟩
    have hm0b := hL.bd _ _ hm0
    refine ⟨Pv, ⟨m0, R0, none, none, rfl, hc0, z1, ⟨xl, el, l1, l2, hm0⟩, by omega, fun _ _ e _ => e, hf3⟩, ?_⟩
    rintro m σ H4 ⟨R, v8, v9, rfl, hc, hR0', ⟨x, e, e1, e2, e3⟩, hRm, hk4, hf4⟩
    have h0 := hc.n0
    obtain ⟨px, px1, px2⟩ := hP3 _ _ e2
    obtain ⟨p0, p01, p02⟩ := hP3 _ _ z2
    have hl4 := hk4 _ _ hl3 hlf
    have hd4 := hk4 _ _ hd3 (fun z => hfl z.symm)
    refine ⟨_, rfl, _, rfl, _, rfl, _, _, _, .int (x : Int), rfl, rfl, SqL.of hf4, iv_back e1, _, _, _, .ref px, rfl, rfl, SqL.of hl4, atI_nat (hnone _ _ px1), _, _, _, .int (e.2 : Int), rfl, rfl, SqT.of (px2 _ hk4), rfl, ?_⟩
    refine ⟨_, rfl, _, rfl, _, _, _, .int (x0 : Int), rfl, rfl, SqL.of hf4, iv_at (j := 0) hR0', _, _, _, .ref p0, rfl, rfl, SqL.of hl4, atI_nat (hnone _ _ p01), _, _, _, .int (e0.1 : Int), rfl, rfl, SqT.of (p02 _ hk4), rfl, rfl, _, rfl, ?_⟩
    by_cases c : e.2 = e0.1
    · refine iteNot' (by rw [c]) ?_
      obtain ⟨g1, g2⟩ := hKH _ hk4
      obtain ⟨y1, y2, g3, g4⟩ := hpF0
      exact ⟨_, rfl, q f R H4 ⟨hc, by omega, ⟨x0, x, e0, e, hR0', e1, z2, e2, c.symm⟩⟩ (by omega) g1 ⟨y1, y2, g2 _ _ g3, g4⟩ nfH hf4⟩
    refine iteNot (fun z => c (by have := int_eq.mp z; omega)) ?_
    refine ⟨fun σ' H' => ∃ m'', m'' < m ∧ Pv m'' σ' H', fun σ' H' h => h, ?_⟩
    refine ⟨_, rfl, _, rfl, _, rfl, _, _, _, .int (x : Int), rfl, rfl, SqL.of hf4, iv_back e1, _, _, _, .ref px, rfl, rfl, SqL.of hl4, atI_nat (hnone _ _ px1), _, _, _, .int (e.2 : Int), rfl, rfl, SqT.of (px2 _ hk4), rfl, ?_⟩
    refine ⟨_, rfl, l, _, rfl, SqL.of hl4, fun D nD => ?_⟩
    have hDf : D ≠ f := fun z => by rw [z, hf4] at nD; cases nD
    let Gd : Nat → Prop := fun y => ∃ v z, ts[y]? = some (e.2, v) ∧ g v = some z ∧ z < m
    refine lc_it (walk_enum (K := K) (a := l) (xs := tas.map V.ref)) (fun i H' => ∃ A : List Nat, Same H4 H' ∧ H' D = some (.lst (iv A)) ∧ A.length ≤ i ∧ (∀ y ∈ A, Gd y) ∧ ∀ y, y < i → Gd y → A ≠ []) ⟨[], same_new nD _, upd_same, Nat.le_refl _, fun y hy => by simp at hy, fun y hy => by omega⟩ (fun i H' _ ⟨_, hS', _⟩ => SqL.of (hS' _ _ hl4)) ?_ ?_
    · rintro i y H5 H6 hi ⟨A, hS5, hD5, hAl, hA1, hA2⟩ ⟨T0, x1, x2, rfl, nT0, rfl, q1, q2⟩
      cases q1
      rw [List.length_map, paired_len hP2] at hi
      obtain ⟨⟨u, v⟩, he⟩ : ∃ e, ts[i]? = some e := ⟨_, List.getElem?_eq_getElem hi⟩
      obtain ⟨pi, pi1, pi2⟩ := hP3 _ _ he
      replace q2 : (tas.map V.ref)[i]? = some x2 := q2
      rw [hnone _ _ pi1] at q2
      cases q2
      have hS6 := hS5.trans (same_new nT0 (.tup [.int (i : Int), .ref pi]))
      have hT6 : upd H5 T0 (.tup [.int (i : Int), .ref pi]) T0 = some (.tup [.int (i : Int), .ref pi]) := upd_same
      have hD6 := same_new nT0 (.tup [.int (i : Int), .ref pi]) _ _ hD5
      generalize upd H5 T0 (.tup [.int (i : Int), .ref pi]) = H6 at hS6 hT6 hD6
      have hp6 := hS6 _ _ (pi2 _ hk4)
      have hd6 := hS6 _ _ hd4
      obtain ⟨z, hz⟩ : ∃ z, g v = some z := by
        cases e : g v with
        | none => exact absurd e (hall _ (ho.ok _ (List.mem_of_getElem? he)).2)
        | some z => exact ⟨z, rfl⟩
      refine ⟨T0, _, rfl, SqT.of hT6, rfl, _, _, rfl, _, _, rfl, rfl, rfl, ?_⟩
      refine ⟨_, rfl, _, _, _, .int (u : Int), rfl, rfl, SqT.of hp6, rfl, _, rfl, rfl, _, rfl, ?_⟩
      have keep : ¬ (u = e.2 ∧ z < m) → ∃ A : List Nat, Same H4 H6 ∧ H6 D = some (.lst (iv A)) ∧ A.length ≤ i + 1 ∧ (∀ y ∈ A, Gd y) ∧ ∀ y, y < i + 1 → Gd y → A ≠ [] := fun hn => ⟨A, hS6, hD6, by omega, hA1, fun y hy hg => by
        by_cases c2 : y = i
        · obtain ⟨v', z', k1, k2, k3⟩ := hg
          rw [c2, he] at k1
          cases k1
          rw [hz] at k2
          cases k2
          exact absurd ⟨rfl, k3⟩ hn
        · exact hA2 y (by omega) hg⟩
      by_cases c1 : u = e.2
      · refine iteYes (by rw [c1]) ?_
        refine ⟨_, rfl, _, rfl, _, _, _, .int (v : Int), rfl, rfl, SqT.of hp6, rfl, lv, .int (z : Int), rfl, .inl ⟨kvs, Sum.inl (v : Int), .inl hd6, rfl, by rw [hD v, hz]; rfl⟩, _, rfl, _, rfl, lv, .int (m : Int), rfl, .inl ⟨kvs, Sum.inl (e.2 : Int), .inl hd6, rfl, by rw [hD e.2, e3]; rfl⟩, _, _, rfl, rfl, _, rfl, ?_⟩
        by_cases c2 : z < m
        · refine iteYes (by omega) ⟨_, rfl, _, hD6, ?_, A ++ [i], same_upd hS6 nD, by rw [upd_same, iv_app], by rw [List.length_append, List.length_singleton]; omega, fun y hy => ?_, fun y _ _ => by simp⟩
          · rw [List.length_map]
            exact Nat.lt_of_lt_of_le (by omega : A.length < 1000) (by decide)
          · rcases List.mem_append.mp hy with hy | hy
            · exact hA1 y hy
            · rw [List.mem_singleton.mp hy]
              exact ⟨v, z, by rw [he, c1], hz, c2⟩
        · exact iteNo (by omega) (keep (fun k => c2 k.2))
      · exact iteNo (fun z => c1 (by have := int_eq.mp z; omega)) (keep (fun k => c1 k.1))
    rintro H5 ⟨A, hS5, hD5, hAl, hA1, hA2⟩
    rw [List.length_map, paired_len hP2] at hA2
    obtain ⟨q', y', u1, u2, u3⟩ := hL.up e.2 m e3 c
    obtain ⟨iy, hiy⟩ := List.getElem?_of_mem u1
    have hne := hA2 iy (List.getElem?_eq_some_iff.mp hiy).1 ⟨q', y', hiy, u2, u3⟩
    obtain ⟨b, A', rfl⟩ : ∃ b A', A = b :: A' := by
      cases A with
      | nil => exact absurd rfl hne
      | cons b A' => exact ⟨b, A', rfl⟩
    obtain ⟨bv, bz, b1, b2, b3⟩ := hA1 b List.mem_cons_self
    have hf5 := hS5 _ _ hf4
    have hby : b ∈ frm ts e.2 := (frmN_mem ts e.2 b _).mpr ⟨(List.getElem?_eq_some_iff.mp b1).1, by rw [b1]; rfl⟩
    refine ⟨_, rfl, .inl ⟨rfl, _, SqL.of hf5⟩, _, rfl, _, _, _, .int (b : Int), rfl, rfl, SqL.of hD5, iv_at (j := 0) rfl, f, _, _, rfl, rfl, hf5, by rw [List.length_map]; exact Nat.lt_of_lt_of_le (by omega : R.length < 1000) (by decide), ?_⟩
    refine ⟨bz, b3, R ++ [b], _, _, rfl, hc.snoc e1 e2 hby, by rw [List.getElem?_append_left h0]; exact hR0', ⟨b, (e.2, bv), ?_, b1, b2⟩, by rw [List.length_append, List.length_singleton]; omega, fun w o k n => ?_, ?_⟩
    · rw [List.length_append, List.length_singleton, Nat.add_sub_cancel, List.getElem?_append_right (Nat.le_refl _), Nat.sub_self]
      rfl
    · rw [upd_ne n]
      exact hS5 _ _ (hk4 _ _ k n)
    · rw [upd_same, iv_app]
end
end My
namespace My
open PySem L2 PyProof.Rows
/-! ### rounds turned, rounds read twice -/
def rat (R : List Nat) (i : Nat) : Nat := R.getD (i % R.length) 0
theorem rat_at {R : List Nat} {k : Nat} (h : 0 < R.length) : R[k % R.length]? = some (rat R k) := getD_lt (Nat.mod_lt _ h)
theorem rat_lt {R : List Nat} {k : Nat} (h : k < R.length) : R[k]? = some (rat R k) := by
  rw [rat, Nat.mod_eq_of_lt h]
  exact getD_lt h
theorem Tour.all {ts : List (Nat × Nat)} {R : List Nat} (h : Tour ts R) (j : Nat) : ∃ e f, ts[rat R j]? = some e ∧ ts[rat R (j + 1)]? = some f ∧ f.1 = e.2 := by
  have h0 := h.ch.n0
  have hj := Nat.mod_lt j h0
  by_cases c : j % R.length + 1 < R.length
  · obtain ⟨x, y, e, f, e1, e2, e3, e4, e5⟩ := h.ch.on _ c
    refine ⟨e, f, ?_, ?_, e5⟩
    · rw [rat_at h0] at e1
      rw [Option.some.inj e1]
      exact e3
    · have z : (j + 1) % R.length = j % R.length + 1 := by
        rw [← Nat.mod_add_mod]
        exact Nat.mod_eq_of_lt c
      rw [← z, rat_at h0] at e2
      rw [Option.some.inj e2]
      exact e4
  · obtain ⟨x, y, e, f, e1, e2, e3, e4, e5⟩ := h.back
    have z1 : j % R.length = R.length - 1 := by omega
    refine ⟨f, e, ?_, ?_, e5⟩
    · rw [← z1, rat_at h0] at e2
      rw [Option.some.inj e2]
      exact e4
    · have z : (j + 1) % R.length = 0 := by
        rw [← Nat.mod_add_mod, z1, show R.length - 1 + 1 = R.length by omega]
        exact Nat.mod_self _
      rw [← z, rat_at h0] at e1
      rw [Option.some.inj e1]
      exact e3
theorem Tour.of {ts : List (Nat × Nat)} {R : List Nat} (h0 : 0 < R.length) (h1 : R.length ≤ 1000) (h : ∀ j, ∃ e f, ts[rat R j]? = some e ∧ ts[rat R (j + 1)]? = some f ∧ f.1 = e.2) : Tour ts R := by
  refine ⟨⟨h0, fun x hx => ?_, fun i hi => ?_⟩, h1, ?_⟩
  · obtain ⟨i, hi⟩ := List.getElem?_of_mem hx
    have hl := (List.getElem?_eq_some_iff.mp hi).1
    rw [rat_lt hl] at hi
    obtain ⟨e, f, e1, _⟩ := h i
    rw [Option.some.inj hi] at e1
    exact (List.getElem?_eq_some_iff.mp e1).1
  · obtain ⟨e, f, e1, e2, e3⟩ := h i
    exact ⟨_, _, e, f, rat_lt (by omega), rat_lt hi, e1, e2, e3⟩
  · obtain ⟨e, f, e1, e2, e3⟩ := h (R.length - 1)
    have z : rat R (R.length - 1 + 1) = rat R 0 := by
      rw [rat, rat, show R.length - 1 + 1 = R.length by omega, Nat.mod_self, Nat.zero_mod]
    rw [z] at e2
    exact ⟨_, _, f, e, rat_lt h0, rat_lt (by omega), e2, e1, e3⟩
theorem rat_turn {R : List Nat} {k : Nat} (h : k < R.length) (j : Nat) : rat (R.drop k ++ R.take k) j = rat R (k + j) := by
  have hl : (R.drop k ++ R.take k).length = R.length := by rw [List.length_append, List.length_drop, List.length_take]; omega
  have h0 : j % R.length < R.length := Nat.mod_lt _ (by omega)
  have e := rd_get R k R.length (j % R.length) h0
  rw [rd_turn R k h] at e
  rw [rat, hl, List.getD_eq_getElem?_getD, e, Nat.add_mod_mod]
  rfl
theorem rat_two (R : List Nat) (j : Nat) : rat (R ++ R) j = rat R j := by
  rcases Nat.eq_zero_or_pos R.length with z | h0
  · rw [List.eq_nil_of_length_eq_zero z]
    rfl
  have hl : (R ++ R).length = R.length + R.length := List.length_append
  have h2 : j % (R.length + R.length) < R.length + R.length := Nat.mod_lt _ (by omega)
  have e : j % (R.length + R.length) % R.length = j % R.length := Nat.mod_mod_of_dvd _ ⟨2, by omega⟩
  rw [rat, rat, hl, ← e]
  generalize j % (R.length + R.length) = i at h2
  rw [List.getD_eq_getElem?_getD, List.getD_eq_getElem?_getD]
  by_cases c : i < R.length
  · rw [List.getElem?_append_left c, Nat.mod_eq_of_lt c]
  · rw [List.getElem?_append_right (by omega), Nat.mod_eq_sub_mod (by omega), Nat.mod_eq_of_lt (by omega)]
theorem rat_per {R : List Nat} (j : Nat) : rat R (j + R.length) = rat R j := by rw [rat, rat, Nat.add_mod_right]
theorem Tour.turn {ts : List (Nat × Nat)} {R : List Nat} {k : Nat} (h : Tour ts R) (hk : k < R.length) : Tour ts (R.drop k ++ R.take k) := by
  have hl : (R.drop k ++ R.take k).length = R.length := by rw [List.length_append, List.length_drop, List.length_take]; omega
  refine Tour.of (by rw [hl]; exact h.ch.n0) (by rw [hl]; exact h.n1) fun j => ?_
  rw [rat_turn hk, rat_turn hk]
  exact h.all (k + j)
theorem Tour.two {ts : List (Nat × Nat)} {R : List Nat} (h : Tour ts R) (hk : R.length ≤ 500) : Tour ts (R ++ R) := by
  have h0 := h.ch.n0
  refine Tour.of (by rw [List.length_append]; omega) (by rw [List.length_append]; omega) fun j => ?_
  rw [rat_two, rat_two]
  exact h.all j

theorem due_count (R W : List Nat) : (due R W).length = (List.range R.length).countP fun p => rd R p W.length == W := by
  rw [List.countP_eq_length_filter]
  rfl
theorem due_turn {R W : List Nat} {k : Nat} (h : k < R.length) : (due (R.drop k ++ R.take k) W).length = (due R W).length := by
  rw [← rd_turn R k h, due_count, due_count, rd_len, ← count_shift k (g := fun p => rd R p W.length == W) (fun j => by rw [rd_mod])]
  refine List.countP_congr fun p _ => ?_
  rw [rd_turned R k p _ (by omega), Nat.add_comm]
theorem rd_two (R : List Nat) (p n : Nat) : rd (R ++ R) p n = rd R p n := by
  unfold rd
  refine List.map_congr_left fun k _ => ?_
  exact rat_two R (p + k)
theorem due_two (R W : List Nat) : (due (R ++ R) W).length = 2 * (due R W).length := by
  rw [due_count, due_count, List.length_append]
  have e : (List.range (R.length + R.length)).countP (fun p => rd (R ++ R) p W.length == W) = (List.range (R.length + R.length)).countP fun p => rd R p W.length == W := List.countP_congr fun p _ => by rw [rd_two]
  rw [e, show R.length + R.length = 2 * R.length by omega, countP_per (d := R.length) (g := fun p => rd R p W.length == W) (fun j => by rw [← rd_mod, Nat.add_mod_right, rd_mod]) 2]
theorem Tour.stretch {ts : List (Nat × Nat)} {R : List Nat} (h : Tour ts R) (b : Nat) {m : Nat} (hm : 0 < m) : Chain ts (rd R b m) := by
  have h0 := h.ch.n0
  have get : ∀ k, k < m → (rd R b m)[k]? = some (rat R (b + k)) := fun k hk => rd_get R b m k hk
  refine ⟨by rw [rd_len]; exact hm, fun x hx => ?_, fun i hi => ?_⟩
  · obtain ⟨i, hi⟩ := List.getElem?_of_mem hx
    have hl := (List.getElem?_eq_some_iff.mp hi).1
    rw [rd_len] at hl
    rw [get i hl] at hi
    obtain ⟨e, f, e1, _⟩ := h.all (b + i)
    rw [Option.some.inj hi] at e1
    exact (List.getElem?_eq_some_iff.mp e1).1
  · rw [rd_len] at hi
    obtain ⟨e, f, e1, e2, e3⟩ := h.all (b + i)
    exact ⟨_, _, e, f, get i (by omega), get (i + 1) hi, e1, e2, e3⟩
/-! ### a list of small numbers, shown -/
theorem log_small {n : Nat} (h : n < 128) : (n : Int).natAbs.log2 < 7 := by
  have : ((n : Int).natAbs) = n := rfl
  rw [this]
  by_cases c : n = 0
  · subst c; decide
  · exact (Nat.log2_lt c).mpr h
theorem weight_small : ∀ L : List Nat, (∀ x ∈ L, x < 128) → PyData.weightAll ((L.map fun n : Nat => (n : Int)).map PyData.int) ≤ 8 * L.length
  | [], _ => Nat.le_refl _
  | n :: r, h => by
    have ih := weight_small r fun x hx => h x (List.mem_cons_of_mem _ hx)
    have h1 := log_small (h n List.mem_cons_self)
    rw [List.map_cons, List.map_cons, List.length_cons]
    unfold PyData.weightAll
    have : PyData.weight (.int (n : Int)) ≤ 7 := by
      unfold PyData.weight
      split <;> omega
    omega
theorem noDict_small : ∀ L : List Int, PyData.hasDictAll (L.map PyData.int) = false
  | [] => by simp only [List.map_nil, PyData.hasDictAll]
  | n :: r => by simp only [List.map_cons, PyData.hasDictAll, PyData.hasDict, noDict_small r, Bool.or_self]
theorem show_small {L : List Nat} (h : ∀ x ∈ L, x < 128) (hl : L.length ≤ 1000) : (dz (L.map fun n : Nat => (n : Int))).showable = true ∧ (dz (L.map fun n : Nat => (n : Int))).hasDict = false ∧ (dz (L.map fun n : Nat => (n : Int))).depth ≤ 60 ∧ (dz (L.map fun n : Nat => (n : Int))).shown.length ≤ sizeLine := by
  refine ⟨?_, ?_, ?_, ?_⟩
  · show PyData.showable (.list _) = true
    unfold PyData.showable
    refine PyData.showableAll_ints _ fun n hn => ?_
    obtain ⟨x, hx, rfl⟩ := List.mem_map.mp hn
    have := log_small (h x hx)
    omega
  · show PyData.hasDict (.list _) = false
    unfold PyData.hasDict
    exact noDict_small _
  · show PyData.depth (.list _) ≤ 60
    unfold PyData.depth
    rw [depthAll_iz]
    decide
  · refine PyData.shown_fits (B := 13) (by decide) (by decide) ?_ ?_
    · refine PyData.leavesShort_of_canLay0 13 _ ?_ ?_
      · show PyData.canLay0 (.list _) = true
        unfold PyData.canLay0
        exact layAll_iz _
      · show PyData.intsShort 13 (.list _) = true
        unfold PyData.intsShort
        refine PyData.intsShortAll_ints _ fun n hn => ?_
        obtain ⟨x, hx, rfl⟩ := List.mem_map.mp hn
        have := h x hx
        have e : ((x : Int)).natAbs = x := rfl
        omega
    · show PyData.weight (.list _) ≤ _
      unfold PyData.weight
      have := weight_small L h
      omega
theorem stay {a : Addr} {S H H' : Hp} (h : Same S H) (k : Kept a H H') (n : S a = none) : Same S H' := fun b o e => k b o (h b o e) (fun z => by rw [z, n] at e; cases e)
theorem g123_done : True := trivial
section
variable {P : Program} {w : World} {K : PySem.W.Frag} {mg : Str → Option Value} {base : Heap} {C : Addr}
def splaw (K : PySem.W.Frag) (_ : Addr) : Sp := fun vs H Q _ => ∃ a, ∃ ns : List Int, vs = [.ref a] ∧ SqL K H a (ns.map V.int) ∧ ns.length ≤ 63 ∧ ∀ H', Q (.bl true) H'
theorem oklaw (D : Def K mg "law" slaw ["_law_script"]) (B : Bs mg) (Glb : Glo mg) (WK : WebK K mg C)
    (h_law_pot : Good P w K mg base "_law_pot" s_law_pot ["_law_script", "_law_k"] 1 (sp_law_pot K C))
    (h_law_close : Good P w K mg base "_law_close" s_law_close ["_law_pot_here", "_law_most", "_law_more"] 2 (sp_law_close K C))
    (h_law_tour : Good P w K mg base "_law_tour" s_law_tour ["_law_pot_here", "_law_places", "_law_ties"] 3 (sp_law_tour K C))
    (h_law_walk : Good P w K mg base "_law_walk" s_law_walk ["_law_pot_here", "_law_ties", "_law_many"] 2 (sp_law_walk K C))
    (h_law_times : Good P w K mg base "_law_times" s_law_times ["_law_tour_here", "_law_walk_here"] 1 (sp_law_times K C))
    (h_law_draw : Good P w K mg base "_law_draw" s_law_draw ["_law_pot_here", "_law_many"] 1 (sp_law_draw K C))
    (htimes_in : Good P w K mg base "times_in" stimes_in ["web", "tour", "walk"] 8 (sptimes_in K C))
    (hWeb___init__ : GoodI P w K mg base C "__init__" "Web.__init__" sWeb___init__ ["self", "places", "ties"] 5 (spWeb___init__ K C)) :
    GoodG P w K mg base "law" slaw ["_law_script"] 9 (splaw K C) := by
  refine D.goodG fun f fd F => ?_
  obtain ⟨f_law_pot, d_law_pot, O_law_pot, m_law_pot, k_law_pot, b_law_pot, F_law_pot⟩ := h_law_pot
  obtain ⟨f_law_close, d_law_close, O_law_close, m_law_close, k_law_close, b_law_close, F_law_close⟩ := h_law_close
  obtain ⟨f_law_tour, d_law_tour, O_law_tour, m_law_tour, k_law_tour, b_law_tour, F_law_tour⟩ := h_law_tour
  obtain ⟨f_law_walk, d_law_walk, O_law_walk, m_law_walk, k_law_walk, b_law_walk, F_law_walk⟩ := h_law_walk
  obtain ⟨f_law_times, d_law_times, O_law_times, m_law_times, k_law_times, b_law_times, F_law_times⟩ := h_law_times
  obtain ⟨f_law_draw, d_law_draw, O_law_draw, m_law_draw, k_law_draw, b_law_draw, F_law_draw⟩ := h_law_draw
  obtain ⟨ftimes_in, dtimes_in, Otimes_in, mtimes_in, ktimes_in, btimes_in, Ftimes_in⟩ := htimes_in
  obtain ⟨fWeb___init__, dWeb___init__, OWeb___init__, MK, bWeb___init__⟩ := hWeb___init__
  have kb_times_in_web_tour_walk : KBinds K dtimes_in ["web", "tour", "walk"] ["web", "tour", "walk"] g123 g123 := fun_kbinds Ftimes_in g123 g123 rel123 (fun _ _ _ _ _ _ us ws hl => by
    obtain ⟨rfl, a0, a1, a2, rfl⟩ := g123_inv hl
    rfl)
  refine FnG.ofBody F sclaw (fun vs H Q E h => ?_) (fun cdv A outer s H vs Q E hr quiet h => ?_)
  · obtain ⟨sa, ns, rfl, hs, h63, q⟩ := h
    first | rfl | (rcases h with ⟨_, _, rfl, _⟩ | ⟨_, rfl, _⟩ <;> rfl)
  obtain ⟨sa, ns, rfl, hs, h63, q⟩ := h
  have hur := hu70 hr
  refine ⟨_, (pss_cons (ps_set (i := 1) sclaw.nd rfl (by first | exact Or.inl rfl | exact Or.inr rfl) (pe_call O_law_pot (hr.mono (by decide)) rfl m_law_pot k_law_pot b_law_pot .nil pass0 (pa_cons (pv 0) (pa_cons pe_int pa_nil))))
  (pss_cons (ps_asg (pe_call O_law_close (hr.mono (by decide)) rfl m_law_close k_law_close b_law_close .nil pass0 (pa_cons (pv 1) (pa_cons pe_int (pa_cons pe_int pa_nil)))) (pg_tup rfl (pgs_cons (pg_name (i := 2) sclaw.nd rfl (by first | exact Or.inl rfl | exact Or.inr rfl)) (pgs_cons (pg_name (i := 3) sclaw.nd rfl (by first | exact Or.inl rfl | exact Or.inr rfl)) pgs_nil))))
  (pss_cons (ps_asg (pe_tup (pa_cons (pe_make MK OWeb___init__ (hr.mono (by decide)) rfl WK.mgC bWeb___init__ .nil pass0 (pa_cons (pv 2) (pa_cons (pv 3) pa_nil))) (pa_cons (pe_call O_law_tour (hr.mono (by decide)) rfl m_law_tour k_law_tour b_law_tour .nil pass0 (pa_cons (pv 1) (pa_cons (pv 2) (pa_cons (pv 3) pa_nil)))) pa_nil))) (pg_tup rfl (pgs_cons (pg_name (i := 4) sclaw.nd rfl (by first | exact Or.inl rfl | exact Or.inr rfl)) (pgs_cons (pg_name (i := 5) sclaw.nd rfl (by first | exact Or.inl rfl | exact Or.inr rfl)) pgs_nil))))
  (pss_cons (ps_set (i := 6) sclaw.nd rfl (by first | exact Or.inl rfl | exact Or.inr rfl) (pe_callB (call_repr_data quiet hur) (by rfl) B.repr (by decide +kernel) (pa_cons (pv 5) pa_nil)))
  (pss_cons (ps_for PassesOwn.never rfl (pi_range1 (by rfl) B.range (pa_cons pe_int pa_nil)) (pg_name (i := 7) sclaw.nd rfl (by first | exact Or.inl rfl | exact Or.inr rfl))
    (pss_cons (ps_set (i := 8) sclaw.nd rfl (by first | exact Or.inl rfl | exact Or.inr rfl) (pe_call O_law_walk (hr.mono (by decide)) rfl m_law_walk k_law_walk b_law_walk .nil pass0 (pa_cons (pv 1) (pa_cons (pv 3) (pa_cons (pe_op op_add pe_int (pe_call O_law_draw (hr.mono (by decide)) rfl m_law_draw k_law_draw b_law_draw .nil pass0 (pa_cons (pv 1) (pa_cons pe_int pa_nil)))) pa_nil)))))
  (pss_cons (ps_if (pt_cmpR op_lt (pv 7) pe_int (nomark _))
    (pss_cons (ps_asg (pe_tup (pa_cons (pe_call O_law_draw (hr.mono (by decide)) rfl m_law_draw k_law_draw b_law_draw .nil pass0 (pa_cons (pv 1) (pa_cons (pe_callB call_len_seq (by rfl) B.len (by decide +kernel) (pa_cons (pv 5) pa_nil)) pa_nil))) (pa_cons (pe_op op_add pe_int (pe_call O_law_draw (hr.mono (by decide)) rfl m_law_draw k_law_draw b_law_draw .nil pass0 (pa_cons (pv 1) (pa_cons pe_int pa_nil)))) pa_nil))) (pg_tup rfl (pgs_cons (pg_name (i := 9) sclaw.nd rfl (by first | exact Or.inl rfl | exact Or.inr rfl)) (pgs_cons (pg_name (i := 10) sclaw.nd rfl (by first | exact Or.inl rfl | exact Or.inr rfl)) pgs_nil))))
  (pss_one (ps_setLc (i := 8) (own := [("_law_at", 13)]) (g := gName 13) (by rfl) sclaw.nd rfl rfl (sw_true rfl rfl rfl (by decide +kernel)) (pi_range1 (by rfl) B.range (pa_cons (pv 10) pa_nil)) (blkOk_by (own := [("_law_at", 13)]) (N := ["_law_script", "_law_pot_here", "_law_places", "_law_ties", "_law_web", "_law_tour_here", "_law_shown", "_law_turn", "_law_walk_here", "_law_begin", "_law_many", "_law_due", "_law_by", "_law_at"]) (sc := defScope slaw) (by decide +kernel)) (fun _ _ _ _ _ => (pg_name (i := 13) sclaw.nd rfl (by first | exact Or.inl rfl | exact Or.inr rfl))) (fun _ _ _ _ _ => pts_nil) (fun _ _ _ _ _ => (pe_ix (ix_listK (K := K) rfl) (pv 5) (pe_op op_mod (pe_op op_add (pv 9) (pv 13)) (pe_callB (call_len_seqK (K := K) rfl) (by rfl) B.len (by decide +kernel) (pa_cons (pv 5) pa_nil))) (by exact fun _ _ => rfl)))))) pss_nil)
  (pss_cons (ps_par (i := 11) (j := 12) (by rfl) sclaw.nd rfl rfl (by decide) rfl rfl (pa_cons (pe_call O_law_times (hr.mono (by decide)) rfl m_law_times k_law_times b_law_times .nil pass0 (pa_cons (pv 5) (pa_cons (pv 8) pa_nil))) (pa_cons (pe_call O_law_draw (hr.mono (by decide)) rfl m_law_draw k_law_draw b_law_draw .nil pass0 (pa_cons (pv 1) (pa_cons (pe_callB call_len_seq (by rfl) B.len (by decide +kernel) (pa_cons (pv 5) pa_nil)) pa_nil))) pa_nil)) (by rfl))
  (pss_cons (ps_if (pt_cmpR op_ne (pe_callKK Otimes_in hr (by rfl) mtimes_in ktimes_in kb_times_in_web_tour_walk pass0 (pk_cons (pv 4) (pk_cons (pv 5) (pk_cons (pv 8) pk_nil)))) (pv 11) (nomark _))
    (pss_one (ps_ret pe_bl)) pss_nil)
  (pss_cons (ps_if (pt_cmpR op_ne (pe_call Otimes_in hr rfl mtimes_in ktimes_in btimes_in .nil pass0 (pa_cons (pv 4) (pa_cons (pe_callTy call_tuple_of (by rfl) B.tuple (by decide +kernel) (pa_cons (pe_op op_cat (pe_slice sl_list (pv 5) (po_some (pv 12)) po_none) (pe_slice sl_list (pv 5) po_none (po_some (pv 12)))) pa_nil)) (pa_cons (pe_callTy call_tuple_of (by rfl) B.tuple (by decide +kernel) (pa_cons (pv 8) pa_nil)) pa_nil)))) (pv 11) (nomark _))
    (pss_one (ps_ret pe_bl)) pss_nil)
  (pss_one (ps_if (pt_cmpR op_ne (pe_call Otimes_in hr rfl mtimes_in ktimes_in btimes_in .nil pass0 (pa_cons (pv 4) (pa_cons (pe_op op_cat (pv 5) (pv 5)) (pa_cons (pv 8) pa_nil)))) (pe_op op_mul pe_int (pv 11)) (nomark _))
    (pss_one (ps_ret pe_bl)) pss_nil))))))))
  (pss_one (ps_ret (pe_cmpR op_eq (pe_callB (call_repr_data quiet hur) (by rfl) B.repr (by decide +kernel) (pa_cons (pv 5) pa_nil)) (pv 6) (nomark _))))))))), ?_⟩
  refine ⟨_, rfl, sa, ns, rfl, hs, fun a H1 hp1 hS1 na => ?_⟩
  refine ⟨_, rfl, a, 4, 4, rfl, hp1, by decide, by decide, by decide, fun T N l ts H2 htl hN4 ho hgo hrn hk2 hp2 nl hT hT2 => ?_⟩
  refine ⟨T, _, rfl, SqT.of hT, rfl, _, _, rfl, _, _, rfl, rfl, ?_⟩
  have hla : l ≠ a := hp1.ne nl
  have hm := ho.m
  refine ⟨_, rfl, _, rfl, fun x dx nx ndx ndxx => ?_⟩
  have hS01 : Same H2 (upd (upd H2 dx (.own x)) x (.ins C dx [])) := fun b o e => by
    rw [upd_ne (ne_of_none e nx), upd_ne (ne_of_none e ndx)]
    exact e
  refine ⟨x, dx, N, l, ts, rfl, ho, hT2.same hS01, upd_same, fun H3 hk3 hw3 => ⟨rfl, ?_⟩⟩
  have hax : a ≠ x := by
    obtain ⟨u, v, e, _⟩ := hp2
    exact ne_of_none e nx
  have hp2' := hp2.same hS01
  have hp3 : PotAt H3 a := by
    obtain ⟨u, v, e, r⟩ := hp2'
    exact ⟨u, v, hk3 _ _ e hax, r⟩
  have hTS3 : Same H2 H3 := fun b o e => hk3 _ _ (hS01 _ _ e) (ne_of_none e nx)
  have hT3 := hT2.same hTS3
  obtain ⟨S, hwS, hSS3, hSa⟩ : ∃ S, WebAt C x N ts S ∧ Same S H3 ∧ S a = none := by
    obtain ⟨u, v, e, _⟩ := hp2'
    exact ⟨_, hw3, Sub.same, Sub.none e hax (hk3 _ _ e hax)⟩
  clear hw3
  refine ⟨_, rfl, _, rfl, _, rfl, a, l, N, ts, rfl, hp3, hla, hT3, ho, hgo, hrn, hN4, by omega, fun f R H4 hR hRl hk4 hp4 nf hf4 => ⟨(by show 2 ≤ sizeLine; decide), fun tp ntp => ⟨tp, _, rfl, SqT.of upd_same, rfl, _, _, rfl, _, _, rfl, rfl, ?_⟩⟩⟩
  have hfa : f ≠ a := hp3.ne nf
  have hR0 := hR.ch.n0
  have hRn : ∀ x ∈ R, x < 128 := fun x hx => by have := hR.ch.num x hx; omega
  obtain ⟨sh1, sh2, sh3, sh4⟩ := show_small hRn (by omega)
  have hf5 := same_new ntp (.tup [.ref x, .ref f]) _ _ hf4
  have hT5 := (hT3.kept hk4 hp3 hla).new (o := .tup [.ref x, .ref f]) ntp
  have hp5 := hp4.new (o := .tup [.ref x, .ref f]) ntp
  have hSS5 : Same S _ := (stay hSS3 hk4 hSa).trans (same_new ntp (.tup [.ref x, .ref f]))
  generalize upd H4 tp (.tup [.ref x, .ref f]) = H5 at hf5 hT5 hp5 hSS5
  refine ⟨_, rfl, f, _, rfl, dp_iv hf5, sh1, sh2, sh3, sh4, ?_⟩
  refine ⟨_, rfl, by decide, by decide, ?_⟩
  refine for_range (lo := 0) (n := 6) (fun i σ H' => ∃ (v7 v8 v9 v10 v11 v12 : Option V), σ = [some (.ref sa), some (.ref a), some (.int (N : Int)), some (.ref l), some (.ref x), some (.ref f), some (.str (dz (R.map fun n : Nat => (n : Int))).shown), v7, v8, v9, v10, v11, v12, none] ∧ PotAt H' a ∧ Same S H' ∧ TiesAt H' l ts ∧ H' f = some (.lst (iv R))) ⟨none, none, none, none, none, none, rfl, hp5, hSS5, hT5, hf5⟩ ?_ ?_
  · rintro i σ H6 hi ⟨v7, v8, v9, v10, v11, v12, rfl, hp6, hSS6, hT6, hf6⟩
    refine ⟨_, rfl, _, rfl, _, rfl, a, 3, rfl, hp6, by decide, by decide, fun d H7 hd hk7 hp7 => ⟨_, _, rfl, rfl, ?_⟩⟩
    refine ⟨a, l, N, ts, 1 + d, by congr 3, hp7, hla, hT6.kept hk7 hp6 hla, ho, hgo, by omega, by omega, fun s0 W0 H8 hW0 hWl0 hk8 hp8 ns0 hs0 => ?_⟩
    have hk68 := hk7.trans hk8
    have hT8 := hT6.kept hk68 hp6 hla
    have hf8 := hk68 _ _ hf6 hfa
    have hSS8 := stay hSS6 hk68 hSa
    refine ⟨_, rfl, _, _, rfl, rfl, _, rfl, ?_⟩
    by_cases c4 : (0 : Int) + (i : Int) < 4
    case' neg =>
      refine iteNo c4 ?_
      have hsa := hp7.ne ns0
      have hWl : W0.length ≤ 100 := by omega
      obtain ⟨W, eW⟩ : ∃ W, W = W0 := ⟨_, rfl⟩
      subst eW
      obtain ⟨sw, esw⟩ : ∃ sw, sw = s0 := ⟨_, rfl⟩
      subst esw
      have hp9 := hp8
      have hSS9 := hSS8
      have hT9 := hT8
      have hf9 := hf8
      have hs9 := hs0
      have hW := hW0
    case' pos =>
      refine iteYes c4 ?_
      refine ⟨_, rfl, _, rfl, f, _, rfl, .inl (SqL.of hf8), a, R.length, by rw [List.length_map]; rfl, hp8, hR0, by omega, fun b H9 hb hk9 hp9 => ⟨_, rfl, a, 12, rfl, hp9, by decide, by decide, fun m H10 hm' hk10 hp10 => ⟨_, _, rfl, rfl, (by show 2 ≤ sizeLine; decide), fun tp ntp => ⟨tp, _, rfl, SqT.of upd_same, rfl, _, _, rfl, _, _, rfl, rfl, ?_⟩⟩⟩⟩
      have hk810 := hk9.trans hk10
      have hTb := (hT8.kept hk810 hp8 hla).new (o := .tup [.int (b : Int), .int ((1 : Int) + (m : Int))]) ntp
      have hpb := hp10.new (o := .tup [.int (b : Int), .int ((1 : Int) + (m : Int))]) ntp
      have hfb := same_new ntp (.tup [.int (b : Int), .int ((1 : Int) + (m : Int))]) _ _ (hk810 _ _ hf8 hfa)
      have hSb : Same S _ := (stay hSS8 hk810 hSa).trans (same_new ntp (.tup [.int (b : Int), .int ((1 : Int) + (m : Int))]))
      generalize upd H10 tp (.tup [.int (b : Int), .int ((1 : Int) + (m : Int))]) = H11 at hTb hpb hfb hSb
      refine ⟨_, rfl, _, rfl, by omega, by omega, fun D nD => ?_⟩
      refine lc_range (lo := 0) (n := 1 + m) (fun i H' => Same H11 H' ∧ H' D = some (.lst (iv (rd R b i)))) ⟨same_new nD _, upd_same⟩ ?_ ?_
      · intro j H' hj ⟨hS', hD'⟩
        have hf' := hS' _ _ hfb
        have e0 := getD_lt (l := R) (i := (b + j) % R.length) (Nat.mod_lt _ hR0)
        refine ⟨rfl, ?_⟩
        refine ⟨_, rfl, _, rfl, _, rfl, _, _, rfl, rfl, _, rfl, f, _, rfl, .inl (SqL.of hf'), _, _, rfl, rfl, (by rw [List.length_map]; omega), _, _, _, .int ((R.getD ((b + j) % R.length) 0 : Nat) : Int), rfl, rfl, SqL.of hf', ?_, _, hD', ?_, same_upd hS' nD, ?_⟩
        · rw [List.length_map, Int.zero_add]
          exact iv_at e0
        · rw [List.length_map, rd_len]
          exact Nat.lt_of_lt_of_le (by omega : j < 1000) (by decide)
        · rw [upd_same, rd_succ, iv_app]
      rintro H12 ⟨hS12, hD12⟩
      have hsa : D ≠ a := hpb.ne nD
      have hp9 := hpb.same hS12
      have hSS9 := hSb.trans hS12
      have hT9 := hTb.same hS12
      have hf9 := hS12 _ _ hfb
      have hs9 := hD12
      have hW := hR.stretch b (m := 1 + m) (by omega)
      have hWl : (rd R b (1 + m)).length ≤ 100 := by rw [rd_len]; omega
      generalize rd R b (1 + m) = W at hs9 hW hWl
    all_goals
      have hW0 := hW.n0
      refine ⟨_, rfl, _, rfl, f, _, R, _, rfl, hf9, hs9, hR0, by omega, by omega, fun H10 hS10 => ⟨_, rfl, _, rfl, f, _, rfl, .inl (SqL.of (hS10 _ _ hf9)), a, R.length, by rw [List.length_map]; rfl, hp9.same hS10, hR0, by omega, fun k H11 hk hk11 hp11 => ?_⟩⟩
      have hf11 := hk11 _ _ (hS10 _ _ hf9) hfa
      have hs11 := hk11 _ _ (hS10 _ _ hs9) hsa
      have hSS11 := stay (hSS9.trans hS10) hk11 hSa
      have hT11 := (hT9.same hS10).kept hk11 (hp9.same hS10) hla
      refine ⟨_, _, rfl, ?_⟩
      refine ⟨_, rfl, _, rfl, _, rfl, x, f, _, N, ts, R, W, rfl, hwS.same hSS11, .inl hf11, hR, by omega, .inl hs11, hW, by omega, fun H12 hS12 => ⟨_, rfl, rfl, _, rfl, iteNot' rfl ?_⟩⟩
      have hf12 := hS12 _ _ hf11
      have hs12 := hS12 _ _ hs11
      refine ⟨_, rfl, _, rfl, _, rfl, _, rfl, f, _, rfl, SqL.of hf12, fun p1 n1 => ?_⟩
      rw [cutV_from, ← List.map_drop]
      have hS13 := same_new n1 (.lst (iv (R.drop k)))
      have h1 : upd H12 p1 (.lst (iv (R.drop k))) p1 = some (.lst (iv (R.drop k))) := upd_same
      generalize upd H12 p1 (.lst (iv (R.drop k))) = H13 at hS13 h1
      refine ⟨_, rfl, _, rfl, _, rfl, f, _, rfl, SqL.of (hS13 _ _ hf12), fun p2 n2 => ?_⟩
      rw [cutV_to, ← List.map_take]
      have hS14 := hS13.trans (same_new n2 (.lst (iv (R.take k))))
      have h1' := same_new n2 (.lst (iv (R.take k))) _ _ h1
      have h2 : upd H13 p2 (.lst (iv (R.take k))) p2 = some (.lst (iv (R.take k))) := upd_same
      generalize upd H13 p2 (.lst (iv (R.take k))) = H14 at hS14 h1' h2
      refine ⟨p1, p2, _, _, rfl, rfl, h1', h2, ?_, fun p3 n3 => ?_⟩
      · rw [List.length_map, List.length_map, List.length_drop, List.length_take]
        exact Nat.le_trans (by omega : _ ≤ 1000) (by decide)
      rw [← List.map_append]
      have hS15 := hS14.trans (same_new n3 (.lst (iv (R.drop k ++ R.take k))))
      have h3 : upd H14 p3 (.lst (iv (R.drop k ++ R.take k))) p3 = some (.lst (iv (R.drop k ++ R.take k))) := upd_same
      generalize upd H14 p3 (.lst (iv (R.drop k ++ R.take k))) = H15 at hS15 h3
      refine ⟨p3, _, rfl, .inl ⟨SqL.of h3, fun u1 nu1 => ?_⟩⟩
      have hS16 := hS15.trans (same_new nu1 (.tup (iv (R.drop k ++ R.take k))))
      have hu1 : upd H15 u1 (.tup (iv (R.drop k ++ R.take k))) u1 = some (.tup (iv (R.drop k ++ R.take k))) := upd_same
      generalize upd H15 u1 (.tup (iv (R.drop k ++ R.take k))) = H16 at hS16 hu1
      refine ⟨_, rfl, _, _, rfl, .inl ⟨SqL.of (hS16 _ _ hs12), fun u2 nu2 => ?_⟩⟩
      have hS17 := hS16.trans (same_new nu2 (.tup (iv W)))
      have hu1' := same_new nu2 (.tup (iv W)) _ _ hu1
      have hu2 : upd H16 u2 (.tup (iv W)) u2 = some (.tup (iv W)) := upd_same
      generalize upd H16 u2 (.tup (iv W)) = H17 at hS17 hu1' hu2
      have hS11 := hS12.trans hS17
      have hTu := hR.turn hk
      have hTl : (R.drop k ++ R.take k).length = R.length := by rw [List.length_append, List.length_drop, List.length_take]; omega
      refine ⟨x, u1, u2, N, ts, R.drop k ++ R.take k, W, rfl, hwS.same (hSS11.trans hS11), .inr hu1', hTu, by omega, .inr hu2, hW, by omega, fun H18 hS18 => ⟨_, rfl, rfl, _, rfl, ?_⟩⟩
      rw [due_turn hk]
      refine iteNot' rfl ?_
      have hS1118 := hS11.trans hS18
      have hf18 := hS1118 _ _ hf11
      have hs18 := hS1118 _ _ hs11
      refine ⟨_, rfl, _, rfl, _, rfl, f, f, _, _, rfl, rfl, hf18, hf18, ?_, fun p4 n4 => ?_⟩
      · rw [List.length_map]
        exact Nat.le_trans (by omega : _ ≤ 1000) (by decide)
      rw [← List.map_append]
      have hS19 := hS1118.trans (same_new n4 (.lst (iv (R ++ R))))
      have h4 : upd H18 p4 (.lst (iv (R ++ R))) p4 = some (.lst (iv (R ++ R))) := upd_same
      generalize upd H18 p4 (.lst (iv (R ++ R))) = H19 at hS19 h4
      have hTw := hR.two (by omega)
      refine ⟨_, rfl, x, p4, _, N, ts, R ++ R, W, rfl, hwS.same (hSS11.trans hS19), .inl h4, hTw, by rw [List.length_append]; omega, .inl (hS19 _ _ hs11), hW, by omega, fun H20 hS20 => ⟨_, rfl, _, _, rfl, rfl, ?_⟩⟩
      rw [due_two]
      have hS1120 := hS19.trans hS20
      refine ⟨.inl ⟨by decide, by decide⟩, rfl, _, rfl, iteNot' (by rw [int_eq]; omega) ⟨_, _, _, _, _, _, rfl, hp11.same hS1120, hSS11.trans hS1120, hT11.same hS1120, hS1120 _ _ hf11⟩⟩
  · rintro σ H6 ⟨v7, v8, v9, v10, v11, v12, rfl, hp6, hSS6, hT6, hf6⟩
    refine ⟨_, rfl, f, _, rfl, dp_iv hf6, sh1, sh2, sh3, sh4, _, rfl, rfl, ?_⟩
    refine bl_true rfl (q _)
end
end My
namespace My
open PySem L2 PyProof.Rows
/-! ### the end -/
theorem kit_no {K : PySem.W.Frag} {C : Addr} (h1 : PySem.W.isClsIn K C = true) (h2 : PySem.W.typeIn K (.ref C) = some (.type "type")) (h3 : PySem.W.subIn K (.type "dict") (.ref C) = some false) : PySem.W.kitOne K (.type "dict") (.ref C) = some false := by
  unfold PySem.W.kitOne
  rw [if_neg (by simp)]
  show (if ((PySem.W.clsIn K C).isSome && PySem.W.typeIn K (.ref C) == some (.type "type")) = true then PySem.W.subIn K (.type "dict") (.ref C) else none) = some false
  have h1' : (PySem.W.clsIn K C).isSome = true := h1
  rw [h1', h2, if_pos (by simp)]
  exact h3
theorem fd_is {K : PySem.W.Frag} {x : Str} {st : Stmt} {f : Addr} {fd fe : FuncData} {oc : Value} {od : Option Addr} {sl : Array (Option Value)} (F : Fun K x x st f fd) (l : K.lookup f = some ⟨oc, od, .func fe, sl⟩) : fd = fe := by
  obtain ⟨oc2, od2, kV, doc, pm, an, cdv, ct, osl, e, lk, c⟩ := F.ex
  rw [lk] at l
  have := Option.some.inj l
  injection this with _ _ h3 _
  injection h3
set_option maxHeartbeats 4000000 in
theorem all_mk {l : PySem.W.OpenLaw} {w : World} {K : PySem.W.Frag} {h : Heap} {mg : Str → Option Value} {fa C : Addr} (X : K.In h) (G : h.Ns mainGlobals mg) (hfa : mg "law" = some (.ref fa))
    {fM0 : Addr} {odM0 anM0 : Option Addr} {slM0 : Array (Option Value)} {ocM0 kVM0 dcM0 pmM0 cdM0 ctM0 : Value} {fM1 : Addr} {odM1 anM1 : Option Addr} {slM1 : Array (Option Value)} {ocM1 kVM1 dcM1 pmM1 cdM1 ctM1 : Value} {pM1 : Addr} {rsM1 : List Value} {fM2 : Addr} {odM2 anM2 : Option Addr} {slM2 : Array (Option Value)} {ocM2 kVM2 dcM2 pmM2 cdM2 ctM2 : Value} {f0 : Addr} {od0 an0 : Option Addr} {sl0 : Array (Option Value)} {oc0 kV0 dc0 pm0 cd0 ct0 : Value} {f1 : Addr} {od1 an1 : Option Addr} {sl1 : Array (Option Value)} {oc1 kV1 dc1 pm1 cd1 ct1 : Value} {f2 : Addr} {od2 an2 : Option Addr} {sl2 : Array (Option Value)} {oc2 kV2 dc2 pm2 cd2 ct2 : Value} {f3 : Addr} {od3 an3 : Option Addr} {sl3 : Array (Option Value)} {oc3 kV3 dc3 pm3 cd3 ct3 : Value} {f4 : Addr} {od4 an4 : Option Addr} {sl4 : Array (Option Value)} {oc4 kV4 dc4 pm4 cd4 ct4 : Value} {f5 : Addr} {od5 an5 : Option Addr} {sl5 : Array (Option Value)} {oc5 kV5 dc5 pm5 cd5 ct5 : Value} {f6 : Addr} {od6 an6 : Option Addr} {sl6 : Array (Option Value)} {oc6 kV6 dc6 pm6 cd6 ct6 : Value} {f7 : Addr} {od7 an7 : Option Addr} {sl7 : Array (Option Value)} {oc7 kV7 dc7 pm7 cd7 ct7 : Value} {f8 : Addr} {od8 an8 : Option Addr} {sl8 : Array (Option Value)} {oc8 kV8 dc8 pm8 cd8 ct8 : Value} {f9 : Addr} {od9 an9 : Option Addr} {sl9 : Array (Option Value)} {oc9 kV9 dc9 pm9 cd9 ct9 : Value} {f10 : Addr} {od10 an10 : Option Addr} {sl10 : Array (Option Value)} {oc10 kV10 dc10 pm10 cd10 ct10 : Value} {f11 : Addr} {od11 an11 : Option Addr} {sl11 : Array (Option Value)} {oc11 kV11 dc11 pm11 cd11 ct11 : Value} {f12 : Addr} {od12 an12 : Option Addr} {sl12 : Array (Option Value)} {oc12 kV12 dc12 pm12 cd12 ct12 : Value} {f13 : Addr} {od13 an13 : Option Addr} {sl13 : Array (Option Value)} {oc13 kV13 dc13 pm13 cd13 ct13 : Value} {f14 : Addr} {od14 an14 : Option Addr} {sl14 : Array (Option Value)} {oc14 kV14 dc14 pm14 cd14 ct14 : Value} {f15 : Addr} {od15 an15 : Option Addr} {sl15 : Array (Option Value)} {oc15 kV15 dc15 pm15 cd15 ct15 : Value} {f16 : Addr} {od16 an16 : Option Addr} {sl16 : Array (Option Value)} {oc16 kV16 dc16 pm16 cd16 ct16 : Value} {f17 : Addr} {od17 an17 : Option Addr} {sl17 : Array (Option Value)} {oc17 kV17 dc17 pm17 cd17 ct17 : Value} {f18 : Addr} {od18 an18 : Option Addr} {sl18 : Array (Option Value)} {oc18 kV18 dc18 pm18 cd18 ct18 : Value} {f19 : Addr} {od19 an19 : Option Addr} {sl19 : Array (Option Value)} {oc19 kV19 dc19 pm19 cd19 ct19 : Value} {f20 : Addr} {od20 an20 : Option Addr} {sl20 : Array (Option Value)} {oc20 kV20 dc20 pm20 cd20 ct20 : Value} {f21 : Addr} {od21 an21 : Option Addr} {sl21 : Array (Option Value)} {oc21 kV21 dc21 pm21 cd21 ct21 : Value} {f22 : Addr} {od22 an22 : Option Addr} {sl22 : Array (Option Value)} {oc22 kV22 dc22 pm22 cd22 ct22 : Value} {t0 : Tok} {t1 : Tok} {t2 : Tok} {t3 : Tok}
    (aC : PySem.W.nsIn K mainGlobals "Web" = some (some (.ref C)))
    (aM0 : PySem.W.findIn K (.ref C) "__init__" = some (some (.ref fM0))) (iM0 : PySem.W.isFn K (.ref fM0) = true) (lM0 : K.lookup fM0 = some ⟨ocM0, odM0, .func (PySem.W.fnOf "__init__" "Web.__init__" (defArgs sWeb___init__) (defBody sWeb___init__) (defScope sWeb___init__) .none kVM0 dcM0 pmM0 anM0 cdM0 ctM0), slM0⟩) (cM0 : PySem.W.codeIn K cdM0 "Web.__init__" = true) (kM0 : PySem.W.keepIn K (.ref fM0) = true)
    (aM1 : PySem.W.findIn K (.ref C) "many" = some (some (.ref pM1))) (gM1 : PySem.W.specialIn K (.ref pM1) "__get__" = some (some (.builtin "property.__get__"))) (tM1 : PySem.W.takesIn K (.ref pM1) = some true) (rM1 : PySem.W.recIn K pM1 "property" = some (.ref fM1 :: rsM1)) (lM1 : K.lookup fM1 = some ⟨ocM1, odM1, .func (PySem.W.fnOf "many" "Web.many" (defArgs sWeb_many) (defBody sWeb_many) (defScope sWeb_many) .none kVM1 dcM1 pmM1 anM1 cdM1 ctM1), slM1⟩) (cM1 : PySem.W.codeIn K cdM1 "Web.many" = true) (kM1 : PySem.W.keepIn K (.ref fM1) = true)
    (aM2 : PySem.W.findIn K (.ref C) "ties" = some (some (.ref fM2))) (iM2 : PySem.W.isFn K (.ref fM2) = true) (lM2 : K.lookup fM2 = some ⟨ocM2, odM2, .func (PySem.W.fnOf "ties" "Web.ties" (defArgs sWeb_ties) (defBody sWeb_ties) (defScope sWeb_ties) .none kVM2 dcM2 pmM2 anM2 cdM2 ctM2), slM2⟩) (cM2 : PySem.W.codeIn K cdM2 "Web.ties" = true) (kM2 : PySem.W.keepIn K (.ref fM2) = true)
    (a0 : PySem.W.nsIn K mainGlobals "longest_borders" = some (some (.ref f0))) (l0 : K.lookup f0 = some ⟨oc0, od0, .func (PySem.W.fnOf "longest_borders" "longest_borders" (defArgs slongest_borders) (defBody slongest_borders) (defScope slongest_borders) .none kV0 dc0 pm0 an0 cd0 ct0), sl0⟩) (c0 : PySem.W.codeIn K cd0 "longest_borders" = true) (k0 : PySem.W.keepIn K (.ref f0) = true)
    (a1 : PySem.W.nsIn K mainGlobals "starts_in" = some (some (.ref f1))) (l1 : K.lookup f1 = some ⟨oc1, od1, .func (PySem.W.fnOf "starts_in" "starts_in" (defArgs sstarts_in) (defBody sstarts_in) (defScope sstarts_in) .none kV1 dc1 pm1 an1 cd1 ct1), sl1⟩) (c1 : PySem.W.codeIn K cd1 "starts_in" = true) (k1 : PySem.W.keepIn K (.ref f1) = true)
    (a2 : PySem.W.nsIn K mainGlobals "is_integer" = some (some (.ref f2))) (l2 : K.lookup f2 = some ⟨oc2, od2, .func (PySem.W.fnOf "is_integer" "is_integer" (defArgs sis_integer) (defBody sis_integer) (defScope sis_integer) .none kV2 dc2 pm2 an2 cd2 ct2), sl2⟩) (c2 : PySem.W.codeIn K cd2 "is_integer" = true) (k2 : PySem.W.keepIn K (.ref f2) = true)
    (a3 : PySem.W.nsIn K mainGlobals "is_count" = some (some (.ref f3))) (l3 : K.lookup f3 = some ⟨oc3, od3, .func (PySem.W.fnOf "is_count" "is_count" (defArgs sis_count) (defBody sis_count) (defScope sis_count) .none kV3 dc3 pm3 an3 cd3 ct3), sl3⟩) (c3 : PySem.W.codeIn K cd3 "is_count" = true) (k3 : PySem.W.keepIn K (.ref f3) = true)
    (a4 : PySem.W.nsIn K mainGlobals "is_between" = some (some (.ref f4))) (l4 : K.lookup f4 = some ⟨oc4, od4, .func (PySem.W.fnOf "is_between" "is_between" (defArgs sis_between) (defBody sis_between) (defScope sis_between) .none kV4 dc4 pm4 an4 cd4 ct4), sl4⟩) (c4 : PySem.W.codeIn K cd4 "is_between" = true) (k4 : PySem.W.keepIn K (.ref f4) = true)
    (a5 : PySem.W.nsIn K mainGlobals "is_below" = some (some (.ref f5))) (l5 : K.lookup f5 = some ⟨oc5, od5, .func (PySem.W.fnOf "is_below" "is_below" (defArgs sis_below) (defBody sis_below) (defScope sis_below) .none kV5 dc5 pm5 an5 cd5 ct5), sl5⟩) (c5 : PySem.W.codeIn K cd5 "is_below" = true) (k5 : PySem.W.keepIn K (.ref f5) = true)
    (a6 : PySem.W.nsIn K mainGlobals "is_listed" = some (some (.ref f6))) (l6 : K.lookup f6 = some ⟨oc6, od6, .func (PySem.W.fnOf "is_listed" "is_listed" (defArgs sis_listed) (defBody sis_listed) (defScope sis_listed) .none kV6 dc6 pm6 an6 cd6 ct6), sl6⟩) (c6 : PySem.W.codeIn K cd6 "is_listed" = true) (k6 : PySem.W.keepIn K (.ref f6) = true)
    (a7 : PySem.W.nsIn K mainGlobals "are_ties" = some (some (.ref f7))) (l7 : K.lookup f7 = some ⟨oc7, od7, .func (PySem.W.fnOf "are_ties" "are_ties" (defArgs sare_ties) (defBody sare_ties) (defScope sare_ties) .none kV7 dc7 pm7 an7 cd7 ct7), sl7⟩) (c7 : PySem.W.codeIn K cd7 "are_ties" = true) (k7 : PySem.W.keepIn K (.ref f7) = true)
    (a8 : PySem.W.nsIn K mainGlobals "need_web" = some (some (.ref f8))) (l8 : K.lookup f8 = some ⟨oc8, od8, .func (PySem.W.fnOf "need_web" "need_web" (defArgs sneed_web) (defBody sneed_web) (defScope sneed_web) .none kV8 dc8 pm8 an8 cd8 ct8), sl8⟩) (c8 : PySem.W.codeIn K cd8 "need_web" = true) (k8 : PySem.W.keepIn K (.ref f8) = true)
    (a9 : PySem.W.nsIn K mainGlobals "are_numbers" = some (some (.ref f9))) (l9 : K.lookup f9 = some ⟨oc9, od9, .func (PySem.W.fnOf "are_numbers" "are_numbers" (defArgs sare_numbers) (defBody sare_numbers) (defScope sare_numbers) .none kV9 dc9 pm9 an9 cd9 ct9), sl9⟩) (c9 : PySem.W.codeIn K cd9 "are_numbers" = true) (k9 : PySem.W.keepIn K (.ref f9) = true)
    (a10 : PySem.W.nsIn K mainGlobals "_go_on" = some (some (.ref f10))) (l10 : K.lookup f10 = some ⟨oc10, od10, .func (PySem.W.fnOf "_go_on" "_go_on" (defArgs s_go_on) (defBody s_go_on) (defScope s_go_on) .none kV10 dc10 pm10 an10 cd10 ct10), sl10⟩) (c10 : PySem.W.codeIn K cd10 "_go_on" = true) (k10 : PySem.W.keepIn K (.ref f10) = true)
    (a11 : PySem.W.nsIn K mainGlobals "is_walk" = some (some (.ref f11))) (l11 : K.lookup f11 = some ⟨oc11, od11, .func (PySem.W.fnOf "is_walk" "is_walk" (defArgs sis_walk) (defBody sis_walk) (defScope sis_walk) .none kV11 dc11 pm11 an11 cd11 ct11), sl11⟩) (c11 : PySem.W.codeIn K cd11 "is_walk" = true) (k11 : PySem.W.keepIn K (.ref f11) = true)
    (a12 : PySem.W.nsIn K mainGlobals "is_round" = some (some (.ref f12))) (l12 : K.lookup f12 = some ⟨oc12, od12, .func (PySem.W.fnOf "is_round" "is_round" (defArgs sis_round) (defBody sis_round) (defScope sis_round) .none kV12 dc12 pm12 an12 cd12 ct12), sl12⟩) (c12 : PySem.W.codeIn K cd12 "is_round" = true) (k12 : PySem.W.keepIn K (.ref f12) = true)
    (a13 : PySem.W.nsIn K mainGlobals "need_walk" = some (some (.ref f13))) (l13 : K.lookup f13 = some ⟨oc13, od13, .func (PySem.W.fnOf "need_walk" "need_walk" (defArgs sneed_walk) (defBody sneed_walk) (defScope sneed_walk) .none kV13 dc13 pm13 an13 cd13 ct13), sl13⟩) (c13 : PySem.W.codeIn K cd13 "need_walk" = true) (k13 : PySem.W.keepIn K (.ref f13) = true)
    (a14 : PySem.W.nsIn K mainGlobals "need_tour" = some (some (.ref f14))) (l14 : K.lookup f14 = some ⟨oc14, od14, .func (PySem.W.fnOf "need_tour" "need_tour" (defArgs sneed_tour) (defBody sneed_tour) (defScope sneed_tour) .none kV14 dc14 pm14 an14 cd14 ct14), sl14⟩) (c14 : PySem.W.codeIn K cd14 "need_tour" = true) (k14 : PySem.W.keepIn K (.ref f14) = true)
    (a15 : PySem.W.nsIn K mainGlobals "times_in" = some (some (.ref f15))) (l15 : K.lookup f15 = some ⟨oc15, od15, .func (PySem.W.fnOf "times_in" "times_in" (defArgs stimes_in) (defBody stimes_in) (defScope stimes_in) .none kV15 dc15 pm15 an15 cd15 ct15), sl15⟩) (c15 : PySem.W.codeIn K cd15 "times_in" = true) (k15 : PySem.W.keepIn K (.ref f15) = true)
    (a16 : PySem.W.nsIn K mainGlobals "_law_pot" = some (some (.ref f16))) (l16 : K.lookup f16 = some ⟨oc16, od16, .func (PySem.W.fnOf "_law_pot" "_law_pot" (defArgs s_law_pot) (defBody s_law_pot) (defScope s_law_pot) .none kV16 dc16 pm16 an16 cd16 ct16), sl16⟩) (c16 : PySem.W.codeIn K cd16 "_law_pot" = true) (k16 : PySem.W.keepIn K (.ref f16) = true)
    (a17 : PySem.W.nsIn K mainGlobals "_law_draw" = some (some (.ref f17))) (l17 : K.lookup f17 = some ⟨oc17, od17, .func (PySem.W.fnOf "_law_draw" "_law_draw" (defArgs s_law_draw) (defBody s_law_draw) (defScope s_law_draw) .none kV17 dc17 pm17 an17 cd17 ct17), sl17⟩) (c17 : PySem.W.codeIn K cd17 "_law_draw" = true) (k17 : PySem.W.keepIn K (.ref f17) = true)
    (a18 : PySem.W.nsIn K mainGlobals "_law_close" = some (some (.ref f18))) (l18 : K.lookup f18 = some ⟨oc18, od18, .func (PySem.W.fnOf "_law_close" "_law_close" (defArgs s_law_close) (defBody s_law_close) (defScope s_law_close) .none kV18 dc18 pm18 an18 cd18 ct18), sl18⟩) (c18 : PySem.W.codeIn K cd18 "_law_close" = true) (k18 : PySem.W.keepIn K (.ref f18) = true)
    (a19 : PySem.W.nsIn K mainGlobals "_law_walk" = some (some (.ref f19))) (l19 : K.lookup f19 = some ⟨oc19, od19, .func (PySem.W.fnOf "_law_walk" "_law_walk" (defArgs s_law_walk) (defBody s_law_walk) (defScope s_law_walk) .none kV19 dc19 pm19 an19 cd19 ct19), sl19⟩) (c19 : PySem.W.codeIn K cd19 "_law_walk" = true) (k19 : PySem.W.keepIn K (.ref f19) = true)
    (a20 : PySem.W.nsIn K mainGlobals "_law_times" = some (some (.ref f20))) (l20 : K.lookup f20 = some ⟨oc20, od20, .func (PySem.W.fnOf "_law_times" "_law_times" (defArgs s_law_times) (defBody s_law_times) (defScope s_law_times) .none kV20 dc20 pm20 an20 cd20 ct20), sl20⟩) (c20 : PySem.W.codeIn K cd20 "_law_times" = true) (k20 : PySem.W.keepIn K (.ref f20) = true)
    (a21 : PySem.W.nsIn K mainGlobals "_law_tour" = some (some (.ref f21))) (l21 : K.lookup f21 = some ⟨oc21, od21, .func (PySem.W.fnOf "_law_tour" "_law_tour" (defArgs s_law_tour) (defBody s_law_tour) (defScope s_law_tour) .none kV21 dc21 pm21 an21 cd21 ct21), sl21⟩) (c21 : PySem.W.codeIn K cd21 "_law_tour" = true) (k21 : PySem.W.keepIn K (.ref f21) = true)
    (a22 : PySem.W.nsIn K mainGlobals "law" = some (some (.ref f22))) (l22 : K.lookup f22 = some ⟨oc22, od22, .func (PySem.W.fnOf "law" "law" (defArgs slaw) (defBody slaw) (defScope slaw) .none kV22 dc22 pm22 an22 cd22 ct22), sl22⟩) (c22 : PySem.W.codeIn K cd22 "law" = true) (k22 : PySem.W.keepIn K (.ref f22) = true)
    (pg : PySem.W.plainGet K C Str.empty = true) (hd : PySem.W.hasDictIn K C = true) (po : PySem.W.plainOver K C = true) (sa : PySem.W.findIn K (.ref C) "__setattr__" = some (some (.builtin "object.__setattr__"))) (mk : PySem.W.makesIn K C = true) (kc : PySem.W.keepIn K (.ref C) = true)
    (n0 : PySem.W.findIn K (.ref C) "_places" = some none)
    (n1 : PySem.W.findIn K (.ref C) "_ties" = some none)
    (n2 : PySem.W.findIn K (.ref C) "_ties_from" = some none)
    (n3 : PySem.W.findIn K (.ref C) "_ties_to" = some none)
    (q1 : PySem.W.findIn K (.ref C) "__class__" = some (some (.builtin "object.__class__"))) (q2 : PySem.W.specialIn K (.builtin "object.__class__") "__get__" = some (some (.builtin "getset_descriptor.__get__"))) (q3 : PySem.W.takesIn K (.builtin "object.__class__") = some true) (q4 : PySem.W.mroIn K C (.type "object") = some true)
    (w1 : PySem.W.findIn K (.ref C) "__ne__" = some (some (.builtin "object.__ne__")))
    (z0 : PySem.W.nsIn K mainGlobals "isinstance" = some none)
    (z1 : PySem.W.nsIn K mainGlobals "int" = some none)
    (z2 : PySem.W.nsIn K mainGlobals "bool" = some none)
    (z3 : PySem.W.nsIn K mainGlobals "list" = some none)
    (z4 : PySem.W.nsIn K mainGlobals "tuple" = some none)
    (z5 : PySem.W.nsIn K mainGlobals "len" = some none)
    (z6 : PySem.W.nsIn K mainGlobals "range" = some none)
    (z7 : PySem.W.nsIn K mainGlobals "abs" = some none)
    (z8 : PySem.W.nsIn K mainGlobals "max" = some none)
    (z9 : PySem.W.nsIn K mainGlobals "min" = some none)
    (z10 : PySem.W.nsIn K mainGlobals "divmod" = some none)
    (z11 : PySem.W.nsIn K mainGlobals "enumerate" = some none)
    (z12 : PySem.W.nsIn K mainGlobals "zip" = some none)
    (z13 : PySem.W.nsIn K mainGlobals "repr" = some none)
    (y0 : PySem.W.nsIn K mainGlobals "MOST_PLACES" = some (some (.int 60 t0)))
    (y1 : PySem.W.nsIn K mainGlobals "MOST_TIES" = some (some (.int 80 t1)))
    (y2 : PySem.W.nsIn K mainGlobals "LONGEST_WALK" = some (some (.int 400 t2)))
    (y3 : PySem.W.nsIn K mainGlobals "LONGEST_ROUND" = some (some (.int 200000 t3)))
    : ∃ fd : FuncData, (∀ (s : Shared) (v : Value), BindsTo s fd ⟨[v], []⟩ [("_law_script", v)]) ∧ ∀ base : Heap, K.In base → base.Ns mainGlobals mg → FnG l.prog w K mg base 9 fa fd ["_law_script"] (splaw K 0) := by
  have e := hfa.symm.trans (PySem.W.mg_of X G a22)
  cases e
  have B : Bs mg := ⟨PySem.W.mg_none_of X G z0, PySem.W.mg_none_of X G z1, PySem.W.mg_none_of X G z2, PySem.W.mg_none_of X G z3, PySem.W.mg_none_of X G z4, PySem.W.mg_none_of X G z5, PySem.W.mg_none_of X G z6, PySem.W.mg_none_of X G z7, PySem.W.mg_none_of X G z8, PySem.W.mg_none_of X G z9, PySem.W.mg_none_of X G z10, PySem.W.mg_none_of X G z11, PySem.W.mg_none_of X G z12, PySem.W.mg_none_of X G z13⟩
  have Glb : Glo mg := ⟨⟨t0, PySem.W.mg_of X G y0⟩, ⟨t1, PySem.W.mg_of X G y1⟩, ⟨t2, PySem.W.mg_of X G y2⟩, ⟨t3, PySem.W.mg_of X G y3⟩⟩
  have WK : WebK K mg C := ⟨⟨pg, hd, po, sa⟩, n0, n1, n2, n3, PySem.W.mg_of X G aC, q1, q2, q3, q4, (by unfold PySem.W.kitOne; exact if_pos (beq_self_eq_true _)), w1⟩
  have DWeb___init__ : DefI K C "__init__" "Web.__init__" sWeb___init__ ["self", "places", "ties"] := ⟨fM0, _, fun_mk (st := sWeb___init__) lM0 cM0 kM0, ⟨mk, aM0, iM0, kc⟩, (fun_mk (st := sWeb___init__) lM0 cM0 kM0).binds (ps := ["self", "places", "ties"]) fun _ _ _ _ _ _ us hl => match us, hl with | [_, _, _], _ => rfl⟩
  have DWeb_many : DefP K C "many" "Web.many" sWeb_many ["self"] := ⟨pM1, fM1, _, fun_mk (st := sWeb_many) lM1 cM1 kM1, ⟨aM1, gM1, tM1, _, rM1⟩, (fun_mk (st := sWeb_many) lM1 cM1 kM1).binds (ps := ["self"]) fun _ _ _ _ _ _ us hl => match us, hl with | [_], _ => rfl⟩
  have DWeb_ties : DefM K C "ties" "Web.ties" sWeb_ties ["self"] := ⟨fM2, _, fun_mk (st := sWeb_ties) lM2 cM2 kM2, ⟨aM2, iM2, kM2⟩, (fun_mk (st := sWeb_ties) lM2 cM2 kM2).binds (ps := ["self"]) fun _ _ _ _ _ _ us hl => match us, hl with | [_], _ => rfl⟩
  have Dlongest_borders : Def K mg "longest_borders" slongest_borders ["word"] := def_mk X G a0 l0 c0 k0 fun _ _ _ _ _ _ us hl => match us, hl with | [_], _ => rfl
  have Dstarts_in : Def K mg "starts_in" sstarts_in ["cycle", "word"] := def_mk X G a1 l1 c1 k1 fun _ _ _ _ _ _ us hl => match us, hl with | [_, _], _ => rfl
  have Dis_integer : Def K mg "is_integer" sis_integer ["value"] := def_mk X G a2 l2 c2 k2 fun _ _ _ _ _ _ us hl => match us, hl with | [_], _ => rfl
  have Dis_count : Def K mg "is_count" sis_count ["value"] := def_mk X G a3 l3 c3 k3 fun _ _ _ _ _ _ us hl => match us, hl with | [_], _ => rfl
  have Dis_between : Def K mg "is_between" sis_between ["value", "least", "most"] := def_mk X G a4 l4 c4 k4 fun _ _ _ _ _ _ us hl => match us, hl with | [_, _, _], _ => rfl
  have Dis_below : Def K mg "is_below" sis_below ["value", "limit"] := def_mk X G a5 l5 c5 k5 fun _ _ _ _ _ _ us hl => match us, hl with | [_, _], _ => rfl
  have Dis_listed : Def K mg "is_listed" sis_listed ["value"] := def_mk X G a6 l6 c6 k6 fun _ _ _ _ _ _ us hl => match us, hl with | [_], _ => rfl
  have Dare_ties : Def K mg "are_ties" sare_ties ["places", "value"] := def_mk X G a7 l7 c7 k7 fun _ _ _ _ _ _ us hl => match us, hl with | [_, _], _ => rfl
  have Dneed_web : Def K mg "need_web" sneed_web ["web"] := def_mk X G a8 l8 c8 k8 fun _ _ _ _ _ _ us hl => match us, hl with | [_], _ => rfl
  have Dare_numbers : Def K mg "are_numbers" sare_numbers ["web", "value"] := def_mk X G a9 l9 c9 k9 fun _ _ _ _ _ _ us hl => match us, hl with | [_, _], _ => rfl
  have D_go_on : Def K mg "_go_on" s_go_on ["web", "value", "longest"] := def_mk X G a10 l10 c10 k10 fun _ _ _ _ _ _ us hl => match us, hl with | [_, _, _], _ => rfl
  have Dis_walk : Def K mg "is_walk" sis_walk ["web", "value"] := def_mk X G a11 l11 c11 k11 fun _ _ _ _ _ _ us hl => match us, hl with | [_, _], _ => rfl
  have Dis_round : Def K mg "is_round" sis_round ["web", "value"] := def_mk X G a12 l12 c12 k12 fun _ _ _ _ _ _ us hl => match us, hl with | [_, _], _ => rfl
  have Dneed_walk : Def K mg "need_walk" sneed_walk ["web", "walk"] := def_mk X G a13 l13 c13 k13 fun _ _ _ _ _ _ us hl => match us, hl with | [_, _], _ => rfl
  have Dneed_tour : Def K mg "need_tour" sneed_tour ["web", "tour"] := def_mk X G a14 l14 c14 k14 fun _ _ _ _ _ _ us hl => match us, hl with | [_, _], _ => rfl
  have Dtimes_in : Def K mg "times_in" stimes_in ["web", "tour", "walk"] := def_mk X G a15 l15 c15 k15 fun _ _ _ _ _ _ us hl => match us, hl with | [_, _, _], _ => rfl
  have D_law_pot : Def K mg "_law_pot" s_law_pot ["_law_script", "_law_k"] := def_mk X G a16 l16 c16 k16 fun _ _ _ _ _ _ us hl => match us, hl with | [_, _], _ => rfl
  have D_law_draw : Def K mg "_law_draw" s_law_draw ["_law_pot_here", "_law_many"] := def_mk X G a17 l17 c17 k17 fun _ _ _ _ _ _ us hl => match us, hl with | [_, _], _ => rfl
  have D_law_close : Def K mg "_law_close" s_law_close ["_law_pot_here", "_law_most", "_law_more"] := def_mk X G a18 l18 c18 k18 fun _ _ _ _ _ _ us hl => match us, hl with | [_, _, _], _ => rfl
  have D_law_walk : Def K mg "_law_walk" s_law_walk ["_law_pot_here", "_law_ties", "_law_many"] := def_mk X G a19 l19 c19 k19 fun _ _ _ _ _ _ us hl => match us, hl with | [_, _, _], _ => rfl
  have D_law_times : Def K mg "_law_times" s_law_times ["_law_tour_here", "_law_walk_here"] := def_mk X G a20 l20 c20 k20 fun _ _ _ _ _ _ us hl => match us, hl with | [_, _], _ => rfl
  have D_law_tour : Def K mg "_law_tour" s_law_tour ["_law_pot_here", "_law_places", "_law_ties"] := def_mk X G a21 l21 c21 k21 fun _ _ _ _ _ _ us hl => match us, hl with | [_, _, _], _ => rfl
  have Dlaw : Def K mg "law" slaw ["_law_script"] := def_mk X G a22 l22 c22 k22 fun _ _ _ _ _ _ us hl => match us, hl with | [_], _ => rfl
  refine ⟨PySem.W.fnOf "law" "law" (defArgs slaw) (defBody slaw) (defScope slaw) .none kV22 dc22 pm22 an22 cd22 ct22, fun s v => .of_eq rfl, fun base _ _ => ?_⟩
  have H_law_pot := ok_law_pot (P := l.prog) (w := w) (base := base) D_law_pot B Glb WK
  have H_law_draw := ok_law_draw (P := l.prog) (w := w) (base := base) D_law_draw B Glb WK
  have H_law_close := ok_law_close (P := l.prog) (w := w) (base := base) D_law_close B Glb WK H_law_draw
  have H_law_walk := ok_law_walk (P := l.prog) (w := w) (base := base) D_law_walk B Glb WK H_law_draw
  have H_law_tour := ok_law_tour (P := l.prog) (w := w) (base := base) D_law_tour B Glb WK H_law_walk H_law_draw
  have H_law_times := ok_law_times (P := l.prog) (w := w) (base := base) D_law_times B Glb WK
  have Hneed_web := okneed_web (P := l.prog) (w := w) (base := base) Dneed_web B Glb WK
  have His_listed := okis_listed (P := l.prog) (w := w) (base := base) Dis_listed B Glb WK
  have His_integer := okis_integer (P := l.prog) (w := w) (base := base) Dis_integer B Glb WK
  have His_between := okis_between (P := l.prog) (w := w) (base := base) Dis_between B Glb WK His_integer
  have His_count := okis_count (P := l.prog) (w := w) (base := base) Dis_count B Glb WK His_integer
  have His_below := okis_below (P := l.prog) (w := w) (base := base) Dis_below B Glb WK His_count
  have HWeb_many := okWeb_many (P := l.prog) (w := w) (base := base) DWeb_many B Glb WK
  have Hare_numbers := okare_numbers (P := l.prog) (w := w) (base := base) Dare_numbers B Glb WK His_listed His_below HWeb_many
  have HWeb_ties := okWeb_ties (P := l.prog) (w := w) (base := base) DWeb_ties B Glb WK
  have H_go_on := ok_go_on (P := l.prog) (w := w) (base := base) D_go_on B Glb WK His_listed His_between Hare_numbers HWeb_ties
  have His_round := okis_round (P := l.prog) (w := w) (base := base) Dis_round B Glb WK Hneed_web H_go_on HWeb_ties
  have Hneed_tour := okneed_tour (P := l.prog) (w := w) (base := base) Dneed_tour B Glb WK His_round
  have His_walk := okis_walk (P := l.prog) (w := w) (base := base) Dis_walk B Glb WK Hneed_web H_go_on
  have Hneed_walk := okneed_walk (P := l.prog) (w := w) (base := base) Dneed_walk B Glb WK His_walk
  have Hlongest_borders := oklongest_borders (P := l.prog) (w := w) (base := base) Dlongest_borders B Glb WK
  have Hstarts_in := okstarts_in (P := l.prog) (w := w) (base := base) Dstarts_in B Glb WK Hlongest_borders
  have Htimes_in := oktimes_in (P := l.prog) (w := w) (base := base) Dtimes_in B Glb WK Hneed_web Hneed_tour Hneed_walk Hstarts_in
  have Hare_ties := okare_ties (P := l.prog) (w := w) (base := base) Dare_ties B Glb WK His_listed His_below
  have HWeb___init__ := okWeb___init__ (P := l.prog) (w := w) (base := base) DWeb___init__ B Glb WK His_between Hare_ties
  have Hlaw := oklaw (P := l.prog) (w := w) (base := base) Dlaw B Glb WK H_law_pot H_law_close H_law_tour H_law_walk H_law_times H_law_draw Htimes_in HWeb___init__
  obtain ⟨f, fd, O, m, k, b, F⟩ := Hlaw
  have e2 := m.symm.trans hfa
  cases e2
  rw [fd_is F l22] at O
  exact O
theorem walk {l : PySem.W.OpenLaw} {q : Program} {loose : List Str} {XP : (Str → Option Value) → Heap → Prop} {YP : World → Heap → Prop} {d : DefRec} {K : Params → PySem.W.Frag} (hn : l.most = some 63) (hdf : d.params.defaults = [])
    (hY : ∀ (w : World) (h : Heap), YP w h → (K w.params).In h)
    (F : ∀ (w : World) (mg : Str → Option Value) (fa : Addr) (h : Heap), (K w.params).In h → h.Ns mainGlobals mg → mg d.name = some (.ref fa) →
      ∃ fd : FuncData, (∀ (s : Shared) (u : Value), BindsTo s fd ⟨[u], []⟩ [("_law_script", u)]) ∧ ∀ base : Heap, (K w.params).In base → base.Ns mainGlobals mg → FnG l.prog w (K w.params) mg base 9 fa fd ["_law_script"] (splaw (K w.params) 0)) :
    PySem.W.WalkO q loose XP YP l.row.toRowW d [] (fun f vs => PySem.call f vs) :=
  walk_ofG (n := 63) (k := 9) (x := "_law_script") (sp := fun w => splaw (K w.params) 0) hn (by decide) hdf ⟨rfl, by decide, by decide⟩ hY F (fun _ _ a ns hl _ hS => ⟨a, ns, rfl, hS, hl, fun _ => rfl⟩)
end My
open PySem PySem.W PyProof.Rows
set_option maxRecDepth 100000 in
set_option maxHeartbeats 0 in
theorem PySem.Challenge.cw_suretexts_k63_whole_times_in_a_round_holds : PySem.Challenge.rw_suretexts_k63_whole_times_in_a_round.Holds := by
  w_on; o_law; k_head; (case hw => w_witness2)
  k_fill
  refine My.walk (l := PySem.Challenge.rw_suretexts_k63_whole_times_in_a_round) rfl rfl (fun w h Y => PySem.W.kIn_of Y) ?F
  case F =>
    intro w mg fa h KX G hmg
    refine' My.all_mk KX G hmg ?aC ?aM0 ?iM0 ?lM0 ?cM0 ?kM0 ?aM1 ?gM1 ?tM1 ?rM1 ?lM1 ?cM1 ?kM1 ?aM2 ?iM2 ?lM2 ?cM2 ?kM2 ?a0 ?l0 ?c0 ?k0 ?a1 ?l1 ?c1 ?k1 ?a2 ?l2 ?c2 ?k2 ?a3 ?l3 ?c3 ?k3 ?a4 ?l4 ?c4 ?k4 ?a5 ?l5 ?c5 ?k5 ?a6 ?l6 ?c6 ?k6 ?a7 ?l7 ?c7 ?k7 ?a8 ?l8 ?c8 ?k8 ?a9 ?l9 ?c9 ?k9 ?a10 ?l10 ?c10 ?k10 ?a11 ?l11 ?c11 ?k11 ?a12 ?l12 ?c12 ?k12 ?a13 ?l13 ?c13 ?k13 ?a14 ?l14 ?c14 ?k14 ?a15 ?l15 ?c15 ?k15 ?a16 ?l16 ?c16 ?k16 ?a17 ?l17 ?c17 ?k17 ?a18 ?l18 ?c18 ?k18 ?a19 ?l19 ?c19 ?k19 ?a20 ?l20 ?c20 ?k20 ?a21 ?l21 ?c21 ?k21 ?a22 ?l22 ?c22 ?k22 ?pg ?hd ?po ?sa ?mk ?kc ?n0 ?n1 ?n2 ?n3 ?q1 ?q2 ?q3 ?q4 ?w1 ?z0 ?z1 ?z2 ?z3 ?z4 ?z5 ?z6 ?z7 ?z8 ?z9 ?z10 ?z11 ?z12 ?z13 ?y0 ?y1 ?y2 ?y3
    (case aC => k_is)
    (case aM0 => k_is)
    (case iM0 => k_is)
    (case lM0 => k_is)
    (case cM0 => k_is)
    (case kM0 => k_is)
    (case aM1 => k_is)
    (case gM1 => k_is)
    (case tM1 => k_is)
    (case rM1 => k_is)
    (case lM1 => k_is)
    (case cM1 => k_is)
    (case kM1 => k_is)
    (case aM2 => k_is)
    (case iM2 => k_is)
    (case lM2 => k_is)
    (case cM2 => k_is)
    (case kM2 => k_is)
    (case a0 => k_is)
    (case l0 => k_is)
    (case c0 => k_is)
    (case k0 => k_is)
    (case a1 => k_is)
    (case l1 => k_is)
    (case c1 => k_is)
    (case k1 => k_is)
    (case a2 => k_is)
    (case l2 => k_is)
    (case c2 => k_is)
    (case k2 => k_is)
    (case a3 => k_is)
    (case l3 => k_is)
    (case c3 => k_is)
    (case k3 => k_is)
    (case a4 => k_is)
    (case l4 => k_is)
    (case c4 => k_is)
    (case k4 => k_is)
    (case a5 => k_is)
    (case l5 => k_is)
    (case c5 => k_is)
    (case k5 => k_is)
    (case a6 => k_is)
    (case l6 => k_is)
    (case c6 => k_is)
    (case k6 => k_is)
    (case a7 => k_is)
    (case l7 => k_is)
    (case c7 => k_is)
    (case k7 => k_is)
    (case a8 => k_is)
    (case l8 => k_is)
    (case c8 => k_is)
    (case k8 => k_is)
    (case a9 => k_is)
    (case l9 => k_is)
    (case c9 => k_is)
    (case k9 => k_is)
    (case a10 => k_is)
    (case l10 => k_is)
    (case c10 => k_is)
    (case k10 => k_is)
    (case a11 => k_is)
    (case l11 => k_is)
    (case c11 => k_is)
    (case k11 => k_is)
    (case a12 => k_is)
    (case l12 => k_is)
    (case c12 => k_is)
    (case k12 => k_is)
    (case a13 => k_is)
    (case l13 => k_is)
    (case c13 => k_is)
    (case k13 => k_is)
    (case a14 => k_is)
    (case l14 => k_is)
    (case c14 => k_is)
    (case k14 => k_is)
    (case a15 => k_is)
    (case l15 => k_is)
    (case c15 => k_is)
    (case k15 => k_is)
    (case a16 => k_is)
    (case l16 => k_is)
    (case c16 => k_is)
    (case k16 => k_is)
    (case a17 => k_is)
    (case l17 => k_is)
    (case c17 => k_is)
    (case k17 => k_is)
    (case a18 => k_is)
    (case l18 => k_is)
    (case c18 => k_is)
    (case k18 => k_is)
    (case a19 => k_is)
    (case l19 => k_is)
    (case c19 => k_is)
    (case k19 => k_is)
    (case a20 => k_is)
    (case l20 => k_is)
    (case c20 => k_is)
    (case k20 => k_is)
    (case a21 => k_is)
    (case l21 => k_is)
    (case c21 => k_is)
    (case k21 => k_is)
    (case a22 => k_is)
    (case l22 => k_is)
    (case c22 => k_is)
    (case k22 => k_is)
    (case pg => k_is)
    (case hd => k_is)
    (case po => k_is)
    (case sa => k_is)
    (case mk => k_is)
    (case kc => k_is)
    (case n0 => k_is)
    (case n1 => k_is)
    (case n2 => k_is)
    (case n3 => k_is)
    (case q1 => k_is)
    (case q2 => k_is)
    (case q3 => k_is)
    (case q4 => k_is)
    (case w1 => k_is)
    (case z0 => k_is)
    (case z1 => k_is)
    (case z2 => k_is)
    (case z3 => k_is)
    (case z4 => k_is)
    (case z5 => k_is)
    (case z6 => k_is)
    (case z7 => k_is)
    (case z8 => k_is)
    (case z9 => k_is)
    (case z10 => k_is)
    (case z11 => k_is)
    (case z12 => k_is)
    (case z13 => k_is)
    (case y0 => k_is)
    (case y1 => k_is)
    (case y2 => k_is)
    (case y3 => k_is)
