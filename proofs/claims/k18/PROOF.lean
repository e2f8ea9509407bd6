import PyProof.Rows.All
import Wide.All
import OpenK.AllK
import Wide.FinOn
import HandS.ForMost
import HandS.IsInst
import HandS.SortInts
import HandS.Walk
import HandS.Property
import HandS.Style
import HandS.OwnEq
import PyProof.InstNe
import HandS.DictTup
import KE.SortData
import KE.KDictWalk
import HandS.Set
import HandS.Strs
import PyProof.TupleOfSeq
import HandS.ForExc
import HandS.TryOnly
import HandS.ExcOwn
import HandS.ExcIs
import HandS.MakeKwOnly
import HandS.ExcInit
import HandS.ExcField
import HandS.Iter
import HandS.DictComp
import HandS.Small
import KE.DataMinMax
import PyProof.Rows.StrStep
import HandS.Deep
import HandS.FStr
import PyProof.NeKinds
import KE.KUnpackStar
import HandS.Text
import KE.IntTextText
import PyProof.StrLawsChain
import PyProof.StrLawsIn
import HandS.ListItems
import HandS.Flow
import PySem.Challenge.RW_suretexts_k18_any_text_as_a_lot
set_option Elab.async false
set_option maxRecDepth 100000
set_option linter.all false
namespace My
/-! ### reading round and round -/
def rd (l : List Nat) (p n : Nat) : List Nat := (List.range n).map fun k => l.getD ((p + k) % l.length) 0
theorem rd_len (l : List Nat) (p n : Nat) : (rd l p n).length = n := by simp [rd]
theorem rd_zero (l : List Nat) (p : Nat) : rd l p 0 = [] := rfl
theorem rd_succ (l : List Nat) (p n : Nat) : rd l p (n + 1) = rd l p n ++ [l.getD ((p + n) % l.length) 0] := by
  simp [rd, List.range_succ]
theorem rd_get (l : List Nat) (p n k : Nat) (h : k < n) : (rd l p n)[k]? = some (l.getD ((p + k) % l.length) 0) := by
  simp [rd, h]
theorem rd_drop (l : List Nat) (p n k : Nat) : (rd l p n).drop k = rd l (p + k) (n - k) := by
  apply List.ext_getElem?
  intro i
  rw [List.getElem?_drop]
  by_cases h : k + i < n
  · rw [rd_get _ _ _ _ h, rd_get _ _ _ _ (by omega), Nat.add_assoc]
  · rw [List.getElem?_eq_none (by rw [rd_len]; omega), List.getElem?_eq_none (by rw [rd_len]; omega)]
theorem rd_mod (l : List Nat) (p n : Nat) : rd l (p % l.length) n = rd l p n := by
  unfold rd
  apply List.map_congr_left
  intro k _
  rw [Nat.mod_add_mod]
theorem rd_self (l : List Nat) : rd l 0 l.length = l := by
  apply List.ext_getElem?
  intro i
  by_cases h : i < l.length
  · rw [rd_get _ _ _ _ h, Nat.zero_add, Nat.mod_eq_of_lt h, List.getElem?_eq_getElem h, List.getD_eq_getElem?_getD, List.getElem?_eq_getElem h]
    rfl
  · rw [List.getElem?_eq_none (by rw [rd_len]; omega), List.getElem?_eq_none (by omega)]
/-- turned -/
theorem rd_turn (l : List Nat) (p : Nat) (h : p < l.length) : rd l p l.length = l.drop p ++ l.take p := by
  apply List.ext_getElem?
  intro i
  by_cases hi : i < l.length
  · rw [rd_get _ _ _ _ hi]
    by_cases h2 : i < l.length - p
    · rw [List.getElem?_append_left (by rw [List.length_drop]; exact h2), List.getElem?_drop, Nat.mod_eq_of_lt (by omega), List.getElem?_eq_getElem (by omega), List.getD_eq_getElem?_getD, List.getElem?_eq_getElem (by omega)]
      rfl
    · rw [List.getElem?_append_right (by rw [List.length_drop]; omega), List.length_drop, List.getElem?_take_of_lt (by omega)]
      have e : (p + i) % l.length = i - (l.length - p) := by
        rw [Nat.mod_eq_sub_mod (by omega), Nat.mod_eq_of_lt (by omega)]
        omega
      rw [e, List.getElem?_eq_getElem (by omega), List.getD_eq_getElem?_getD, List.getElem?_eq_getElem (by omega)]
      rfl
  · rw [List.getElem?_eq_none (by rw [rd_len]; omega), List.getElem?_eq_none (by rw [List.length_append, List.length_drop, List.length_take]; omega)]
/-- reading from a turned ring -/
theorem rd_turned (l : List Nat) (b p n : Nat) (hl : 0 < l.length) : rd (rd l b l.length) p n = rd l (b + p) n := by
  unfold rd
  apply List.map_congr_left
  intro k _
  have e : ((List.range l.length).map fun k => l.getD ((b + k) % l.length) 0).length = l.length := by simp
  rw [e]
  have h2 : (p + k) % l.length < l.length := Nat.mod_lt _ hl
  rw [List.getD_eq_getElem?_getD, List.getElem?_map, List.getElem?_range h2]
  show l.getD ((b + (p + k) % l.length) % l.length) 0 = _
  rw [Nat.add_mod_mod, Nat.add_assoc]

/-! ### beginnings that are endings -/
def Pre (w t : List Nat) (k : Nat) : Prop := k ≤ w.length ∧ w.take k <:+ t
def Longest (w t : List Nat) (k : Nat) : Prop := Pre w t k ∧ ∀ k', Pre w t k' → k' ≤ k
def IsLB (p : List Nat) (b : Nat) : Prop := b < p.length ∧ p.take b <:+ p ∧ ∀ b', b' < p.length → p.take b' <:+ p → b' ≤ b
def At (w t : List Nat) (c k : Nat) : Prop := Pre w t k ∧ ∀ k', Pre w t k' → w[k']? = some c → k' ≤ k
theorem suff_one {a t : List Nat} {x c : Nat} : a ++ [x] <:+ t ++ [c] ↔ a <:+ t ∧ x = c := by
  constructor
  · rintro ⟨u, hu⟩
    rw [← List.append_assoc] at hu
    have h := List.append_inj' hu rfl
    exact ⟨⟨u, h.1⟩, by simpa using h.2⟩
  · rintro ⟨⟨u, hu⟩, rfl⟩
    exact ⟨u, by rw [← hu, List.append_assoc]⟩
theorem pre_succ {w t : List Nat} {c k : Nat} : Pre w (t ++ [c]) (k + 1) ↔ Pre w t k ∧ w[k]? = some c := by
  unfold Pre
  constructor
  · rintro ⟨h1, h2⟩
    have hk : k < w.length := by omega
    rw [List.take_succ_eq_append_getElem hk, suff_one] at h2
    exact ⟨⟨by omega, h2.1⟩, by rw [List.getElem?_eq_getElem hk, h2.2]⟩
  · rintro ⟨⟨h1, h2⟩, h3⟩
    have hk : k < w.length := by
      rw [List.getElem?_eq_some_iff] at h3
      exact h3.1
    rw [List.take_succ_eq_append_getElem hk, suff_one]
    rw [List.getElem?_eq_getElem hk] at h3
    exact ⟨by omega, h2, Option.some.inj h3⟩
theorem pre_zero (w t : List Nat) : Pre w t 0 := ⟨Nat.zero_le _, by simp⟩
theorem at_start {w t : List Nat} {c k : Nat} (h : Longest w t k) : At w t c k := ⟨h.1, fun k' h' _ => h.2 k' h'⟩
theorem at_fall {w t : List Nat} {c k b : Nat} (h : At w t c k) (hne : w[k]? ≠ some c) (hb : IsLB (w.take k) b) : At w t c b := by
  obtain ⟨h1, h2⟩ := h
  obtain ⟨b1, b2, b3⟩ := hb
  have lk : (w.take k).length = k := by rw [List.length_take]; have := h1.1; omega
  rw [lk] at b1 b3
  have tk : ∀ j, j ≤ k → (w.take k).take j = w.take j := fun j hj => by rw [List.take_take, Nat.min_eq_left hj]
  refine ⟨⟨by have := h1.1; omega, ?_⟩, fun k' p' e' => ?_⟩
  · rw [← tk b (by omega)]
    exact b2.trans h1.2
  · have l1 := h2 k' p' e'
    have l2 : k' ≠ k := by rintro rfl; exact hne e'
    have l3 : k' < k := by omega
    refine b3 k' l3 ?_
    rw [tk k' (by omega)]
    refine List.suffix_of_suffix_length_le p'.2 h1.2 ?_
    rw [List.length_take, List.length_take]
    have := h1.1
    omega
theorem at_hit {w t : List Nat} {c k : Nat} (h : At w t c k) (he : w[k]? = some c) : Longest w (t ++ [c]) (k + 1) := by
  refine ⟨pre_succ.mpr ⟨h.1, he⟩, fun k' p' => ?_⟩
  cases k' with
  | zero => omega
  | succ j =>
    have q := pre_succ.mp p'
    have := h.2 j q.1 q.2
    omega
theorem at_miss {w t : List Nat} {c : Nat} (h : At w t c 0) (he : w[0]? ≠ some c) : Longest w (t ++ [c]) 0 := by
  refine ⟨pre_zero _ _, fun k' p' => ?_⟩
  cases k' with
  | zero => omega
  | succ j =>
    have q := pre_succ.mp p'
    have l := h.2 j q.1 q.2
    have e : j = 0 := by omega
    subst e
    exact absurd q.2 he
theorem longest_nil (w : List Nat) : Longest w [] 0 := by
  refine ⟨pre_zero _ _, fun k' p' => ?_⟩
  have h := List.suffix_nil.mp p'.2
  have h2 : (w.take k').length = 0 := by rw [h]; rfl
  rw [List.length_take] at h2
  have := p'.1
  omega
theorem longest_le {w t : List Nat} {k : Nat} (h : Longest w t k) : k ≤ t.length := by
  have h1 := h.1.2.length_le
  rw [List.length_take] at h1
  have := h.1.1
  omega
/-- the longest beginning that ends the letters behind the first one is the longest border -/
theorem lb_of_longest {w : List Nat} {i k : Nat} (hi : i < w.length) (h : Longest w ((w.drop 1).take i) k) : IsLB (w.take (i + 1)) k := by
  have hk := longest_le h
  have ht : ((w.drop 1).take i).length = i := by rw [List.length_take, List.length_drop]; omega
  rw [ht] at hk
  have hl : (w.take (i + 1)).length = i + 1 := by rw [List.length_take]; omega
  have tk : ∀ j, j ≤ i + 1 → (w.take (i + 1)).take j = w.take j := fun j hj => by rw [List.take_take, Nat.min_eq_left hj]
  obtain ⟨a, r, rfl⟩ : ∃ a r, w = a :: r := by
    cases w with
    | nil => simp at hi
    | cons a r => exact ⟨a, r, rfl⟩
  have e : (a :: r).take (i + 1) = a :: ((a :: r).drop 1).take i := by simp
  refine ⟨by omega, ?_, fun b' hb' hs => ?_⟩
  · rw [tk k (by omega), e]
    exact h.1.2.trans (List.suffix_cons _ _)
  · rw [hl] at hb'
    refine h.2 b' ⟨by omega, ?_⟩
    rw [tk b' (by omega), e, List.suffix_cons_iff] at hs
    rcases hs with hs | hs
    · have hq := congrArg List.length hs
      rw [List.length_take, ← e, hl] at hq
      omega
    · exact hs
theorem lb_one {w : List Nat} (h : 0 < w.length) : IsLB (w.take 1) 0 := lb_of_longest h (by simpa using longest_nil w)
theorem lb_unique {p : List Nat} {a b : Nat} (h1 : IsLB p a) (h2 : IsLB p b) : a = b := by
  have := h1.2.2 b h2.1 h2.2.1
  have := h2.2.2 a h1.1 h1.2.1
  omega
/-- the list of the longest borders -/
def Bords (w : List Nat) (L : List Nat) : Prop := L.length = w.length ∧ ∀ j, j < w.length → ∃ b, L[j]? = some b ∧ IsLB (w.take (j + 1)) b
theorem bords_unique {w A B : List Nat} (h1 : Bords w A) (h2 : Bords w B) : A = B := by
  apply List.ext_getElem?
  intro i
  by_cases h : i < w.length
  · obtain ⟨a, ea, la⟩ := h1.2 i h
    obtain ⟨b, eb, lb⟩ := h2.2 i h
    rw [ea, eb, lb_unique la lb]
  · rw [List.getElem?_eq_none (by rw [h1.1]; omega), List.getElem?_eq_none (by rw [h2.1]; omega)]
/-- some first ones of them -/
def BordsTo (w : List Nat) (n : Nat) (L : List Nat) : Prop := L.length = n ∧ ∀ j, j < n → ∃ b, L[j]? = some b ∧ IsLB (w.take (j + 1)) b
theorem bordsTo_one {w : List Nat} (h : 0 < w.length) : BordsTo w 1 [0] := by
  refine ⟨rfl, fun j hj => ?_⟩
  have e : j = 0 := by omega
  subst e
  exact ⟨0, rfl, lb_one h⟩
theorem bordsTo_succ {w L : List Nat} {i k : Nat} (hi : i < w.length) (hB : BordsTo w i L) (h : Longest w ((w.drop 1).take i) k) : BordsTo w (i + 1) (L ++ [k]) := by
  refine ⟨by rw [List.length_append, hB.1]; rfl, fun j hj => ?_⟩
  by_cases hji : j < i
  · obtain ⟨b, e, l⟩ := hB.2 j hji
    exact ⟨b, by rw [List.getElem?_append_left (by rw [hB.1]; exact hji)]; exact e, l⟩
  · have e : j = i := by omega
    subst e
    refine ⟨k, ?_, lb_of_longest hi h⟩
    rw [List.getElem?_append_right (by rw [hB.1]; omega), hB.1, Nat.sub_self]
    rfl
theorem bordsTo_at {w L : List Nat} {n k : Nat} (hB : BordsTo w n L) (h0 : 0 < k) (hk : k ≤ n) : ∃ b, L[k - 1]? = some b ∧ IsLB (w.take k) b ∧ b < k := by
  obtain ⟨b, e, l⟩ := hB.2 (k - 1) (by omega)
  rw [show k - 1 + 1 = k by omega] at l
  refine ⟨b, e, l, ?_⟩
  have := l.1
  rw [List.length_take] at this
  omega
theorem bords_of {w L : List Nat} : BordsTo w w.length L ↔ Bords w L := Iff.rfl

/-! ### a word begins at a place -/
def due (l w : List Nat) : List Nat := (List.range l.length).filter fun p => rd l p w.length == w
theorem mem_due {l w : List Nat} {p : Nat} : p ∈ due l w ↔ p < l.length ∧ rd l p w.length = w := by
  simp [due]
/-- of the first n letters read -/
def dueTo (l w : List Nat) (n : Nat) : List Nat := (List.range n).filter fun p => rd l p w.length == w
theorem dueTo_all (l w : List Nat) : dueTo l w l.length = due l w := rfl
theorem dueTo_succ_yes {l w : List Nat} {n : Nat} (h : rd l n w.length = w) : dueTo l w (n + 1) = dueTo l w n ++ [n] := by
  simp [dueTo, List.range_succ, List.filter_append, h]
theorem dueTo_succ_no {l w : List Nat} {n : Nat} (h : ¬ rd l n w.length = w) : dueTo l w (n + 1) = dueTo l w n := by
  simp [dueTo, List.range_succ, List.filter_append, h]
/-- the whole word was just read -/
theorem longest_full {l w : List Nat} {n k : Nat} (h : Longest w (rd l 0 n) k) : k = w.length ↔ w.length ≤ n ∧ rd l (n - w.length) w.length = w := by
  have key : w <:+ rd l 0 n ↔ w.length ≤ n ∧ rd l (n - w.length) w.length = w := by
    constructor
    · intro hs
      have hl := hs.length_le
      rw [rd_len] at hl
      refine ⟨hl, ?_⟩
      have e := List.suffix_iff_eq_drop.mp hs
      rw [rd_len, rd_drop, Nat.zero_add, show n - (n - w.length) = w.length by omega] at e
      exact e.symm
    · rintro ⟨hl, e⟩
      rw [List.suffix_iff_eq_drop, rd_len, rd_drop, Nat.zero_add, show n - (n - w.length) = w.length by omega]
      exact e.symm
  rw [← key]
  constructor
  · rintro rfl
    have := h.1.2
    rw [List.take_length] at this
    exact this
  · intro hs
    have h1 := h.1.1
    have h2 := h.2 w.length ⟨Nat.le_refl _, by rw [List.take_length]; exact hs⟩
    omega

/-! ### the period -/
theorem getD_lt {l : List Nat} {i : Nat} (h : i < l.length) : l[i]? = some (l.getD i 0) := by
  rw [List.getD_eq_getElem?_getD, List.getElem?_eq_getElem h]
  rfl
theorem line_period {l : List Nat} {b : Nat} (h : IsLB l b) (i : Nat) (hi : i + (l.length - b) < l.length) : l.getD (i + (l.length - b)) 0 = l.getD i 0 := by
  have hb := h.1
  have e := List.suffix_iff_eq_drop.mp h.2.1
  have hl : (l.take b).length = b := by rw [List.length_take]; omega
  rw [hl] at e
  have e2 := congrArg (fun z : List Nat => z[i]?) e
  simp only [List.getElem?_take, List.getElem?_drop] at e2
  rw [if_pos (by omega)] at e2
  rw [List.getD_eq_getElem?_getD, List.getD_eq_getElem?_getD, e2, Nat.add_comm]
theorem line_mult {l : List Nat} {s : Nat} (h : ∀ i, i + s < l.length → l.getD (i + s) 0 = l.getD i 0) : ∀ (m i : Nat), i + m * s < l.length → l.getD (i + m * s) 0 = l.getD i 0
  | 0, i, _ => by simp
  | m + 1, i, hi => by
    have e : i + (m + 1) * s = (i + m * s) + s := by rw [Nat.succ_mul]; omega
    rw [e] at hi ⊢
    rw [h _ hi]
    exact line_mult h m i (by omega)
theorem round_period {l : List Nat} {s : Nat} (_hs : 0 < s) (hsl : s ≤ l.length) (hd : l.length % s = 0) (h : ∀ i, i + s < l.length → l.getD (i + s) 0 = l.getD i 0) (i : Nat) (hi : i < l.length) : l.getD ((i + s) % l.length) 0 = l.getD i 0 := by
  by_cases hlt : i + s < l.length
  · rw [Nat.mod_eq_of_lt hlt]
    exact h i hlt
  · have e1 : (i + s) % l.length = i + s - l.length := by
      rw [Nat.mod_eq_sub_mod (by omega), Nat.mod_eq_of_lt (by omega)]
    rw [e1]
    obtain ⟨q, hq⟩ : ∃ q, l.length = s * q := ⟨l.length / s, by rw [Nat.mul_div_cancel' (Nat.dvd_of_mod_eq_zero hd)]⟩
    have hq0 : 0 < q := by
      rcases Nat.eq_zero_or_pos q with z | z
      · subst z; omega
      · exact z
    obtain ⟨r, rfl⟩ : ∃ r, q = r + 1 := ⟨q - 1, by omega⟩
    have e2 : l.length = r * s + s := by rw [hq, Nat.mul_succ, Nat.mul_comm]
    have e3 : i = (i + s - l.length) + r * s := by omega
    have := line_mult h r (i + s - l.length) (by omega)
    rw [← e3] at this
    exact this.symm
/-- the told period -/
def per (l : List Nat) (b : Nat) : Nat := if l.length % (l.length - b) = 0 then l.length - b else l.length
theorem per_turns {l : List Nat} {b : Nat} (h : IsLB l b) (i : Nat) (hi : i < l.length) : l.getD ((i + per l b) % l.length) 0 = l.getD i 0 := by
  have hb := h.1
  unfold per
  split
  · exact round_period (by omega) (by omega) (by assumption) (fun j hj => line_period h j hj) i hi
  · rw [Nat.add_mod_right, Nat.mod_eq_of_lt hi]
theorem rd_per {l : List Nat} {b : Nat} (h : IsLB l b) (p n : Nat) : rd l (p + per l b) n = rd l p n := by
  have hb := h.1
  unfold rd
  apply List.map_congr_left
  intro k _
  rw [show p + per l b + k = (p + k) + per l b by omega, ← Nat.mod_add_mod]
  rw [per_turns h ((p + k) % l.length) (Nat.mod_lt _ (by omega))]
theorem per_pos {l : List Nat} {b : Nat} (h : IsLB l b) : 0 < per l b ∧ per l b ≤ l.length := by
  have hb := h.1
  unfold per
  split <;> omega

/-! ### rising lists of the same numbers are one list -/
theorem rising_ext : ∀ {a b : List Int}, a.Pairwise (· < ·) → b.Pairwise (· < ·) → (∀ x, x ∈ a ↔ x ∈ b) → a = b
  | [], [], _, _, _ => rfl
  | [], y :: ys, _, _, h => by have := (h y).mpr (by simp); simp at this
  | x :: xs, [], _, _, h => by have := (h x).mp (by simp); simp at this
  | x :: xs, y :: ys, ha, hb, h => by
    rw [List.pairwise_cons] at ha hb
    have e : x = y := by
      have h1 := (h x).mp (by simp)
      have h2 := (h y).mpr (by simp)
      rw [List.mem_cons] at h1 h2
      rcases h1 with h1 | h1
      · exact h1
      · rcases h2 with h2 | h2
        · exact h2.symm
        · have := ha.1 y h2
          have := hb.1 x h1
          omega
    subst e
    congr 1
    refine rising_ext ha.2 hb.2 fun z => ?_
    constructor
    · intro hz
      have := (h z).mp (List.mem_cons_of_mem _ hz)
      rw [List.mem_cons] at this
      rcases this with rfl | this
      · have := ha.1 _ hz; omega
      · exact this
    · intro hz
      have := (h z).mpr (List.mem_cons_of_mem _ hz)
      rw [List.mem_cons] at this
      rcases this with rfl | this
      · have := hb.1 _ hz; omega
      · exact this
theorem rising_of {s : List Int} (h : s.Pairwise (· ≤ ·)) (n : s.Nodup) : s.Pairwise (· < ·) := by
  have := h.and n
  exact this.imp fun ⟨h1, h2⟩ => by omega
/-- sorted, and the same numbers, none twice: that is it -/
theorem sorted_is {s m d : List Int} (hp : List.Perm s m) (hs : s.Pairwise (· ≤ ·)) (hn : m.Nodup) (hd : d.Pairwise (· < ·)) (h : ∀ x, x ∈ m ↔ x ∈ d) : s = d := by
  refine rising_ext (rising_of hs (hp.nodup_iff.mpr hn)) hd fun x => ?_
  rw [hp.mem_iff]
  exact h x
theorem due_rising (l w : List Nat) : ((due l w).map fun n : Nat => (n : Int)).Pairwise (· < ·) := by
  rw [List.pairwise_map]
  refine List.Pairwise.imp (fun {a b} (h : a < b) => by omega) ?_
  exact List.Pairwise.filter _ List.pairwise_lt_range
end My
namespace My
open PySem L2 PyProof.Rows
/-- a text by its letters -/
abbrev T (l : List Nat) : V := .str ⟨l.toArray⟩
section
variable {X : Cx}
theorem mul_flat (l : List Nat) (n : Nat) : ((List.replicate n l.toArray).foldl (· ++ ·) (#[] : Array Nat)) = (List.replicate n l).flatten.toArray := by
  have h : ∀ (m : Nat) (acc : List Nat), (List.replicate m l.toArray).foldl (· ++ ·) acc.toArray = (acc ++ (List.replicate m l).flatten).toArray := by
    intro m
    induction m with
    | zero => intro acc; simp
    | succ m ih =>
      intro acc
      rw [List.replicate_succ, List.foldl_cons]
      have e : acc.toArray ++ l.toArray = (acc ++ l).toArray := by simp
      rw [e, ih, List.replicate_succ, List.flatten_cons, List.append_assoc]
  have := h n []
  simpa using this
theorem op_mul_str : OpR X (binaryOp .Mult) (fun x y H Q => ∃ l n, x = T l ∧ y = .int (n : Nat) ∧ 1 ≤ n ∧ n ≤ 1000 ∧ l.length ≤ 1000 ∧ Q (T (List.replicate n l).flatten) H) := by
  intro pins s σ H x y v u Q I rx ry h
  obtain ⟨l, n, rfl, rfl, h1, h2, h3, q⟩ := h
  obtain ⟨t, rfl⟩ := rx
  obtain ⟨t', rfl⟩ := ry
  have hlen : (⟨l.toArray⟩ : Str).length = l.length := by simp [Str.length]
  have ok : MulOk ⟨l.toArray⟩ (n : Int) := by
    refine ⟨?_, fun _ _ => ?_, fun _ _ => ?_⟩
    · have a1 : decide ((n : Int) < -(2 ^ 63 : Int)) = false := decide_eq_false (by omega)
      have a2 : decide ((n : Int) ≥ 2 ^ 63) = false := decide_eq_false (by omega)
      rw [a1, a2]
      rfl
    · rw [hlen]
      have : (1000000 : Int) ≤ (2 ^ 63 - 1) / (n : Int) := by
        rw [Int.le_ediv_iff_mul_le (by omega)]
        omega
      omega
    · rw [hlen]
      have e : (n : Int).toNat = n := by omega
      rw [e]
      have : l.length * n ≤ 1000 * 1000 := Nat.mul_le_mul h3 h2
      have z : (1000000 : Nat) ≤ sizeLine := by decide
      simp [Builtin.Str.tooLong]
      omega
  refine SB.mul ok fun t'' k => ?_
  have em : Txt.mul ⟨l.toArray⟩ (n : Int) = ⟨(List.replicate n l).flatten.toArray⟩ := by
    unfold Txt.mul
    rw [if_neg (by omega)]
    split
    · rename_i c
      rw [hlen] at c
      simp at c
      rcases c with c | c
      · have : n = 1 := by omega
        subst this
        simp
      · subst c
        simp
    · have e : (n : Int).toNat = n := by omega
      rw [e]
      exact congrArg Str.mk (mul_flat l n)
  rw [em]
  exact ⟨.str _, H, I.tok _, ⟨_, rfl⟩, q⟩
theorem call_repr_bl : CallR X (.builtin "repr") (fun xs H Q => ∃ b, xs = [.bl b] ∧ Q (.str (if b then "True" else "False")) H) := by
  intro pins s σ H xs us Q I r h
  obtain ⟨b, rfl, q⟩ := h
  obtain ⟨u, rfl, e⟩ := vals1 r
  cases e
  exact PySem.P.repr_of_bool ⟨.str _, H, I.tok _, ⟨_, rfl⟩, q⟩
/-- a module's constant that is an int -/
theorem pe_globI {x : Str} {n : Int} {pos : Pos} (h : ∃ t, X.mg x = some (.int n t)) (hg : Gl X x := by rfl) (hd : (x == ("__debug__" : Str)) = false := by decide) : PE X (.Name x pos) (tC (.int n)) := by
  obtain ⟨t, e⟩ := h
  exact pe_glob (v := .int n) hg e ⟨t, rfl⟩ hd
variable {CX : CXT} {k : Nat} {f : Addr} {fd : FuncData} {ps ks : List Str} {sp : Sp} {E : XK} {x : Str} {p pos : Pos} {kws : List Keyword} {tk : TA} {g : List Value → List Value → List Value} {gV : List V → List V → List V}
/-- f(a=.., b=..) -/
theorem pe_callKK (F : FnOk X.prog X.w X.K X.mg X.base CX k f fd ps sp) (hr : Room k X.A) (hg : Gl X x) (hm : X.mg x = some (.ref f)) (hk : PySem.W.keepIn X.K (.ref f) = true) (hb : KBinds X.K fd ps ks g gV) (hx : Passes CX X E)
    (hkw : PK X kws tk) (hall : (backToKw pos (keywordEach kws X.env)).all (·.1.isSome) = true := by rfl) (hks : (backToKw pos (keywordEach kws X.env)).filterMap (·.1) = ks := by rfl)
    (hdb : (x == ("__debug__" : Str)) = false := by decide)
    (hpl : ((backTo pos (starEach [] X.env)).any (·.1) || (backToKw pos (keywordEach kws X.env)).any (·.1.isNone)) = false := by rfl) :
    PE X (.Call (.Name x p) [] kws pos) (tCallK sp gV E tNil tk) := by
  refine ⟨fun pins s σ H Q I h => ?_⟩
  refine wpAny_Call_Name_kw (ld_glob I hg hm ?_ hdb)
  refine PySem.W.callWith_KW0 (h₀ := X.base) I.ok.mod.kin hk hall (thn (hkw.run pos pins s σ H _ I h) fun ws s2 ⟨zs, H2, I2, rz, q2⟩ => ⟨I2.kIn, ?_⟩) hpl
  rw [hks]
  exact run_fnk F hr hb hx I2 .nil rz q2
end
/-! ### a def that stands, and one that keeps a promise -/
def Def (K : PySem.W.Frag) (mg : Str → Option Value) (x : Str) (st : Stmt) (ps : List Str) : Prop := ∃ (f : Addr) (fd : FuncData), Fun K x x st f fd ∧ mg x = some (.ref f) ∧ Binds K fd ps []
section
variable {P : Program} {w : World} {K : PySem.W.Frag} {mg : Str → Option Value} {base : Heap}
def Good (P : Program) (w : World) (K : PySem.W.Frag) (mg : Str → Option Value) (base : Heap) (x : Str) (st : Stmt) (ps : List Str) (k : Nat) (sp : Sp) : Prop := ∃ (f : Addr) (fd : FuncData), FnOk P w K mg base CX0 k f fd ps sp ∧ mg x = some (.ref f) ∧ PySem.W.keepIn K (.ref f) = true ∧ Binds K fd ps [] ∧ Fun K x x st f fd
theorem Def.good {x : Str} {st : Stmt} {ps : List Str} {k : Nat} {sp : Sp} (D : Def K mg x st ps) (h : ∀ f fd, Fun K x x st f fd → FnOk P w K mg base CX0 k f fd ps sp) : Good P w K mg base x st ps k sp := by
  obtain ⟨f, fd, F, m, b⟩ := D
  exact ⟨f, fd, h f fd F, m, F.kp, b, F⟩
theorem def_mk {h : Heap} (X : K.In h) (G : h.Ns mainGlobals mg) {x : Str} {st : Stmt} {ps : List Str} {f : Addr} {oc : Value} {od an : Option Addr} {osl : Array (Option Value)} {kV doc pm cdv ct : Value} (a : PySem.W.nsIn K mainGlobals x = some (some (.ref f)))
    (l : K.lookup f = some ⟨oc, od, .func (PySem.W.fnOf x x (defArgs st) (defBody st) (defScope st) .none kV doc pm an cdv ct), osl⟩) (c : PySem.W.codeIn K cdv x = true) (k : PySem.W.keepIn K (.ref f) = true)
    (hb : ∀ (kV doc pm : Value) (an : Option Addr) (cdv ct : Value) (us : List Value), us.length = ps.length → bindArgs (PySem.W.fnOf x x (defArgs st) (defBody st) (defScope st) .none kV doc pm an cdv ct) ⟨us, []⟩ = pure (ps.zip us)) : Def K mg x st ps :=
  ⟨f, _, fun_mk l c k, PySem.W.mg_of X G a, (fun_mk l c k).binds hb⟩
theorem fun_kbinds {x qual : Str} {st : Stmt} {f : Addr} {fd : FuncData} {ps ks : List Str} (F : Fun K x qual st f fd) (g : List Value → List Value → List Value) (gV : List V → List V → List V)
    (hrel : ∀ {vs : List V} {us : List Value} {zs : List V} {ws : List Value}, Vals vs us → Vals zs ws → Vals (gV vs zs) (g us ws))
    (h : ∀ (kV doc pm : Value) (an : Option Addr) (cdv ct : Value) (us ws : List Value), (g us ws).length = ps.length → bindArgs (PySem.W.fnOf x qual (defArgs st) (defBody st) (defScope st) .none kV doc pm an cdv ct) ⟨us, ks.zip ws⟩ = pure (ps.zip (g us ws))) : KBinds K fd ps ks g gV := by
  obtain ⟨oc, od, kV, doc, pm, an, cdv, ct, osl, rfl, lk, hcd⟩ := F.ex
  exact ⟨fun s us ws X hl => .of_eq (h kV doc pm an cdv ct us ws hl), hrel⟩
/-- two keywords, in the parameters' order, or turned; one -/
def g12 {α : Type} : List α → List α → List α | [], [a, b] => [a, b] | _, _ => []
def g21 {α : Type} : List α → List α → List α | [], [a, b] => [b, a] | _, _ => []
def g1 {α : Type} : List α → List α → List α | [], [a] => [a] | _, _ => []
theorem g12_inv {α : Type} {us ws : List α} (h : (g12 us ws).length = 2) : us = [] ∧ ∃ a b, ws = [a, b] := by
  match us, ws, h with
  | [], [a, b], _ => exact ⟨rfl, a, b, rfl⟩
  | [], [], h => exact absurd h (by simp [g12, g21, g1])
  | [], [_], h => exact absurd h (by simp [g12])
  | [], _ :: _ :: _ :: _, h => exact absurd h (by simp [g12])
  | _ :: _, _, h => exact absurd h (by simp [g12])
theorem g21_inv {α : Type} {us ws : List α} (h : (g21 us ws).length = 2) : us = [] ∧ ∃ a b, ws = [a, b] := by
  match us, ws, h with
  | [], [a, b], _ => exact ⟨rfl, a, b, rfl⟩
  | [], [], h => exact absurd h (by simp [g12, g21, g1])
  | [], [_], h => exact absurd h (by simp [g21])
  | [], _ :: _ :: _ :: _, h => exact absurd h (by simp [g21])
  | _ :: _, _, h => exact absurd h (by simp [g21])
theorem g1_inv {α : Type} {us ws : List α} (h : (g1 us ws).length = 1) : us = [] ∧ ∃ a, ws = [a] := by
  match us, ws, h with
  | [], [a], _ => exact ⟨rfl, a, rfl⟩
  | [], [], h => exact absurd h (by simp [g12, g21, g1])
  | [], _ :: _ :: _, h => exact absurd h (by simp [g1])
  | _ :: _, _, h => exact absurd h (by simp [g1])
theorem rel12 {vs : List V} {us : List Value} {zs : List V} {ws : List Value} (a : Vals vs us) (b : Vals zs ws) : Vals (g12 vs zs) (g12 us ws) := by
  cases a with
  | nil =>
    cases b with
    | nil => exact .nil
    | cons r b =>
      cases b with
      | nil => exact .nil
      | cons r2 b =>
        cases b with
        | nil => exact .cons r (.cons r2 .nil)
        | cons r3 b => exact .nil
  | cons r a => exact .nil
theorem rel21 {vs : List V} {us : List Value} {zs : List V} {ws : List Value} (a : Vals vs us) (b : Vals zs ws) : Vals (g21 vs zs) (g21 us ws) := by
  cases a with
  | nil =>
    cases b with
    | nil => exact .nil
    | cons r b =>
      cases b with
      | nil => exact .nil
      | cons r2 b =>
        cases b with
        | nil => exact .cons r2 (.cons r .nil)
        | cons r3 b => exact .nil
  | cons r a => exact .nil
theorem rel1 {vs : List V} {us : List Value} {zs : List V} {ws : List Value} (a : Vals vs us) (b : Vals zs ws) : Vals (g1 vs zs) (g1 us ws) := by
  cases a with
  | nil =>
    cases b with
    | nil => exact .nil
    | cons r b =>
      cases b with
      | nil => exact .cons r .nil
      | cons r3 b => exact .nil
  | cons r a => exact .nil
end
end My
namespace My
open PySem L2 PyProof.Rows
theorem bl_is1 {x : Bool} {Q : VK} {H : Hp} (h : x = true) (q : Q (.bl true) H) : Q (.bl x) H := by
  rw [h]
  exact q
/-! ### a list that nobody asks for any more is forgotten -/
section
variable {X : Cx} {pins : List (Addr × Obj)} {σ : L2.St} {H1 H2 : Hp} {s : Shared} {D : Addr} {xs : List V}
theorem inv_drop (I : Inv X pins σ H1 s) (e : H1 = upd H2 D (.lst xs)) (n : H2 D = none) : Inv X pins σ H2 s := by
  subst e
  have off : ∀ b, upd H2 D (.lst xs) b = none → H2 b = none := fun b h => by
    by_cases hb : b = D
    · rw [hb]; exact n
    · rw [upd_ne hb] at h; exact h
  have back : ∀ b o, o ≠ HO.lst xs → upd H2 D (.lst xs) b = some o → H2 b = some o := fun b o ho h => by
    by_cases hb : b = D
    · subst hb
      rw [upd_same] at h
      exact absurd (Option.some.inj h).symm ho
    · rw [upd_ne hb] at h; exact h
  refine ⟨I.ok, I.os, I.bare, ?_, I.loc, I.cell, off _ I.free, fun x c h => off _ (I.freeC x c h), fun p hp => ?_, ?_, I.len⟩
  · have u := I.base
    refine ⟨u.keep, u.slot, fun b o h1 h2 h3 => off _ (u.free b o h1 h2 h3), u.there, fun b ys h => back _ _ (by intro z; cases z) (u.tups b ys h), fun b o v h => back _ _ (by intro z; cases z) (u.frzs b o v h), fun b ps h => ?_⟩
    obtain ⟨more, h⟩ := u.tbls b ps h
    exact ⟨more, back _ _ (by intro z; cases z) h⟩
  · obtain ⟨a, b, c⟩ := I.pin p hp
    exact ⟨a, off _ b, c⟩
  · intro a o h
    have ha : a ≠ D := fun z => by rw [z, n] at h; cases h
    refine (I.hok a o (by rw [upd_ne ha]; exact h)).stay (fun _ _ _ z => z) (fun b h => back _ _ (by intro z; cases z) h) (fun b ys h => back _ _ (by intro z; cases z) h)
theorem pe_drop {e : Expr} {te : TE} (he : PE X e te) : PE X e (fun σ H Q => te σ H fun v H1 => ∃ D xs H2, H1 = upd H2 D (.lst xs) ∧ H2 D = none ∧ Q v H2) := by
  refine ⟨fun pins s σ H Q I h => ?_⟩
  exact wpAny_mono (he.run pins s σ H _ I h) (fun u s1 ⟨v, H1, I1, r, D, xs, H2, e, n, q⟩ => ⟨v, H2, inv_drop I1 e n, r, q⟩) fun _ _ h => h
theorem ix_seqK {K : PySem.W.Frag} (h : X.K = K) : IxR X (rIx K) := h ▸ ix_seq
end
end My
namespace My
open PySem L2 PyProof.Rows
/-! ### methods, properties, __init__ of a class at C -/
section
variable {P : Program} {w : World} {K : PySem.W.Frag} {mg : Str → Option Value} {base : Heap} {C : Addr}
def DefM (K : PySem.W.Frag) (C : Addr) (x qual : Str) (st : Stmt) (ps : List Str) : Prop := ∃ (f : Addr) (fd : FuncData), Fun K x qual st f fd ∧ Meth K C x f ∧ Binds K fd ps []
def DefP (K : PySem.W.Frag) (C : Addr) (x qual : Str) (st : Stmt) (ps : List Str) : Prop := ∃ (p f : Addr) (fd : FuncData), Fun K x qual st f fd ∧ PropOf K C x p f ∧ Binds K fd ps []
def DefI (K : PySem.W.Frag) (C : Addr) (x qual : Str) (st : Stmt) (ps : List Str) : Prop := ∃ (f : Addr) (fd : FuncData), Fun K x qual st f fd ∧ Mk K C f ∧ Binds K fd ps []
def GoodM (P : Program) (w : World) (K : PySem.W.Frag) (mg : Str → Option Value) (base : Heap) (C : Addr) (x qual : Str) (st : Stmt) (ps : List Str) (k : Nat) (sp : Sp) : Prop := ∃ (f : Addr) (fd : FuncData), FnOk P w K mg base CX0 k f fd ps sp ∧ Meth K C x f ∧ Binds K fd ps [] ∧ Fun K x qual st f fd
def GoodP (P : Program) (w : World) (K : PySem.W.Frag) (mg : Str → Option Value) (base : Heap) (C : Addr) (x _qual : Str) (_st : Stmt) (ps : List Str) (k : Nat) (sp : Sp) : Prop := ∃ (p f : Addr) (fd : FuncData), FnOk P w K mg base CX0 k f fd ps sp ∧ PropOf K C x p f ∧ Binds K fd ps []
def GoodI (P : Program) (w : World) (K : PySem.W.Frag) (mg : Str → Option Value) (base : Heap) (C : Addr) (x _qual : Str) (_st : Stmt) (ps : List Str) (k : Nat) (sp : Sp) : Prop := ∃ (f : Addr) (fd : FuncData), FnOk P w K mg base CX0 k f fd ps sp ∧ Mk K C f ∧ Binds K fd ps []
theorem DefM.good {x qual : Str} {st : Stmt} {ps : List Str} {k : Nat} {sp : Sp} (D : DefM K C x qual st ps) (h : ∀ f fd, Fun K x qual st f fd → FnOk P w K mg base CX0 k f fd ps sp) : GoodM P w K mg base C x qual st ps k sp := by
  obtain ⟨f, fd, F, m, b⟩ := D
  exact ⟨f, fd, h f fd F, m, b, F⟩
theorem DefP.good {x qual : Str} {st : Stmt} {ps : List Str} {k : Nat} {sp : Sp} (D : DefP K C x qual st ps) (h : ∀ f fd, Fun K x qual st f fd → FnOk P w K mg base CX0 k f fd ps sp) : GoodP P w K mg base C x qual st ps k sp := by
  obtain ⟨p, f, fd, F, m, b⟩ := D
  exact ⟨p, f, fd, h f fd F, m, b⟩
theorem DefI.good {x qual : Str} {st : Stmt} {ps : List Str} {k : Nat} {sp : Sp} (D : DefI K C x qual st ps) (h : ∀ f fd, Fun K x qual st f fd → FnOk P w K mg base CX0 k f fd ps sp) : GoodI P w K mg base C x qual st ps k sp := by
  obtain ⟨f, fd, F, m, b⟩ := D
  exact ⟨f, fd, h f fd F, m, b⟩
end
def g123 {α : Type} : List α → List α → List α | [], [a, b, c] => [a, b, c] | _, _ => []
theorem g123_inv {α : Type} {us ws : List α} (h : (g123 us ws).length = 3) : us = [] ∧ ∃ a b c, ws = [a, b, c] := by
  unfold g123 at h
  split at h
  · exact ⟨rfl, _, _, _, rfl⟩
  · simp at h
theorem rel123 {vs : List V} {us : List Value} {zs : List V} {ws : List Value} (a : Vals vs us) (b : Vals zs ws) : Vals (g123 vs zs) (g123 us ws) := by
  cases a with
  | cons h t => exact .nil
  | nil => cases b with
    | nil => exact .nil
    | cons h1 t => cases t with
      | nil => exact .nil
      | cons h2 t => cases t with
        | nil => exact .nil
        | cons h3 t => cases t with
          | nil => exact .cons h1 (.cons h2 (.cons h3 .nil))
          | cons h4 t => exact .nil
/-- self, then one keyword -/
def gm1 {α : Type} : List α → List α → List α | [a], [b] => [a, b] | _, _ => []
theorem gm1_inv {α : Type} {us ws : List α} (h : (gm1 us ws).length = 2) : ∃ a b, us = [a] ∧ ws = [b] := by
  unfold gm1 at h
  split at h
  · exact ⟨_, _, rfl, rfl⟩
  · simp at h
theorem relm1 {vs : List V} {us : List Value} {zs : List V} {ws : List Value} (a : Vals vs us) (b : Vals zs ws) : Vals (gm1 vs zs) (gm1 us ws) := by
  cases a with
  | nil => exact .nil
  | cons h t => cases t with
    | cons h2 t => exact .nil
    | nil => cases b with
      | nil => exact .nil
      | cons h1 t => cases t with
        | nil => exact .cons h (.cons h1 .nil)
        | cons h2 t => exact .nil
/-! ### a list or a tuple, gone through -/
section
variable {X : Cx}
theorem pi_or {tg e : Expr} {w1 w2 : TI} (h1 : PI X tg e w1) (h2 : PI X tg e w2) : PI X tg e (fun σ H R => w1 σ H R ∨ w2 σ H R) := by
  constructor
  intro pins s σ H R I h
  rcases h with h | h
  · exact h1.run pins s σ H R I h
  · exact h2.run pins s σ H R I h
end
end My
namespace My
open PySem L2 PyProof.Rows
/-! ### == by an own __eq__, whatever it answers -/
section
variable {X : Cx}
theorem op_eqOwn {CX : CXT} {k : Nat} {C f : Addr} {fd : FuncData} {ps : List Str} {sp : Sp} {E : XK} (F : FnOk X.prog X.w X.K X.mg X.base CX k f fd ps sp) (hr : Room k X.A)
    (hs : PySem.W.findIn X.K (.ref C) "__eq__" = some (some (.ref f))) (hf : PySem.W.isFn X.K (.ref f) = true) (hb : Binds X.K fd ps []) (hx : Passes CX X E) :
    OpR X (compareOp .Eq) (fun x y H Q => ∃ a b dx dy fs gs, x = .ref a ∧ y = .ref b ∧ H a = some (.ins C dx fs) ∧ H b = some (.ins C dy gs) ∧ sp [x, y] H (fun v H' => ∃ c, v = .bl c ∧ Q (.bl c) H') E) := by
  intro pins s σ H x y v u Q I rx ry h
  obtain ⟨a, b, dx, dy, fs, gs, rfl, rfl, ha, hb', hsp⟩ := h
  cases rx
  cases ry
  show wpAny (model X.prog X.w) X.A (richCompare .Eq (.ref a) (.ref b)) (EP X pins σ Q) X.xe s
  obtain ⟨_, J, _⟩ := ins_get I.hok ha
  obtain ⟨_, J', _⟩ := ins_get I.hok hb'
  obtain ⟨_, J, _⟩ := J.look
  obtain ⟨_, J', _⟩ := J'.look
  obtain ⟨m, hF⟩ := I.fr
  refine PySem.W.cmp_K (op := .Eq) (tb := .ref C) hr.units0 hF I.ok.mod.kin J J'.type (by simp [PySem.W.notFirst]) hs hf ?_
  have vals : Vals [V.ref a, V.ref b] [Value.ref a, Value.ref b] := .cons rfl (.cons rfl .nil)
  have e0 : Env0 X.prog X.w X.K X.mg X.base X.A X.stack s H := I.env0
  have hl := F.len _ _ _ _ hsp
  refine wpAny_call (codeAny_mono (F.run X.A X.stack s H ⟨[.ref a, .ref b], []⟩ [.ref a, .ref b] [.ref a, .ref b] _ E hr e0 (by
    have bd := hb s [.ref a, .ref b] I.kIn (by simpa using hl)
    simpa using bd) vals hsp) fun r s' hq => ?_)
  cases r with
  | error e => exact hx pins σ H s e s' I hq
  | ok fl =>
    cases fl with
    | ret w =>
      obtain ⟨z, H', I', rz, c, ez, qz⟩ := I.after hq
      subst ez
      cases rz
      exact ⟨.bl c, H', I', rfl, qz⟩
    | next => exact False.elim hq
    | brk => exact False.elim hq
    | cont => exact False.elim hq
end
end My
namespace My
open PySem L2 PyProof.Rows PySem.W
/-! ### != of instances with an own __eq__ and the object's __ne__ -/
section
variable {prog : Program} {w : World} {A : Around} {E : Value → Shared → Prop} {s : Shared} {K : PySem.W.Frag} {x y C L f : Addr} {h₀ : Heap} {m : Str → Option Value} {ox : Obj} {od : Option Obj}
theorem check_ne {Q : Unit → Shared → Prop} (X : K.In s.heap) (I : PySem.W.InstAt s.heap x ox C od) (hm : PySem.W.mroIn K C (.type "object") = some true) (hq : Q () s) :
    wpAny (model prog w) A (checkBuiltinCall "object.__ne__" ⟨[.ref x, .ref y], []⟩) Q E s := by
  have L1 := PySem.W.looks_mroIn (M := model prog w) X hm
  simp only [checkBuiltinCall, F.cmpKind_ne, F.cmpSplit_ne]
  refine wpAny_bind ?_
  unfold isInstance
  refine wpAny_bind (I.type.here (L1.here ?_))
  simp only [Bool.not_true, Bool.false_eq_true, if_false]
  exact wpAny_pure hq
theorem entry_ne {Q : Fin → Shared → Prop} (hu : A.units < cLine) (X : K.In s.heap) (I : PySem.W.InstAt s.heap x ox C od) (hs : PySem.W.findIn K (.ref C) "__eq__" = some (some (.ref f))) (hf : PySem.W.isFn K (.ref f) = true)
    (hcall : wpAny (model prog w) A (call (.ref f) [.ref x, .ref y]) (fun v s' => ∃ b, v = .bool b ∧ Q (.done (.ret (.bool (!b)))) s') E s) :
    wpAny (model prog w) A (Builtin.«object.__ne__» ⟨[.ref x, .ref y], []⟩) Q E s := by
  unfold Builtin.«object.__ne__»
  repeat (first
    | with_reducible refine wpAny_cRoomFor hu ?_
    | (refine wpAny_bind (m := callSpecialIfBound? (.ref x) (Str.ofString "__eq__") [.ref y])
        (PySem.W.ifBound_K X I hs hf (wpAny_mono hcall (fun r s' hr => by
          obtain ⟨b, rfl, hq⟩ := hr
          repeat (first | exact hq | exact wpAny_pure hq | exact wpAny_truthy_bool hq | (refine wpAny_bind (m := truthy (.bool _)) (wpAny_truthy_bool ?_)) | wp_step)) fun _ _ e => e)))
    | wp_step)
theorem try_ne {Q : Option Value → Shared → Prop} (hu : A.units + 1 < cLine) (X : K.In s.heap) (I : PySem.W.InstAt s.heap x ox C od) (hm : PySem.W.mroIn K C (.type "object") = some true) (hn : PySem.W.findIn K (.ref C) "__ne__" = some (some (.builtin "object.__ne__")))
    (hs : PySem.W.findIn K (.ref C) "__eq__" = some (some (.ref f))) (hf : PySem.W.isFn K (.ref f) = true)
    (hcall : wpAny (model prog w) A.in1 (call (.ref f) [.ref x, .ref y]) (fun v s' => ∃ b, v = .bool b ∧ Q (some (.bool (!b))) s') E s) :
    wpAny (model prog w) A (tryCompare (.ref x) "__ne__" (.ref y)) Q E s := by
  have S := F.cmp_object.ne
  have one : wpAny (model prog w) A (callSpecialIfBound? (.ref x) "__ne__" [.ref y]) (fun r s' => ∃ b, r = some (.bool b) ∧ Q (some (.bool b)) s') E s := by
    simp only [callSpecialIfBound?, bindSpecialIfBound?]
    refine wpAny_holding (wpAny_bind (wpAny_bind (wpAny_bind (I.type.here ((PySem.W.looks_findIn X hn).here ?_)))))
    simp only [S.bind]
    refine wpAny_bind (wpAny_askSetting (wpAny_ite ?_))
    have fin : wpAny (model prog w) A (call (.builtin "object.__ne__") ([.ref x] ++ [.ref y]) >>= fun v => pure (some v)) (fun r s' => ∃ b, r = some (.bool b) ∧ Q (some (.bool b)) s') E s := by
      refine wpAny_bind (wpAny_call (codeAny_call_builtin S.plain F.cmpEntry_ne (check_ne X I hm (entry_ne (A := A.in1) hu X I hs hf (wpAny_mono hcall (fun v s' hv => ?_) fun _ _ e => e)))))
      obtain ⟨b, rfl, hq⟩ := hv
      exact ⟨b, rfl, wpAny_pure ⟨_, rfl, hq⟩⟩
    split
    · exact wpAny_bind (wpAny_pure (wpAny_pure fin))
    · exact wpAny_tryCatch (wpAny_bind (wpAny_pure (wpAny_pure fin)))
  unfold tryCompare
  refine wpAny_bind (wpAny_mono one (fun v s' hv => ?_) fun _ _ e => e)
  obtain ⟨b, rfl, hq⟩ := hv
  exact wpAny_pure hq
theorem ne_own {Q : Value → Shared → Prop} {oy : Obj} {odY : Option Obj} (hu : A.units + 1 < cLine) (X : K.In s.heap) (I : PySem.W.InstAt s.heap x ox C od) (J : PySem.W.InstAt s.heap y oy C odY) (hm : PySem.W.mroIn K C (.type "object") = some true) (hn : PySem.W.findIn K (.ref C) "__ne__" = some (some (.builtin "object.__ne__")))
    (hs : PySem.W.findIn K (.ref C) "__eq__" = some (some (.ref f))) (hf : PySem.W.isFn K (.ref f) = true)
    (hcall : wpAny (model prog w) A.in1 (call (.ref f) [.ref x, .ref y]) (fun v s' => ∃ b, v = .bool b ∧ Q (.bool (!b)) s') E s) :
    wpAny (model prog w) A (richCompare .NotEq (.ref x) (.ref y)) Q E s := by
  unfold richCompare
  simp only [oneThing_ref]
  refine wpAny_holding ?_
  refine wpAny_bind (wpAny_cRoomFor (Nat.lt_of_succ_lt hu) ?_)
  rw [cmpInfo_NotEq]
  dsimp only
  refine wpAny_bind (I.type.here (wpAny_bind (J.type.here ?_)))
  rw [show (Value.ref C != Value.ref C) = false from by simp]
  simp only [Bool.false_eq_true, if_false]
  refine wpAny_bind (wpAny_pure ?_)
  simp only [Bool.false_eq_true, if_false]
  refine wpAny_bind (try_ne hu X I hm hn hs hf (wpAny_mono hcall (fun v s' hv => ?_) fun _ _ e => e))
  obtain ⟨b, rfl, hq⟩ := hv
  exact ⟨b, rfl, wpAny_pure hq⟩
end
section
variable {X : Cx}
theorem op_neOwn {CX : CXT} {k : Nat} {C f : Addr} {fd : FuncData} {ps : List Str} {sp : Sp} {E : XK} (F : FnOk X.prog X.w X.K X.mg X.base CX k f fd ps sp) (hr : Room (k + 1) X.A) (hm : PySem.W.mroIn X.K C (.type "object") = some true) (hn : PySem.W.findIn X.K (.ref C) "__ne__" = some (some (.builtin "object.__ne__")))
    (hs : PySem.W.findIn X.K (.ref C) "__eq__" = some (some (.ref f))) (hf : PySem.W.isFn X.K (.ref f) = true) (hb : Binds X.K fd ps []) (hx : Passes CX X E) :
    OpR X (compareOp .NotEq) (fun x y H Q => ∃ a b dx dy fs gs, x = .ref a ∧ y = .ref b ∧ H a = some (.ins C dx fs) ∧ H b = some (.ins C dy gs) ∧ sp [x, y] H (fun v H' => ∃ c, v = .bl c ∧ Q (.bl (!c)) H') E) := by
  intro pins s σ H x y v u Q I rx ry h
  obtain ⟨a, b, dx, dy, fs, gs, rfl, rfl, ha, hb', hsp⟩ := h
  cases rx
  cases ry
  show wpAny (model X.prog X.w) X.A (richCompare .NotEq (.ref a) (.ref b)) (EP X pins σ Q) X.xe s
  obtain ⟨_, J, _⟩ := ins_get I.hok ha
  obtain ⟨_, J', _⟩ := ins_get I.hok hb'
  obtain ⟨_, J, _⟩ := J.look
  obtain ⟨_, J', _⟩ := J'.look
  have hu : X.A.units + 1 < cLine := hu_of hr
  refine ne_own hu I.kIn J J' hm hn hs hf ?_
  have vals : Vals [V.ref a, V.ref b] [Value.ref a, Value.ref b] := .cons rfl (.cons rfl .nil)
  have e0 : Env0 X.prog X.w X.K X.mg X.base X.A.in1 X.stack s H := I.env0.in1
  have hl := F.len _ _ _ _ hsp
  refine wpAny_call (codeAny_mono (F.run X.A.in1 X.stack s H ⟨[.ref a, .ref b], []⟩ [.ref a, .ref b] [.ref a, .ref b] _ E hr.in1 e0 (by
    have bd := hb s [.ref a, .ref b] I.kIn (by simpa using hl)
    simpa using bd) vals hsp) fun r s' hq => ?_)
  cases r with
  | error e => exact hx pins σ H s e s' I hq
  | ok fl =>
    cases fl with
    | ret w =>
      obtain ⟨z, H', I', rz, c, ez, qz⟩ := I.after hq
      subst ez
      cases rz
      exact ⟨c, rfl, .bl (!c), H', I', rfl, qz⟩
    | next => exact False.elim hq
    | brk => exact False.elim hq
    | cont => exact False.elim hq
/-- == of an instance with an own __eq__ and a dict -/
theorem op_eqDict {CX : CXT} {k : Nat} {C f : Addr} {fd : FuncData} {ps : List Str} {sp : Sp} {E : XK} (F : FnOk X.prog X.w X.K X.mg X.base CX k f fd ps sp) (hr : Room k X.A)
    (hs : PySem.W.findIn X.K (.ref C) "__eq__" = some (some (.ref f))) (hf : PySem.W.isFn X.K (.ref f) = true) (hnf : PySem.W.notFirst X.K C (.type "dict") = true) (hb : Binds X.K fd ps []) (hx : Passes CX X E) :
    OpR X (compareOp .Eq) (fun x y H Q => ∃ a d dx fs kvs, x = .ref a ∧ y = .ref d ∧ H a = some (.ins C dx fs) ∧ H d = some (.dK kvs) ∧ sp [x, y] H (fun v H' => ∃ c, v = .bl c ∧ Q (.bl c) H') E) := by
  intro pins s σ H x y v u Q I rx ry h
  obtain ⟨a, b, dx, fs, kvs, rfl, rfl, ha, hb', hsp⟩ := h
  cases rx
  cases ry
  show wpAny (model X.prog X.w) X.A (richCompare .Eq (.ref a) (.ref b)) (EP X pins σ Q) X.xe s
  obtain ⟨_, J, _⟩ := ins_get I.hok ha
  obtain ⟨_, J, _⟩ := J.look
  obtain ⟨_, _, _, _, ob, es, ep, e, ⟨hcls, _⟩, _⟩ := (show ObjOk X.prog X.w H s.heap b (.dK kvs) from I.hok b _ hb')
  have hty : PySem.W.Looks (model X.prog X.w) s.heap (typeOf (.ref b)) (.type "dict") := hcls ▸ (PySem.W.Looks.ld e).andThen .now
  obtain ⟨m, hF⟩ := I.fr
  refine PySem.W.cmp_K (op := .Eq) (tb := .type "dict") hr.units0 hF I.ok.mod.kin J hty hnf hs hf ?_
  have vals : Vals [V.ref a, V.ref b] [Value.ref a, Value.ref b] := .cons rfl (.cons rfl .nil)
  have e0 : Env0 X.prog X.w X.K X.mg X.base X.A X.stack s H := I.env0
  have hl := F.len _ _ _ _ hsp
  refine wpAny_call (codeAny_mono (F.run X.A X.stack s H ⟨[.ref a, .ref b], []⟩ [.ref a, .ref b] [.ref a, .ref b] _ E hr e0 (by
    have bd := hb s [.ref a, .ref b] I.kIn (by simpa using hl)
    simpa using bd) vals hsp) fun r s' hq => ?_)
  cases r with
  | error e => exact hx pins σ H s e s' I hq
  | ok fl =>
    cases fl with
    | ret w =>
      obtain ⟨z, H', I', rz, c, ez, qz⟩ := I.after hq
      subst ez
      cases rz
      exact ⟨.bl c, H', I', rfl, qz⟩
    | next => exact False.elim hq
    | brk => exact False.elim hq
    | cont => exact False.elim hq
def tMethKK (C : Addr) (m : Str) (sp : Sp) (gV : List V → List V → List V) (E : XK) (ta : TE) (tk : TA) : TE := fun σ H Q => ta σ H fun x H1 => ∃ a dx fs, x = .ref a ∧ H1 a = some (.ins C dx fs) ∧ fs.lookup m = none ∧ tk σ H1 fun zs H2 => sp (gV [x] zs) H2 Q E
/-- o.m(a=.., b=..) -/
theorem pe_methKK {CX : CXT} {k : Nat} {f C : Addr} {fd : FuncData} {ps ks : List Str} {sp : Sp} {E : XK} {m : Str} {pos apos : Pos} {o : Expr} {kws : List Keyword} {ta : TE} {tk : TA} {g : List Value → List Value → List Value} {gV : List V → List V → List V} {pl : Sem Bool} (he : PE X o ta) (c : Cls X.K C) (hm : Meth X.K C m f) (F : FnOk X.prog X.w X.K X.mg X.base CX k f fd ps sp) (hr : Room k X.A) (hb : KBinds X.K fd ps ks g gV) (hx : Passes CX X E)
    (hkw : PK X kws tk) (hall : (backToKw pos (keywordEach kws X.env)).all (·.1.isSome) = true := by rfl) (hks : (backToKw pos (keywordEach kws X.env)).filterMap (·.1) = ks := by rfl)
    (hpl : ((backTo pos (starEach [] X.env)).any (·.1) || (backToKw pos (keywordEach kws X.env)).any (·.1.isNone)) = false := by rfl)
    (ht : eval (.Call (.Attribute o m apos) [] kws pos) X.env = (do
      let ov ← eval o X.env
      standAt apos.atName
      let (f, first) ← holding [ov] (getMethod ov m pl)
      callWith pos f first (backTo pos (starEach [] X.env)) (backToKw pos (keywordEach kws X.env))) := by rfl) :
    PE X (.Call (.Attribute o m apos) [] kws pos) (tMethKK C m sp gV E ta tk) := by
  refine ⟨fun pins s σ H Q I h => ?_⟩
  refine PySem.W.methodCall_KW (pl := pl) (thn (he.run pins s σ H _ I h) fun u s1 ⟨x, H1, I1, rx, a, dx, fs, ex, ea, l, q⟩ => ?_) ht
  subst ex
  obtain rfl : u = Value.ref a := rx
  refine getmeth_ok I1 ea c hm l ?_
  refine PySem.W.callWith_KW0 (first := [.ref a]) (h₀ := X.base) I.ok.mod.kin hm.kp hall (thn (hkw.run pos pins s1 σ H1 _ I1 q) fun ws s2 ⟨zs, H2, I2, rz, q2⟩ => ⟨I2.kIn, ?_⟩) hpl
  rw [hks]
  exact run_fnk (us := [.ref a]) (vs := [.ref a]) F hr hb hx I2 (.cons rfl .nil) rz q2
end
end My
namespace My
open PySem PySem.W L2 L2.DX PyProof.Rows
/-! ### d.items() of a dict by texts, sorted -/
section
variable {X : Cx}
def rItemsK : V → List V → Hp → VK → Prop := fun x xs H Q => ∃ (a : Addr) (kvs : List (Key × V)), x = .ref a ∧ xs = [] ∧ H a = some (.dK kvs) ∧ ∀ p, H p = none → Q (.ref p) (upd H p (itemsO p a))
theorem mt_itemsK : MtR X "dict.items" rItemsK := by
  intro pins s σ H x xs v us Q I rx rxs h
  obtain ⟨d, kvs, rfl, rfl, hd0, q⟩ := h
  cases rx
  cases rxs
  obtain ⟨_, hd, vs, rel, dof⟩ := dk_of I.hok hd0
  obtain ⟨es, ep, raw, _, _⟩ := PySem.Heap.DictOf.raw dof
  exact DT.callItems (es := es) (ep := ep) hd raw ⟨.ref s.heap.objs.size, upd H s.heap.objs.size (itemsO s.heap.objs.size d), I.laid (t' := s.toks) (fun b u e => Heap.get?_push_of_some _ e) (Nat.le_refl _) (itemsO_ok (Heap.get?_push_size _ rfl)), rfl, q _ (I.hok.fresh (Nat.le_refl _))⟩
/-- an entry: a text and a number -/
abbrev entSI (e : Str × Int) : Key × V := (Sum.inr e.1, .int e.2)
abbrev encSI (e : Str × Int) : PyData := .tuple [.str e.1, .int e.2]
theorem kv_at : ∀ {kvs : List (Key × V)} {vs : List (Key × Value)}, KV kvs vs → ∀ {j : Nat} {p : Key × V}, kvs[j]? = some p → ∃ q, vs[j]? = some q ∧ p.1 = q.1 ∧ RelV p.2 q.2
  | _, _, .nil, _, _, h => by simp at h
  | _, _, .cons r _, 0, _, h => by
    cases h
    exact ⟨_, rfl, r⟩
  | _, _, .cons _ t, j + 1, p, h => by
    obtain ⟨q, h1, h2⟩ := kv_at t (j := j) (by simpa using h)
    exact ⟨q, by simpa using h1, h2⟩
theorem eachIs_of {α β : Type} {R : α → β → Prop} : ∀ {as : List α} {bs : List β}, as.length = bs.length → (∀ (j : Nat) (a : α) (b : β), as[j]? = some a → bs[j]? = some b → R a b) → PySem.W.EachIs R as bs
  | [], [], _, _ => .nil
  | [], _ :: _, h, _ => by simp at h
  | _ :: _, [], h, _ => by simp at h
  | a :: as, b :: bs, h, k => .cons (k 0 a b rfl rfl) (eachIs_of (by simpa using h) fun j x y hx hy => k (j + 1) x y (by simpa using hx) (by simpa using hy))
theorem encSI_alike (kvs : List (Str × Int)) : AllAlike (kvs.map encSI) := by
  intro d hd d' hd'
  obtain ⟨e, _, rfl⟩ := List.mem_map.mp hd
  obtain ⟨e', _, rfl⟩ := List.mem_map.mp hd'
  rfl
theorem encSI_sortable (kvs : List (Str × Int)) : Sortable (kvs.map encSI) := .tuples fun b => ⟨_, _, rfl⟩
theorem eachIs_refs {β : Type} {as : List Addr} {bs : List β} : ∀ {out : List Value} {cs : List β}, PySem.W.EachIs (fun v b => ∃ (j : Nat) (x : Addr), v = Value.ref x ∧ as[j]? = some x ∧ bs[j]? = some b) out cs →
    ∃ ts : List Addr, out = ts.map Value.ref ∧ Paired (fun (x : Addr) (b : β) => ∃ j : Nat, as[j]? = some x ∧ bs[j]? = some b) ts cs
  | _, _, .nil => ⟨[], rfl, .nil⟩
  | _, _, .cons h t => by
    obtain ⟨j, x, rfl, h1, h2⟩ := h
    obtain ⟨ts, rfl, hp⟩ := eachIs_refs t
    exact ⟨x :: ts, rfl, .cons ⟨j, h1, h2⟩ hp⟩
theorem paired_imp {α β : Type} {F G : α → β → Prop} (h : ∀ a b, F a b → G a b) : ∀ {l1 : List α} {l2 : List β}, Paired F l1 l2 → Paired G l1 l2
  | _, _, .nil => .nil
  | _, _, .cons a r => .cons (h _ _ a) (paired_imp h r)
theorem vals_refs : ∀ ts : List Addr, Vals (ts.map V.ref) (ts.map Value.ref)
  | [] => .nil
  | _ :: r => .cons rfl (vals_refs r)
/-- the told list is new, its pairs too -/
def rSortItK : List V → Hp → VK → Prop := fun vs H Q => ∃ (p a : Addr) (kvs : List (Str × Int)), vs = [.ref p] ∧ H p = some (itemsO p a) ∧ H a = some (.dK (kvs.map entSI)) ∧ kvs.length ≤ 100000 ∧
  ∀ (H' : Hp) (l : Addr) (ts : List Addr), (∀ b o, H b = some o → H' b = some o) → H l = none → H' l = some (.lst (ts.map V.ref)) → Paired (fun t (e : Str × Int) => H' t = some (.tup [.str e.1, .int e.2])) ts (kvs.mergeSort (dataLe false encSI)) → Q (.ref l) H'
theorem cr_sortItK (hc : X.calm = true) (hu : X.A.units + 64 < cLine) : CallR X (.builtin "sorted") rSortItK := by
  intro pins s σ H xs us Q I r h
  obtain ⟨p, a, kvs, rfl, hp, ha, hlen, q⟩ := h
  obtain rfl := Vals.ref1 r
  have vw : s.heap.IsItemsView p a := by
    have z : ObjOk X.prog X.w H s.heap p (itemsO p a) := I.hok p _ hp
    exact z.1
  obtain ⟨_, hd, vs, rel, dof⟩ := dk_of I.hok ha
  obtain ⟨es, ep, raw, hsz, hent⟩ := PySem.Heap.DictOf.raw dof
  have l1 : vs.length = kvs.length := by
    have := Paired.length rel
    rw [List.length_map] at this
    exact this.symm
  have small : kvs.length ≤ sizeLine := Nat.le_trans hlen (by decide)
  refine DT.sortedI (es := es) (ep := ep) (I.ok.hd hc) vw raw (by rw [hsz, l1]; exact small) fun h' tk as kpt hlt hl mde => ?_
  have lak : as.length = kvs.length := by rw [hl, hsz, l1]
  have nod : as.Nodup := List.Pairwise.imp (fun h => Nat.ne_of_lt h) mde.rise
  have pr : ∀ (j : Nat) (b : Addr), as[j]? = some b → ∃ (e : Str × Int) (t t' : Tok), kvs[j]? = some e ∧ h'.get? b = some { cls := .type "tuple", data := .seq #[Value.str e.1 t, Value.int e.2 t'] } := fun j b ej => by
    obtain ⟨en, ee, gh⟩ := mde.pairs j b ej
    have hj2 : j < es.size := (Array.getElem?_eq_some_iff.mp ee).1
    have hj3 : j < kvs.length := by rw [← l1, ← hsz]; exact hj2
    obtain ⟨⟨k, v⟩, g1, g2, g3⟩ := kv_at rel (j := j) (p := entSI kvs[j]) (by rw [List.getElem?_map, List.getElem?_eq_getElem hj3]; rfl)
    obtain ⟨m1, m2⟩ := hent j hj2 k v g1
    have e1 : es[j] = en := (Array.getElem?_eq_some_iff.mp ee).2
    rw [e1] at m1 m2
    have g2' : k = Sum.inr kvs[j].1 := g2.symm
    subst g2'
    obtain ⟨t', ev⟩ : ∃ t', v = Value.int kvs[j].2 t' := g3
    rcases keyIs_shape (show keyIs (Sum.inr kvs[j].1) en.key = true from m1) with ⟨i, t, z, _⟩ | ⟨x, t, z, ek⟩
    · cases z
    · have ex : kvs[j].1 = x := Sum.inr.inj z
      refine ⟨kvs[j], t, t', List.getElem?_eq_getElem hj3, ?_⟩
      rw [gh, ek, m2, ev, ex]
  have gl : (h'.push { cls := .type "list", data := .seq (as.map Value.ref).toArray }).get? h'.objs.size = some (seqObj "list" (as.map Value.ref).toArray 0) := Heap.get?_push_size _ rfl
  have far : ∀ b o, h'.get? b = some o → b ≠ h'.objs.size := fun b o e => Nat.ne_of_lt (Heap.lt_size e)
  have kp : ∀ b o, h'.get? b = some o → (h'.push { cls := .type "list", data := .seq (as.map Value.ref).toArray }).get? b = some o := fun b o e => Heap.get?_push_of_some _ e
  generalize h'.push { cls := .type "list", data := .seq (as.map Value.ref).toArray } = h2 at gl kp ⊢
  have at_ : ∀ (j : Nat) (v : Value) (e : Str × Int), (as.map Value.ref)[j]? = some v → kvs[j]? = some e → ∃ b, v = .ref b ∧ as[j]? = some b := fun j v e hv _ => by
    rw [List.getElem?_map] at hv
    cases z : as[j]? with
    | none => rw [z] at hv; cases hv
    | some b => rw [z] at hv; exact ⟨b, (Option.some.inj hv).symm, rfl⟩
  refine list_sort_data (s := { s with heap := h2, toks := tk }) (R := fun v e => ∃ (j : Nat) (x : Addr), v = Value.ref x ∧ as[j]? = some x ∧ kvs[j]? = some e) (enc := encSI) (bs := kvs) gl (eachIs_of (by rw [List.length_map]; exact lak) fun j v e hv ee => ?_) (eachIs_of (by rw [List.length_map]; exact lak) fun j v e hv ee => ?_) (encSI_alike kvs) (encSI_sortable kvs) small (fun b _ => ?_) fun out ho1 ho2 => ?_
  · obtain ⟨b, e1, e2⟩ := at_ j v e hv ee
    exact ⟨j, b, e1, e2, ee⟩
  · obtain ⟨b, rfl, e2⟩ := at_ j v e hv ee
    obtain ⟨e', t, t', g1, g2⟩ := pr j b e2
    rw [ee] at g1
    cases g1
    exact ⟨[] ++ ([] ++ []), .tuple (kp _ _ g2) rfl rfl (.cons (.str _ _) (.cons (.int _ _) .nil)), by simp⟩
  · show X.A.units + 1 + 1 + 1 < cLine
    omega
  obtain ⟨ts, rfl, hts⟩ := eachIs_refs ho2
  show EP X pins σ Q (.ref h'.objs.size) { s with heap := sortedHeap h2 h'.objs.size (as.map Value.ref) (ts.map Value.ref).toArray, toks := tk }
  have kF : ∀ b o, b ≠ h'.objs.size → h2.get? b = some o → (sortedHeap h2 h'.objs.size (as.map Value.ref) (ts.map Value.ref).toArray).get? b = some o := fun b o hb e => (PyProof.Rows.sortedHeap_old hb (Heap.lt_size e)).trans e
  have kS : ∀ b o, s.heap.get? b = some o → (sortedHeap h2 h'.objs.size (as.map Value.ref) (ts.map Value.ref).toArray).get? b = some o := fun b o e => kF b o (far _ _ (kpt b o e)) (kp b o (kpt b o e))
  obtain ⟨eF, heF⟩ := PyProof.Rows.sortedHeap_at (vs := as.map Value.ref) (out := (ts.map Value.ref).toArray) gl
  generalize sortedHeap h2 h'.objs.size (as.map Value.ref) (ts.map Value.ref).toArray = hz at kF kS heF ⊢
  have free0 : H h'.objs.size = none := I.hok.fresh (Nat.le_of_lt hlt)
  have htl : (ts.map V.ref).length ≤ sizeLine := by
    rw [List.length_map] at ho1 ⊢
    rw [ho1]
    exact small
  have I2 : Inv X pins σ (upd H h'.objs.size (.lst (ts.map V.ref))) { s with heap := hz, toks := tk } :=
    (I.kept (t' := tk) kS).take (h' := hz) (t' := tk) (fun b ob _ e => e) (I.fpOk (Nat.le_of_lt hlt) free0) ⟨htl, ts.map Value.ref, eF, vals_refs ts, heF⟩
  obtain ⟨H2, I3, g, qt⟩ := takeT (P := fun b vs => ∃ (j : Nat) (e : Str × Int), as[j]? = some b ∧ kvs[j]? = some e ∧ vs = [.str e.1, .int e.2]) I as _ I2 nod fun b hb => by
    obtain ⟨j, ej⟩ := List.mem_iff_getElem?.mp hb
    obtain ⟨e, t, t', ee, gh⟩ := pr j b ej
    have big : s.heap.objs.size ≤ b := Nat.le_of_lt (mde.above b hb)
    refine ⟨big, by rw [upd_ne (far _ _ gh)]; exact I.hok.fresh big, [.str e.1, .int e.2], ⟨j, e, ej, ee, rfl⟩, fun H3 => ⟨(by show 2 ≤ sizeLine; decide), [Value.str e.1 t, Value.int e.2 t'], .cons ⟨t, rfl⟩ (.cons ⟨t', rfl⟩ .nil), ⟨_, kF _ _ (far _ _ gh) (kp _ _ gh), rfl, 0, rfl⟩⟩⟩
  refine ⟨.ref h'.objs.size, H2, I3, rfl, q H2 h'.objs.size ts (fun b o e => g b o (by rw [upd_ne (ne_of_none e free0)]; exact e)) free0 (g _ _ upd_same) (paired_imp (fun x e hx => ?_) hts)⟩
  obtain ⟨i, i1, i2⟩ := hx
  obtain ⟨vs', ⟨j, e', j1, j2, ev⟩, hH⟩ := qt x (List.mem_of_getElem? i1)
  have eqi : i = j := (List.getElem?_inj (List.getElem?_eq_some_iff.mp i1).1 nod).mp (i1.trans j1.symm)
  subst eqi
  rw [i2] at j2
  cases j2
  rw [ev] at hH
  exact hH
end
end My
namespace My
open PySem PySem.W L2 L2.DX PyProof.Rows
section
variable {X : Cx}
theorem dp_at {K : PySem.W.Frag} {H : Hp} : ∀ {ys : List V} {ds : List PyData}, DpAll K H ys ds → ∀ {j : Nat} {y : V} {d : PyData}, ys[j]? = some y → ds[j]? = some d → Dp K H y d
  | _, _, .nil, _, _, _, h, _ => by simp at h
  | _, _, .cons p _, 0, _, _, h, k => by
    cases h
    cases k
    exact p
  | _, _, .cons _ t, j + 1, _, _, h, k => dp_at t (j := j) (by simpa using h) (by simpa using k)
theorem dp_len {K : PySem.W.Frag} {H : Hp} : ∀ {ys : List V} {ds : List PyData}, DpAll K H ys ds → ys.length = ds.length
  | _, _, .nil => rfl
  | _, _, .cons _ t => congrArg Nat.succ (dp_len t)
theorem vals_at : ∀ {ys : List V} {us : List Value}, Vals ys us → ∀ {j : Nat} {u : Value}, us[j]? = some u → ∃ y, ys[j]? = some y ∧ RelV y u
  | _, _, .nil, _, _, h => by simp at h
  | _, _, .cons r _, 0, _, h => by
    cases h
    exact ⟨_, rfl, r⟩
  | _, _, .cons _ t, j + 1, _, h => by
    obtain ⟨y, h1, h2⟩ := vals_at t (j := j) (by simpa using h)
    exact ⟨y, by simpa using h1, h2⟩
theorem out_vals {ys : List V} {ds : List PyData} : ∀ {out : List Value} {cs : List PyData}, PySem.W.EachIs (fun v d => ∃ (j : Nat) (y : V), ys[j]? = some y ∧ ds[j]? = some d ∧ RelV y v) out cs →
    ∃ zs : List V, Vals zs out ∧ Paired (fun (z : V) (d : PyData) => ∃ j : Nat, ys[j]? = some z ∧ ds[j]? = some d) zs cs
  | _, _, .nil => ⟨[], .nil, .nil⟩
  | _, _, .cons h t => by
    obtain ⟨j, y, h1, h2, h3⟩ := h
    obtain ⟨zs, g1, g2⟩ := out_vals t
    exact ⟨y :: zs, .cons h3 g1, .cons ⟨j, h1, h2⟩ g2⟩
theorem vals_len : ∀ {ys : List V} {us : List Value}, Vals ys us → ys.length = us.length
  | _, _, .nil => rfl
  | _, _, .cons _ t => congrArg Nat.succ (vals_len t)
/-- sorted(xs), data of one shape: the items are set in sequence by what they are -/
def rSortD (K : PySem.W.Frag) : List V → Hp → VK → Prop := fun vs H Q => ∃ (a : Addr) (ys : List V) (ds : List PyData), vs = [.ref a] ∧ SqL K H a ys ∧ DpAll K H ys ds ∧ AllAlike ds ∧ Sortable ds ∧ (∀ d ∈ ds, d.depth ≤ 8) ∧ ys.length ≤ 100000 ∧
  ∀ (zs : List V) (p : Addr), Paired (fun (z : V) (d : PyData) => ∃ j : Nat, ys[j]? = some z ∧ ds[j]? = some d) zs (ds.mergeSort (dataLe false id)) → H p = none → Q (.ref p) (upd H p (.lst zs))
theorem cr_sortD (hu : X.A.units + 64 < cLine) : CallR X (.builtin "sorted") (rSortD X.K) := by
  intro pins s σ H xs us Q I r h
  obtain ⟨a, ys, ds, rfl, hs, hd, hal, hk, hdp, hlen, q⟩ := h
  obtain rfl := Vals.ref1 r
  obtain ⟨its, rv, pl, _⟩ := I.list hs
  have li : its.length = ds.length := by rw [← vals_len rv]; exact dp_len hd
  have small : ds.length ≤ sizeLine := by rw [← dp_len hd]; exact Nat.le_trans hlen (by decide)
  refine sorted_data (R := fun v d => ∃ (j : Nat) (y : V), ys[j]? = some y ∧ ds[j]? = some d ∧ RelV y v) (enc := id) (bs := ds) pl.isList (eachIs_of li fun j v d hv he => ?_) (eachIs_of li fun j v d hv he => ?_) (by rw [List.map_id]; exact hal) (by rw [List.map_id]; exact hk) small (fun d hdm => ?_) fun out ho1 ho2 => ?_
  · obtain ⟨y, g1, g2⟩ := vals_at rv hv
    exact ⟨j, y, g1, he, g2⟩
  · obtain ⟨y, g1, g2⟩ := vals_at rv hv
    exact Dp.reads I d y v (dp_at hd g1 he) g2
  · have := hdp d hdm
    show X.A.units + 2 + d.depth < cLine
    omega
  obtain ⟨zs, hz, hp⟩ := out_vals ho2
  obtain ⟨eF, heF⟩ := PyProof.Rows.sortedAll_at s.heap its out.toArray
  have hzl : zs.length ≤ sizeLine := by rw [vals_len hz, ho1]; exact small
  exact ⟨.ref (s.heap.objs.size + 1), upd H (s.heap.objs.size + 1) (.lst zs), I.laid (t' := s.toks) (fun _ _ => PyProof.Rows.sortedAll_old) (Nat.le_succ _) ⟨hzl, out, eF, hz, heF⟩, rfl, q zs _ hp (I.hok.fresh (Nat.le_succ _))⟩
end
end My
namespace My
open PySem PySem.W L2 PyProof.Rows
/-! ### told lists: texts with numbers, rising by the texts -/
theorem strict_ext {α : Type} {r : α → α → Prop} (irr : ∀ a, ¬ r a a) (tr : ∀ a b c, r a b → r b c → r a c) : ∀ {a b : List α}, a.Pairwise r → b.Pairwise r → (∀ x, x ∈ a ↔ x ∈ b) → a = b
  | [], [], _, _, _ => rfl
  | [], y :: ys, _, _, h => absurd ((h y).mpr List.mem_cons_self) (by simp)
  | x :: xs, [], _, _, h => absurd ((h x).mp List.mem_cons_self) (by simp)
  | x :: xs, y :: ys, hx, hy, h => by
    have hx' := List.pairwise_cons.mp hx
    have hy' := List.pairwise_cons.mp hy
    have e : x = y := by
      rcases List.mem_cons.mp ((h x).mp List.mem_cons_self) with z | z
      · exact z
      · rcases List.mem_cons.mp ((h y).mpr List.mem_cons_self) with z2 | z2
        · exact z2.symm
        · exact absurd (tr _ _ _ (hx'.1 y z2) (hy'.1 x z)) (irr x)
    subst e
    refine congrArg (x :: ·) (strict_ext irr tr hx'.2 hy'.2 fun z => ?_)
    constructor
    · intro hz
      rcases List.mem_cons.mp ((h z).mp (List.mem_cons_of_mem _ hz)) with q | q
      · exact absurd (by rw [q] at hz; exact hx'.1 x hz) (irr x)
      · exact q
    · intro hz
      rcases List.mem_cons.mp ((h z).mpr (List.mem_cons_of_mem _ hz)) with q | q
      · exact absurd (by rw [q] at hz; exact hy'.1 x hz) (irr x)
      · exact q
def sLt (x y : Str) : Prop := x.cps.toList < y.cps.toList
instance (x y : Str) : Decidable (sLt x y) := by unfold sLt; exact inferInstance
theorem sLt_irr (x : Str) : ¬ sLt x x := List.lt_irrefl _
theorem sLt_trans {x y z : Str} (h : sLt x y) (k : sLt y z) : sLt x z := List.lt_trans h k
theorem sLt_total (x y : Str) : sLt x y ∨ x = y ∨ sLt y x := by
  by_cases h : sLt x y
  · exact .inl h
  · by_cases k : sLt y x
    · exact .inr (.inr k)
    · exact .inr (.inl (str_of_cps (List.le_antisymm (List.not_lt.mp k) (List.not_lt.mp h))))
theorem dataLt_si (x x' : Str) (y y' : Int) : dataLt (.tuple [.str x, .int y]) (.tuple [.str x', .int y']) = decide (sLt x x' ∨ (x = x' ∧ y < y')) := by
  rw [dataLt_pair (by simp [alike]) (by simp [alike]), dataLt_str, dataLt_int]
  have e1 : PyData.eqv (.str x) (.str x') = decide (x = x') := by
    by_cases h : x = x'
    · subst h; simp [PyData.eqv]
    · simp [PyData.eqv, h]
  have e2 : PyData.eqv (.int y) (.int y') = decide (y = y') := by
    by_cases h : y = y'
    · subst h; simp [PyData.eqv]
    · simp [PyData.eqv, h]
  rw [e1, e2]
  by_cases h : x = x'
  · subst h
    have n := sLt_irr x
    by_cases h2 : y = y'
    · subst h2
      simp [n]
    · simp [h2, n]
  · by_cases h3 : sLt x x'
    · have h4 := h3
      unfold sLt at h4
      simp [h, h3, h4]
    · have h4 := h3
      unfold sLt at h4
      simp [h, h3, h4]
abbrev leSI (e f : Str × Int) : Bool := decide (sLt e.1 f.1 ∨ (e.1 = f.1 ∧ e.2 ≤ f.2))
theorem dataLe_si : dataLe false encSI = leSI := by
  funext e f
  show (!dataLt (.tuple [.str f.1, .int f.2]) (.tuple [.str e.1, .int e.2])) = _
  rw [dataLt_si]
  by_cases h : sLt f.1 e.1 ∨ (f.1 = e.1 ∧ f.2 < e.2)
  · have h' : ¬ (sLt e.1 f.1 ∨ (e.1 = f.1 ∧ e.2 ≤ f.2)) := by
      rintro (z | ⟨z, z2⟩)
      · rcases h with k | ⟨k, k2⟩
        · exact sLt_irr _ (sLt_trans z k)
        · rw [k] at z; exact sLt_irr _ z
      · rcases h with k | ⟨k, k2⟩
        · rw [z] at k; exact sLt_irr _ k
        · omega
    simp [h, leSI, h']
  · have h' : sLt e.1 f.1 ∨ (e.1 = f.1 ∧ e.2 ≤ f.2) := by
      rcases sLt_total e.1 f.1 with z | z | z
      · exact .inl z
      · refine .inr ⟨z, ?_⟩
        rcases Int.lt_or_le f.2 e.2 with k | k
        · exact absurd (.inr ⟨z.symm, k⟩) h
        · exact k
      · exact absurd (.inl z) h
    simp only [decide_eq_true h', leSI, decide_eq_false h, Bool.not_false]
theorem leSI_trans (a b c : Str × Int) (h : leSI a b = true) (k : leSI b c = true) : leSI a c = true := by
  have h1 := of_decide_eq_true h
  have k1 := of_decide_eq_true k
  refine decide_eq_true ?_
  rcases h1 with z | ⟨z, z2⟩
  · rcases k1 with w | ⟨w, w2⟩
    · exact .inl (sLt_trans z w)
    · rw [w] at z; exact .inl z
  · rcases k1 with w | ⟨w, w2⟩
    · rw [← z] at w; exact .inl w
    · exact .inr ⟨z.trans w, by omega⟩
theorem leSI_total (a b : Str × Int) : (leSI a b || leSI b a) = true := by
  rw [Bool.or_eq_true]
  rcases sLt_total a.1 b.1 with z | z | z
  · exact .inl (decide_eq_true (.inl z))
  · rcases Int.le_total a.2 b.2 with k | k
    · exact .inl (decide_eq_true (.inr ⟨z, k⟩))
    · exact .inr (decide_eq_true (.inr ⟨z.symm, k⟩))
  · exact .inr (decide_eq_true (.inl z))
/-- rising by the texts -/
def Told (M : List (Str × Int)) : Prop := M.Pairwise fun e f => sLt e.1 f.1
theorem told_of {L : List (Str × Int)} (hn : (L.map Prod.fst).Nodup) : Told (L.mergeSort (dataLe false encSI)) := by
  rw [dataLe_si]
  have hp : (L.mergeSort leSI).Perm L := List.mergeSort_perm _ _
  have hs := List.pairwise_mergeSort (le := leSI) leSI_trans leSI_total L
  have hn2 : ((L.mergeSort leSI).map Prod.fst).Nodup := ((hp.map Prod.fst).nodup_iff).mpr hn
  rw [List.Nodup, List.pairwise_map] at hn2
  refine (hs.and hn2).imp fun {e f} h => ?_
  rcases of_decide_eq_true h.1 with z | z
  · exact z
  · exact absurd z.1 h.2
theorem Told.unique {M N : List (Str × Int)} (h : Told M) (k : Told N) (e : ∀ x, x ∈ M ↔ x ∈ N) : M = N :=
  strict_ext (r := fun e f : Str × Int => sLt e.1 f.1) (fun a => sLt_irr _) (fun _ _ _ => sLt_trans) h k e
/-- texts alone -/
abbrev leS (x y : Str) : Bool := decide (x.cps.toList ≤ y.cps.toList)
theorem dataLe_s : dataLe false (fun x : Str => PyData.str x) = leS := dataLe_str fun x => x
theorem leS_trans (a b c : Str) (h : leS a b = true) (k : leS b c = true) : leS a c = true := decide_eq_true (List.le_trans (of_decide_eq_true h) (of_decide_eq_true k))
theorem leS_total (a b : Str) : (leS a b || leS b a) = true := by
  rw [Bool.or_eq_true]
  rcases List.le_total a.cps.toList b.cps.toList with z | z
  · exact .inl (decide_eq_true z)
  · exact .inr (decide_eq_true z)
theorem texts_of {L : List Str} (hn : L.Nodup) : (L.mergeSort leS).Pairwise sLt := by
  have hp : (L.mergeSort leS).Perm L := List.mergeSort_perm _ _
  have hs := List.pairwise_mergeSort (le := leS) leS_trans leS_total L
  refine (hs.and ((hp.nodup_iff).mpr hn)).imp fun {x y} h => ?_
  rcases sLt_total x y with z | z | z
  · exact z
  · exact absurd z h.2
  · exact absurd z (List.not_lt.mpr (of_decide_eq_true h.1))
end My
set_option maxHeartbeats 4000000
/-! set(texts), sorted(set(texts)), len(set(texts)) -/
namespace My
open PySem PySem.Spec PyProof.Rows L2
/-- the text of an entry -/
def txtOf (e : Int × Value) : Str := match e.2 with | .str k _ => k | _ => Str.empty
def GoodT (w : World) (e : Int × Value) : Prop := ∃ k tk, e.2 = Value.str k tk ∧ e.1 = hashStr w k
/-- a set of texts: S its members, n their number -/
def SetTx (w : World) (h : Heap) (a : Addr) (S : Str → Bool) (n : Nat) : Prop :=
  ∃ o es ep t, h.get? a = some o ∧ o.ExactSet ∧ o.data = .set es ep t ∧ (∀ e ∈ es.toList, GoodT w e) ∧ (es.toList.map txtOf).Nodup ∧ (∀ k, S k = true ↔ k ∈ es.toList.map txtOf) ∧
    (es.size < scanBound ∧ t.fits es.size = true ∧ es.size = n) ∧ Ris t.place.toList ∧ (w.params.followText "set-order" = true ∨ t.led = true)
section
variable {P : Program} {w : World} {h h' : Heap} {a : Addr} {S : Str → Bool} {n : Nat}
theorem SetTx.at (R : SetTx w h a S n) (k : ∀ o, h.get? a = some o → h'.get? a = some o) : SetTx w h' a S n := by
  obtain ⟨o, es, ep, t, ho, r⟩ := R
  exact ⟨o, es, ep, t, k o ho, r⟩
theorem SetTx.congr {S' : Str → Bool} {m : Nat} (R : SetTx w h a S n) (e : ∀ k, S' k = S k) (em : n = m) : SetTx w h a S' m := by
  rw [show S' = S from funext e, ← em]
  exact R
theorem goodT_elems {l : List (Int × Value)} (g : ∀ e ∈ l, GoodT w e) : ElemsOf (PySem.strKind P w) l := fun e he => by
  obtain ⟨k, tk, g1, g2⟩ := g e he
  exact ⟨⟨k, by rw [g1]; exact strKind_is P w k tk, g2⟩, by rw [g1]; rfl⟩
theorem goodT_is {e : Int × Value} (g : GoodT w e) (k : Str) : (PySem.strKind P w).is k e.2 = true ↔ txtOf e = k := by
  obtain ⟨k0, tk, g1, _⟩ := g
  unfold txtOf
  rw [g1]
  constructor
  · intro q
    exact (PySem.strKind P w).inj _ _ _ (strKind_is P w k0 tk) q
  · intro q
    show (PySem.strKind P w).is k (.str k0 tk) = true
    rw [show k0 = k from q]
    exact strKind_is P w k tk
theorem goodT_mem {l : List (Int × Value)} (g : ∀ e ∈ l, GoodT w e) (k : Str) : k ∈ l.map txtOf ↔ ∃ e ∈ l, (PySem.strKind P w).is k e.2 = true := by
  rw [List.mem_map]
  exact ⟨fun ⟨e, he, q⟩ => ⟨e, he, (goodT_is (g e he) k).2 q⟩, fun ⟨e, he, q⟩ => ⟨e, he, (goodT_is (P := P) (g e he) k).1 q⟩⟩
theorem SetTx.setOf (R : SetTx w h a S n) : h.SetOf (PySem.strKind P w) a S n := by
  obtain ⟨o, es, ep, t, ho, hx, hd, g, nd, hm, ⟨hb, hf, hn⟩, _⟩ := R
  exact ⟨o, es, ep, t, ho, hx, hd, goodT_elems g, fun k => (hm k).trans (goodT_mem g k), hb, hf, hn⟩
end
section
variable {P : Program} {w : World} {A : Around} {E : Value → Shared → Prop} {s : Shared} {a : Addr} {S : Str → Bool} {n : Nat}
theorem tx_tail {g : Bool → Sem Unit} (hg : ∀ (b : Bool) (s₁ : Shared) (Q' : Unit → Shared → Prop), Q' () s₁ → wpAny (model P w) A (g b) Q' E s₁)
    {o : Obj} {es : Array (Int × Value)} {ep : Nat} {t : SetTable} (ho : s.heap.get? a = some o) (hex : o.ExactSet) (hd : o.data = .set es ep t)
    {es1 : Array (Int × Value)} {t2 : SetTable} {S' : Str → Bool} (g1 : ∀ e ∈ es1.toList, GoodT w e) (nd1 : (es1.toList.map txtOf).Nodup) (m1 : ∀ k, S' k = true ↔ k ∈ es1.toList.map txtOf)
    (room : es1.size < scanBound) (fit : t2.fits es1.size = true) (ris : Ris t2.place.toList) (led : w.params.followText "set-order" = true ∨ t2.led = true) {wasDummy : Bool} {R : Option Bool → Shared → Prop}
    (hR : ∀ h', Heap.SameBut a s.heap h' → SetTx w h' a S' es1.size → R (some true) { s with heap := h' }) :
    wpAny (model P w) A (do
        storeSet a es1 t2
        if (!wasDummy && t2.tooFull) = true then do
            g (relayAll t2 es1 (SetTable.grown es1.size)).2.2
            storeSet a (relayAll t2 es1 (SetTable.grown es1.size)).1 (relayAll t2 es1 (SetTable.grown es1.size)).2.1
            pure (some true)
          else pure (some true)) R E s := by
  refine wpAny_bind (wpAny_storeSet_of ho hd ?_ (fits_of_scanBound room))
  have st1 := store_at (es' := es1) (t' := t2) ho hd
  have same1 := Heap.SameBut.update s.heap a (Obj.putSet es1 t2)
  split
  · have p3 := relayAll_perm t2 es1 (SetTable.grown es1.size)
    have f3 := relayAll_fits t2 es1 (SetTable.grown es1.size)
    have r3 := relayAll_ris t2 es1 (SetTable.grown es1.size)
    have l3 := relayAll_led t2 es1 (SetTable.grown es1.size)
    generalize relayAll t2 es1 (SetTable.grown es1.size) = Z at p3 f3 r3 l3 ⊢
    obtain ⟨es2, t3, gave⟩ := Z
    dsimp only at p3 f3 r3 l3 ⊢
    have z2 : es2.size = es1.size := by rw [← Array.length_toList, p3.length_eq, Array.length_toList]
    have b2 : es2.size < scanBound := by rw [z2]; exact room
    refine wpAny_bind (hg _ _ _ (wpAny_bind (wpAny_storeSet_of st1 rfl ?_ (fits_of_scanBound b2))))
    have st2 := store_at (es' := es2) (t' := t3) st1 rfl
    exact wpAny_pure (hR _ (same1.trans (Heap.SameBut.update _ a _)) ⟨_, es2, _, t3, st2, hex, rfl, fun e he => g1 e (p3.mem_iff.mp he), (p3.map txtOf).nodup_iff.mpr nd1, fun k => (m1 k).trans (p3.map txtOf).mem_iff.symm, ⟨b2, f3, z2⟩, r3, led.imp id fun z => by rw [l3]; exact z⟩)
  · exact wpAny_pure (hR _ same1 ⟨_, es1, _, t2, st1, hex, rfl, g1, nd1, m1, ⟨room, fit, rfl⟩, ris, led⟩)
theorem tx_add {k : Str} {tk : Tok} {Q : Bool → Shared → Prop} (R : SetTx w s.heap a S n) (room : n + 1 < scanBound)
    (hQ : ∀ h', Heap.SameBut a s.heap h' → SetTx w h' a (fun j => S j || decide (j = k)) (if S k = true then n else n + 1) → Q (!S k) { s with heap := h' }) :
    wpAny (model P w) A (setAddHashed a (.str k tk) ((PySem.strKind P w).hash k)) Q E s := by
  obtain ⟨o, es, ep, t, ho, hex, hd, g, nd, hm, ⟨hb, hf, hn⟩, hr, hl⟩ := R
  have is_k : (PySem.strKind P w).is k (.str k tk) = true := strKind_is P w k tk
  have scan : (Value.str k tk).scannable = true := rfl
  have elems : ElemsOf (PySem.strKind P w) es.toList := goodT_elems g
  unfold setAddHashed setAddHashedIn
  refine wpAny_holding (wpAny_bind (wpAny_setState_of ho hd hf ?_))
  dsimp only
  rw [byScan_of scan hb elems]
  simp only [↓reduceIte]
  unfold setAddByScan
  refine wpAny_bind (wpAny_bind (wpAny_rule ?_))
  refine wpAny_bind (wpAny_setScan_of is_k ho hd hf elems ?_)
  cases at_ : List.findIdx? (fun e => (PySem.strKind P w).is k e.2) es.toList with
  | some j =>
    dsimp only
    obtain ⟨hj, pj, _⟩ := List.findIdx?_eq_some_iff_getElem.mp at_
    have inS : S k = true := (hm k).2 ((goodT_mem (P := P) g k).2 ⟨es.toList[j], List.getElem_mem hj, pj⟩)
    refine wpAny_pure (wpAny_pure ?_)
    have q := hQ s.heap (Heap.SameBut.refl a s.heap) ⟨o, es, ep, t, ho, hex, hd, g, nd, fun i => by
      rw [Bool.or_eq_true, decide_eq_true_eq, ← hm i]
      exact ⟨fun z => z.elim id (fun e => e ▸ inS), .inl⟩, ⟨hb, hf, by rw [if_pos inS]; exact hn⟩, hr, hl⟩
    rw [inS] at q
    exact q
  | none =>
    dsimp only
    have out : k ∉ es.toList.map txtOf := fun z => by
      obtain ⟨e, he, q⟩ := (goodT_mem (P := P) g k).1 z
      have c := List.findIdx?_eq_none_iff.mp at_ e he
      rw [q] at c
      cases c
    have noS : S k = false := by
      cases q : S k with
      | false => rfl
      | true => exact absurd ((hm k).1 q) out
    have gave_ : ∀ (b : Bool) {s₁ : Shared} {Q' : Unit → Shared → Prop}, Q' () s₁ → wpAny (model P w) A (match b with | true => rule "set.scan.the-table-gave-way" | false => pure ()) Q' E s₁ :=
      fun b s₁ Q' q => by cases b <;> first | exact wpAny_pure q | exact wpAny_rule q
    have p1 := layNew_perm t es ((PySem.strKind P w).hash k) (.str k tk)
    have f1 := layNew_fits t es ((PySem.strKind P w).hash k) (.str k tk)
    have r1 := layNew_ris t es ((PySem.strKind P w).hash k) (.str k tk) hr
    have l1 := layNew_led t es ((PySem.strKind P w).hash k) (.str k tk)
    generalize layNew t es ((PySem.strKind P w).hash k) (.str k tk) = Z at p1 f1 r1 l1 ⊢
    obtain ⟨es1, t1, wasDummy, gave⟩ := Z
    dsimp only at p1 f1 r1 l1 ⊢
    rw [Array.toList_push] at p1
    have pc : es1.toList.Perm (((PySem.strKind P w).hash k, Value.str k tk) :: es.toList) := p1.trans (List.perm_append_singleton _ _)
    have pk : (es1.toList.map txtOf).Perm (k :: es.toList.map txtOf) := pc.map txtOf
    have g1 : ∀ e ∈ es1.toList, GoodT w e := fun e he => by
      rcases List.mem_cons.mp (pc.mem_iff.mp he) with z | z
      · rw [z]; exact ⟨k, tk, rfl, rfl⟩
      · exact g e z
    have nd1 : (es1.toList.map txtOf).Nodup := pk.nodup_iff.mpr (List.nodup_cons.mpr ⟨out, nd⟩)
    have m1 : ∀ i, (S i || decide (i = k)) = true ↔ i ∈ es1.toList.map txtOf := fun i => by
      rw [Bool.or_eq_true, decide_eq_true_eq, hm i, pk.mem_iff, List.mem_cons]
      exact Or.comm
    have z1 : es1.size = n + 1 := by rw [← Array.length_toList, pc.length_eq, List.length_cons, Array.length_toList, hn]
    have b1 : es1.size < scanBound := by rw [z1]; exact room
    have led1 : w.params.followText "set-order" = true ∨ t1.led = true := hl.imp id fun z => by rw [l1]; exact z
    have fin : ∀ h', Heap.SameBut a s.heap h' → SetTx w h' a (fun j => S j || decide (j = k)) es1.size → Q true { s with heap := h' } := fun h' sb r => by
      have q := hQ h' sb
      rw [noS] at q
      rw [z1] at r
      exact q r
    refine wpAny_bind (gave_ _ ?_)
    split
    · refine wpAny_bind ?_
      rw [hashByValue_scannable 8 scan]
      refine wpAny_pure ?_
      refine tx_tail ?_ ho hex hd g1 nd1 m1 b1 ?_ ?_ ?_ ?_
      · intro b s₁ Q' q; cases b <;> first | exact wpAny_pure q | exact wpAny_rule q
      · first | (split <;> first | exact f1 | exact SetTable.fits_plain_off f1) | exact f1
      · first | (split <;> exact r1) | exact r1
      · first | (split <;> exact led1) | exact led1
      · intro h' sb r; dsimp only; exact wpAny_pure (fin h' sb r)
    · refine wpAny_bind (wpAny_pure ?_)
      simp only [↓reduceIte]
      refine tx_tail ?_ ho hex hd g1 nd1 m1 b1 f1 r1 led1 ?_
      · intro b s₁ Q' q; cases b <;> first | exact wpAny_pure q | exact wpAny_rule q
      · intro h' sb r; dsimp only; exact wpAny_pure (fin h' sb r)
end
end My
set_option maxHeartbeats 4000000
namespace My
open PySem PySem.Spec PyProof.Rows L2
/-! ### sorted(a set of texts), len of it -/
def textIn : Value → Str | .str x _ => x | _ => Str.empty
theorem each_text : ∀ l : List Value, (∀ v ∈ l, ∃ k tk, v = Value.str k tk) → PySem.W.EachIs (fun v b => ∃ t, v = Value.str b t) l (l.map textIn)
  | [], _ => .nil
  | v :: l, h => by
    obtain ⟨k, tk, rfl⟩ := h v List.mem_cons_self
    exact .cons ⟨tk, rfl⟩ (each_text l fun u hu => h u (List.mem_cons_of_mem _ hu))
theorem vals_text : ∀ {out : List Value} {M : List Str}, PySem.W.EachIs (fun v b => ∃ t, v = Value.str b t) out M → Vals (M.map V.str) out
  | _, _, .nil => .nil
  | _, _, .cons h t => .cons (show RelV _ _ from h) (vals_text t)
section
variable {P : Program} {w : World} {A : Around} {E : Value → Shared → Prop} {s : Shared} {a : Addr} {S : Str → Bool} {n : Nat}
theorem sorted_texts {Q : Value → Shared → Prop} (R : SetTx w s.heap a S n) (calm : A.handled = none) (small : n ≤ 100000) (hu : A.units + 64 < cLine)
    (hQ : ∀ s' p (out : Array Value) (c : Nat) (M : List Str), (∀ b o, s.heap.get? b = some o → s'.heap.get? b = some o) → s'.gens = s.gens → s'.os = s.os → s.heap.objs.size ≤ p →
      s'.heap.get? p = some (seqObj "list" out c) → Vals (M.map V.str) out.toList → M.Pairwise sLt → (∀ k, k ∈ M ↔ S k = true) → M.length = n → Q (.ref p) s') :
    wpAny (model P w) A (call (.builtin "sorted") [.ref a]) Q E s := by
  obtain ⟨o, es, ep, t, ho, hex, hd, g, nd, hm, ⟨hb, hf, hn⟩, hr, hl⟩ := R
  have line : n ≤ sizeLine := Nat.le_trans small (by decide)
  refine Calls.call_function_entry kind_sorted plain_sorted entry_sorted (args_sorted1 _) ?_
  unfold Builtin.«sorted»
  refine wpAny_bind (m := checkCount "sorted" 1 1 _) (wpAny_pure ?_)
  refine wpAny_bind (collect_set (A := A.in1) calm ⟨o, ho, hex.1, hd⟩ hf hb hr hl fun s1 vs k1 hz g1 o1 pm => ?_)
  have many : vs.length = n := by rw [pm.length_eq, List.length_map, Array.length_toList]; exact hn
  have each := each_text vs fun v hv => by
    obtain ⟨e, he, q⟩ := List.mem_map.mp (pm.mem_iff.mp hv)
    obtain ⟨k, tk, h1, _⟩ := g e he
    exact ⟨k, tk, by rw [← q]; exact h1⟩
  have pk : (vs.map textIn).Perm (es.toList.map txtOf) := by
    have q := pm.map textIn
    rw [List.map_map] at q
    exact q
  have nd2 : (vs.map textIn).Nodup := pk.nodup_iff.mpr nd
  refine wpAny_bind (wpAny_newList ?_ (by rw [many]; exact line))
  have laid : (s1.heap.push (seqObj "list" vs.toArray 0)).get? s1.heap.objs.size = some (seqObj "list" vs.toArray 0) := Heap.get?_push_size _ rfl
  refine wpAny_bind (wpAny_holding (PySem.W.list_sort_data (s := { s1 with heap := s1.heap.push (seqObj "list" vs.toArray 0) }) (enc := PyData.str) (bs := vs.map textIn) laid each (each.mono fun v b ⟨t, e⟩ => ⟨[], by rw [e]; exact .str _ _, by simp⟩) ?_ ?_ ?_ ?_ fun out len outs => ?_))
  · intro d hd d' hd'
    obtain ⟨x, _, rfl⟩ := List.mem_map.mp hd
    obtain ⟨y, _, rfl⟩ := List.mem_map.mp hd'
    rfl
  · exact .others (enc := PyData.str) fun b => ⟨fun z => (by cases z), fun xs z => (by cases z)⟩
  · rw [List.length_map, many]; exact line
  · intro b _
    show A.units + 1 + 1 + 0 < cLine
    omega
  · obtain ⟨c, hc⟩ := sortedHeap_at (vs := vs) (out := out.toArray) laid
    rw [show PySem.W.dataLe false PyData.str = leS from dataLe_s] at outs
    have pn : ((vs.map textIn).mergeSort leS).Perm (es.toList.map txtOf) := (List.mergeSort_perm _ _).trans pk
    refine wpAny_pure ⟨_, rfl, hQ _ s1.heap.objs.size out.toArray c ((vs.map textIn).mergeSort leS) (fun b u e => ?_) g1 o1 hz hc (by simpa using vals_text outs) (texts_of nd2) (fun k => by rw [pn.mem_iff, ← hm k]) ?_⟩
    · have q := k1 b u e
      have hlt := Heap.lt_size q
      show (sortedHeap (s1.heap.push (seqObj "list" vs.toArray 0)) s1.heap.objs.size vs out.toArray).get? b = some u
      rw [sortedHeap_old (Nat.ne_of_lt hlt) (by rw [size_push']; exact Nat.lt_succ_of_lt hlt)]
      exact Heap.get?_push_of_some _ q
    · rw [pn.length_eq, List.length_map, Array.length_toList]; exact hn
end
/-- a set of texts in the heap -/
def TxO (w : World) (a : Addr) (S : Str → Bool) (n : Nat) : HO := .ext fun h => SetTx w h a S n
section
variable {X : Cx}
theorem txO_new {w : World} {P : Program} {H : Hp} {h : Heap} {a : Addr} {S : Str → Bool} {n : Nat} (R : SetTx w h a S n) : ObjOk P w H h a (TxO w a S n) := by
  have ⟨o, _, _, _, ho, _⟩ := R
  exact ⟨R, ⟨o, ho⟩, fun _ _ p k => SetTx.at p k⟩
theorem txO_get {pins : List (Addr × Obj)} {σ : L2.St} {H : Hp} {s : Shared} {a : Addr} {S : Str → Bool} {n : Nat} (I : Inv X pins σ H s) (ha : H a = some (TxO X.w a S n)) : SetTx X.w s.heap a S n := (I.hok a _ ha).1
/-- sorted(found) -/
def rSortTx (w : World) : List V → Hp → VK → Prop := fun vs H Q => ∃ (a : Addr) (S : Str → Bool) (n : Nat), vs = [V.ref a] ∧ H a = some (TxO w a S n) ∧ n ≤ 100000 ∧
  ∀ (M : List Str) (p : Addr), M.Pairwise sLt → (∀ k : Str, k ∈ M ↔ S k = true) → M.length = n → H p = none → Q (.ref p) (upd H p (.lst (M.map V.str)))
theorem cr_sortTx (hc : X.calm = true) (hu : X.A.units + 64 < cLine) : CallR X (.builtin "sorted") (rSortTx X.w) := by
  intro pins s σ H vs us Q I r h
  obtain ⟨a, S, n, rfl, ha, small, q⟩ := h
  have R := txO_get I ha
  rw [Vals.ref1 r]
  refine sorted_texts R (I.ok.hd hc) small hu fun s' p out c M k g o hp hg hv hs hm hl => ?_
  have line : (M.map V.str).length ≤ sizeLine := by rw [List.length_map, hl]; exact Nat.le_trans small (by decide)
  have free : H p = none := I.hok.fresh hp
  have J : Inv X pins σ (upd H p (.lst (M.map V.str))) { s with heap := s'.heap, gens := s'.gens, drawn := s'.drawn, toks := s'.toks } :=
    I.call (ch := []) (Un.laid k hp free) (I.hok.laid k hp ⟨line, out.toList, c, hv, hg⟩) (by rw [g]; exact I.bare) (fun _ z => nomatch z)
  have same : s' = { s with heap := s'.heap, gens := s'.gens, drawn := s'.drawn, toks := s'.toks } := by
    cases s'
    cases s
    cases o
    rfl
  rw [same]
  exact ⟨.ref p, _, J, rfl, q M p hs hm hl free⟩
/-- len(found) -/
theorem cr_lenTx : CallR X (.builtin "len") (fun vs H Q => ∃ (a : Addr) (S : Str → Bool) (n : Nat), vs = [V.ref a] ∧ H a = some (TxO X.w a S n) ∧ n ≤ 100000 ∧ Q (.int (n : Int)) H) := by
  intro pins s σ H vs us Q I r h
  obtain ⟨a, S, n, rfl, ha, small, q⟩ := h
  obtain ⟨o, es, ep, t, ho, hex, hd, _, _, _, ⟨_, hf, hn⟩, _⟩ := txO_get I ha
  rw [Vals.ref1 r]
  exact call_len_set ho hex hd hf (by rw [hn]; omega) ⟨.int (n : Int), H, I.tok _, ⟨_, by rw [hn]⟩, q⟩
end
end My
set_option maxHeartbeats 4000000
namespace My
open PySem PySem.Spec PyProof.Rows L2
/-! ### sorted(a list or a tuple of texts) -/
theorem textIn_of : ∀ {xs : List Str} {us : List Value}, Vals (xs.map V.str) us → (∀ v ∈ us, ∃ k tk, v = Value.str k tk) ∧ us.map textIn = xs
  | [], _, .nil => ⟨fun v hv => by simp at hv, rfl⟩
  | x :: xs, _, .cons r t => by
    obtain ⟨h1, h2⟩ := textIn_of (xs := xs) t
    obtain ⟨tk, rfl⟩ := r
    refine ⟨fun v hv => ?_, by rw [List.map_cons, h2]; rfl⟩
    rcases List.mem_cons.mp hv with z | z
    · exact ⟨x, tk, z⟩
    · exact h1 v z
section
variable {P : Program} {w : World} {A : Around} {E : Value → Shared → Prop} {s : Shared} {a : Addr}
theorem gather {Q : List Value → Shared → Prop} (q : Addr) {T : String} {o : Obj} {ys : Array Value} {n : Nat} (hT : T = "list" ∨ T = "tuple")
    (ho : s.heap.get? q = some o) (hc : o.cls = .type T) (hd : o.data = .seq ys n) (line : ys.size ≤ sizeLine)
    (hQ : ∀ h', (∀ b o', s.heap.get? b = some o' → h'.get? b = some o') → s.heap.objs.size ≤ h'.objs.size → Q ys.toList { s with heap := h' }) :
    wpAny (model P w) A (collect (.ref q)) Q E s := by
  unfold collect
  refine wpAny_bind (wpAny_runValue (codeAny_builtin PySem.F.entry_proto_collect ?_))
  rw [Around.under_plainId PySem.F.plain_proto_collect _]
  show wpAny _ A.in1 (newList [] >>= fun l => again (.builtin "list.__iadd__" ⟨[l, .ref q], []⟩)) _ _ s
  refine wpAny_bind (wpAny_newObj_type ?_)
  refine wpAny_pure ⟨plainId_quiet PySem.F.plain_list_iadd _, codeAny_builtin PySem.F.entry_list_iadd ?_⟩
  rw [Around.under_plainId PySem.F.plain_list_iadd _]
  show wpAny _ A.in1 (Builtin.List.listExtendWith (.ref s.heap.objs.size) (.ref q) (.ref s.heap.objs.size)) _ _ _
  have new1 : (s.heap.push { cls := .type "list", data := .seq ([] : List Value).toArray }).get? s.heap.objs.size = some { cls := .type "list", data := .seq #[] 0 } := Heap.get?_push_size _ rfl
  have new2 := Heap.get?_update_self (Obj.mapSeq (· ++ ys)) new1 rfl
  have told_ : wpAny (model P w) A (match Value.ref s.heap.objs.size with
      | Value.ref a => do
        match (← load a).data with
          | Data.seq xs _ => pure xs.toList
          | _ => unsupported "internal:collect"
      | _ => unsupported "internal:collect") Q E { s with heap := (s.heap.push { cls := .type "list", data := .seq ([] : List Value).toArray }).update s.heap.objs.size (Obj.mapSeq (· ++ ys)) } := by
    show wpAny _ A (load s.heap.objs.size >>= _) _ _ _
    refine wpAny_bind (wpAny_load new2 (wpAny_pure ?_))
    show Q ((#[] : Array Value) ++ ys).toList _
    rw [show ((#[] : Array Value) ++ ys).toList = ys.toList by simp]
    refine hQ _ (fun b o' hb => (Heap.get?_update_other _ _ (Nat.ne_of_gt (Heap.lt_size hb))).trans (Heap.get?_push_of_some _ hb)) ?_
    exact Nat.le_of_lt (Heap.lt_size new2)
  refine wpAny_mono (wpAny_extend_seq (hsz := line) (A := A) (R := fun r s' => r = .ok (.ret (.ref s.heap.objs.size)) ∧ s' = { s with heap := (s.heap.push { cls := .type "list", data := .seq ([] : List Value).toArray }).update s.heap.objs.size (Obj.mapSeq (· ++ ys)) })
    (s := { s with heap := s.heap.push { cls := .type "list", data := .seq ([] : List Value).toArray } }) _ q _ 0 hT new1 (Heap.get?_push_of_some _ ho) hc hd ⟨rfl, rfl⟩) (fun fin s' h => ?_) (fun e s' h => ?_)
  · cases fin with
    | done f =>
      obtain ⟨e, rfl⟩ := h
      cases e
      exact told_
    | again c' => exact ⟨h.1, codeAny_mono h.2 fun r s'' hr => by obtain ⟨rfl, rfl⟩ := hr; exact told_⟩
  · exact absurd h.1 (by simp)
theorem sorted_seq {Q : Value → Shared → Prop} {T : String} {o : Obj} {ys : Array Value} {n : Nat} {xs : List Str} (hT : T = "list" ∨ T = "tuple") (ho : s.heap.get? a = some o) (hc : o.cls = .type T) (hd : o.data = .seq ys n)
    (rv : Vals (xs.map V.str) ys.toList) (small : xs.length ≤ 100000) (hu : A.units + 64 < cLine)
    (hQ : ∀ s' p (out : Array Value) (c : Nat), (∀ b o, s.heap.get? b = some o → s'.heap.get? b = some o) → s'.gens = s.gens → s'.os = s.os → s.heap.objs.size ≤ p →
      s'.heap.get? p = some (seqObj "list" out c) → Vals ((xs.mergeSort leS).map V.str) out.toList → Q (.ref p) s') :
    wpAny (model P w) A (call (.builtin "sorted") [.ref a]) Q E s := by
  obtain ⟨each0, eM⟩ := textIn_of rv
  have many : ys.toList.length = xs.length := by rw [← vals_len rv, List.length_map]
  have line : ys.size ≤ sizeLine := by rw [← Array.length_toList, many]; exact Nat.le_trans small (by decide)
  refine Calls.call_function_entry kind_sorted plain_sorted entry_sorted (args_sorted1 _) ?_
  unfold Builtin.«sorted»
  refine wpAny_bind (m := checkCount "sorted" 1 1 _) (wpAny_pure ?_)
  refine wpAny_bind (gather (A := A.in1) a hT ho hc hd line fun h1 k1 hz => ?_)
  have each := each_text ys.toList each0
  refine wpAny_bind (wpAny_newList ?_ (by rw [many]; exact Nat.le_trans small (by decide)))
  have laid : (h1.push (seqObj "list" ys.toList.toArray 0)).get? h1.objs.size = some (seqObj "list" ys.toList.toArray 0) := Heap.get?_push_size _ rfl
  refine wpAny_bind (wpAny_holding (PySem.W.list_sort_data (s := { s with heap := h1.push (seqObj "list" ys.toList.toArray 0) }) (enc := PyData.str) (bs := ys.toList.map textIn) laid each (each.mono fun v b ⟨t, e⟩ => ⟨[], by rw [e]; exact .str _ _, by simp⟩) ?_ ?_ ?_ ?_ fun out len outs => ?_))
  · intro d hd d' hd'
    obtain ⟨x, _, rfl⟩ := List.mem_map.mp hd
    obtain ⟨y, _, rfl⟩ := List.mem_map.mp hd'
    rfl
  · exact .others (enc := PyData.str) fun b => ⟨fun z => (by cases z), fun xs z => (by cases z)⟩
  · rw [List.length_map, many]; exact Nat.le_trans small (by decide)
  · intro b _
    show A.units + 1 + 1 + 0 < cLine
    omega
  · obtain ⟨c, hc⟩ := sortedHeap_at (vs := ys.toList) (out := out.toArray) laid
    rw [show PySem.W.dataLe false PyData.str = leS from dataLe_s, eM] at outs
    refine wpAny_pure ⟨_, rfl, hQ _ h1.objs.size out.toArray c (fun b u e => ?_) rfl rfl hz hc (by simpa using vals_text outs)⟩
    have q := k1 b u e
    have hlt := Heap.lt_size q
    show (sortedHeap (h1.push (seqObj "list" ys.toList.toArray 0)) h1.objs.size ys.toList out.toArray).get? b = some u
    rw [sortedHeap_old (Nat.ne_of_lt hlt) (by rw [size_push']; exact Nat.lt_succ_of_lt hlt)]
    exact Heap.get?_push_of_some _ q
end
section
variable {X : Cx}
def rSortSq (K : PySem.W.Frag) : List V → Hp → VK → Prop := fun vs H Q => ∃ (a : Addr) (xs : List Str), vs = [V.ref a] ∧ (SqL K H a (xs.map V.str) ∨ SqT K H a (xs.map V.str)) ∧ xs.length ≤ 100000 ∧
  ∀ (p : Addr), H p = none → Q (.ref p) (upd H p (.lst ((xs.mergeSort leS).map V.str)))
theorem cr_sortSq (hu : X.A.units + 64 < cLine) : CallR X (.builtin "sorted") (rSortSq X.K) := by
  intro pins s σ H vs us Q I r h
  obtain ⟨a, xs, rfl, hq, small, q⟩ := h
  rw [Vals.ref1 r]
  have line : ((xs.mergeSort leS).map V.str).length ≤ sizeLine := by rw [List.length_map, List.length_mergeSort]; exact Nat.le_trans small (by decide)
  have fin : ∀ s' p (out : Array Value) (c : Nat), (∀ b o, s.heap.get? b = some o → s'.heap.get? b = some o) → s'.gens = s.gens → s'.os = s.os → s.heap.objs.size ≤ p →
      s'.heap.get? p = some (seqObj "list" out c) → Vals ((xs.mergeSort leS).map V.str) out.toList → EP X pins σ Q (.ref p) s' := fun s' p out c k g o hp hg hv => by
    have free : H p = none := I.hok.fresh hp
    have J : Inv X pins σ (upd H p (.lst ((xs.mergeSort leS).map V.str))) { s with heap := s'.heap, gens := s'.gens, drawn := s'.drawn, toks := s'.toks } :=
      I.call (ch := []) (Un.laid k hp free) (I.hok.laid k hp ⟨line, out.toList, c, hv, hg⟩) (by rw [g]; exact I.bare) (fun _ z => nomatch z)
    have same : s' = { s with heap := s'.heap, gens := s'.gens, drawn := s'.drawn, toks := s'.toks } := by
      cases s'
      cases s
      cases o
      rfl
    rw [same]
    exact ⟨.ref p, _, J, rfl, q p free⟩
  rcases hq with hq | hq
  · obtain ⟨its, rv, pl, hz⟩ := I.list hq
    obtain ⟨o, ho, hc, n, hd⟩ := pl.isList
    exact sorted_seq (.inl rfl) ho hc hd (by simpa using rv) small hu fin
  · obtain ⟨its, rv, pl, hz⟩ := I.tuple hq
    obtain ⟨o, ho, hc, n, hd⟩ := pl
    exact sorted_seq (.inr rfl) ho hc hd (by simpa using rv) small hu fin
end
end My
namespace My
open PySem PySem.Spec PyProof.Rows L2
/-- any walk: what is done with each item, by what holds behind it -/
theorem it_any {J : It} {n : Nat} {G : Hp → Prop} {Y : Nat → Hp → V → Hp → Prop} (wk : Walk J n G Y) {H0 : Hp} {Qd : Hp → Prop} {Step : V → Hp → (Hp → Prop) → Prop} (Pv : Nat → Hp → Prop) (h0 : Pv 0 H0) (hG : ∀ i H, i ≤ n → Pv i H → G H)
    (hs : ∀ i x H H', i < n → Pv i H → Y i H x H' → Step x H' (Pv (i + 1))) (hd : ∀ H, Pv n H → Qd H) :
    ∃ W : Nat → Nat → Hp → Prop, (∃ m, W 0 m H0) ∧ ∀ i m H, W i m H → (J.stop i H ∧ Qd H) ∨ (J.go i H ∧ ∃ Nx : Hp → Prop, (∀ H', Nx H' → ∃ m', m' < m ∧ W (i + 1) m' H') ∧ ∀ x H', J.yld i H x H' → Step x H' Nx) := by
  refine ⟨fun i m H => i ≤ n ∧ m = n - i ∧ Pv i H, ⟨n, Nat.zero_le _, rfl, h0⟩, fun i m H ⟨hi, em, p⟩ => ?_⟩
  have hq := hG i H hi p
  rcases Nat.lt_or_ge i n with lt | ge
  · exact .inr ⟨wk.goes i H lt hq, Pv (i + 1), fun H' p' => ⟨n - (i + 1), by omega, lt, rfl, p'⟩, fun x H' y => hs i x H H' lt p (wk.yields i H x H' lt hq y)⟩
  · have e : i = n := Nat.le_antisymm hi ge
    subst e
    exact .inl ⟨wk.stops H hq, hd H p⟩
end My
/-! own exceptions without arguments; defs that may raise, called by keywords -/
namespace My
open PySem PySem.Spec PyProof.Rows L2 PySem.Calls
section
variable {X : Cx} {C : Addr} {bmB : List Value} {B newId initId : String}
/-- X() -/
theorem pmk_own0 {x : Str} {p pos : Pos} (F : ExcBaseFacts B newId initId bmB) (q : PySem.W.excIn X.K C bmB newId = true) (gC : X.mg x = some (.ref C)) (kC : PySem.W.keepIn X.K (.ref C) = true) (r : Raises X (.ref C)) (hg : Gl X x)
    (hdb : (x == ("__debug__" : Str)) = false := by decide) : PMk X (.Call (.Name x p) [] [] pos) (fun _ H Q => Q (.ref C) none H) := by
  intro pins s σ H Q I h
  refine wpAny_Call_Name_kw (ld_glob I hg gC ?_ hdb)
  refine PySem.W.callWith_K0 I.kIn kC ?_
  show wpAny _ _ (call (.ref C) []) _ _ _
  obtain ⟨bm, N, nm, qn, bs, hdct, sn, sub, ab, col, dd, k0, k1, k2, k3, k5, mN, hC, hN, hni, T⟩ := exc_obj I.kIn q
  refine wpAny_call_exc_subT F T hC hN hni (fun h' e hm => ?_) (by show 0 ≤ sizeLine; exact Nat.zero_le _)
  exact mk_of I hm r h (I.hok.gone hm.new)
variable {CX : CXT} {k : Nat} {f : Addr} {fd : FuncData} {ps ks : List Str} {sp : Sp} {E : L2.St → XK} {x : Str} {p pos : Pos} {kws : List Keyword} {tk : TA} {g : List Value → List Value → List Value} {gV : List V → List V → List V}
theorem run_fnKS {pins : List (Addr × Obj)} {σ : L2.St} {H : Hp} {s : Shared} {Q : VK} {us ws : List Value} {vs zs : List V} (F : FnOk X.prog X.w X.K X.mg X.base CX k f fd ps sp) (hr : Room k X.A) (hb : KBinds X.K fd ps ks g gV) (out : PassesAt CX X σ (E σ))
    (I : Inv X pins σ H s) (r : Vals vs us) (rz : Vals zs ws) (h : sp (gV vs zs) H Q (E σ)) : wpAny (model X.prog X.w) X.A (call (.ref f) us (ks.zip ws)) (EP X pins σ Q) X.xe s := by
  have rr := hb.rel r rz
  have many : (g us ws).length = ps.length := by rw [← rr.length]; exact F.len _ _ _ _ h
  refine wpAny_call (codeAny_mono (F.run X.A X.stack s H ⟨us, ks.zip ws⟩ (g us ws) (gV vs zs) Q (E σ) hr I.env0 (hb.to s us ws I.kIn many) rr h) fun fin s1 told => ?_)
  cases fin with
  | error u => exact out pins H s u s1 I told
  | ok fl =>
    cases fl with
    | ret u => exact I.after told
    | next => exact told.elim
    | brk => exact told.elim
    | cont => exact told.elim
def tCallKS (sp : Sp) (gV : List V → List V → List V) (E : L2.St → XK) (tk : TA) : TE := fun σ H Q => tk σ H fun zs H1 => sp (gV [] zs) H1 Q (E σ)
/-- f(a=.., b=..), f may raise -/
theorem pe_callKS (F : FnOk X.prog X.w X.K X.mg X.base CX k f fd ps sp) (hr : Room k X.A) (hg : Gl X x) (hm : X.mg x = some (.ref f)) (hk : PySem.W.keepIn X.K (.ref f) = true) (hb : KBinds X.K fd ps ks g gV) (out : ∀ σ, PassesAt CX X σ (E σ))
    (hkw : PK X kws tk) (hall : (backToKw pos (keywordEach kws X.env)).all (·.1.isSome) = true := by rfl) (hks : (backToKw pos (keywordEach kws X.env)).filterMap (·.1) = ks := by rfl)
    (hdb : (x == ("__debug__" : Str)) = false := by decide)
    (hpl : ((backTo pos (starEach [] X.env)).any (·.1) || (backToKw pos (keywordEach kws X.env)).any (·.1.isNone)) = false := by rfl) :
    PE X (.Call (.Name x p) [] kws pos) (tCallKS sp gV E tk) := by
  refine ⟨fun pins s σ H Q I h => ?_⟩
  refine wpAny_Call_Name_kw (ld_glob I hg hm ?_ hdb)
  refine PySem.W.callWith_KW0 (h₀ := X.base) I.ok.mod.kin hk hall (thn (hkw.run pos pins s σ H _ I h) fun ws s2 ⟨zs, H2, I2, rz, q2⟩ => ⟨I2.kIn, ?_⟩) hpl
  rw [hks]
  exact run_fnKS F hr hb (out σ) I2 .nil rz q2
end
section
variable {P : Program} {w : World} {K : PySem.W.Frag} {mg : Str → Option Value} {base : Heap}
/-- a def that keeps a promise and may raise -/
def GoodX (P : Program) (w : World) (K : PySem.W.Frag) (mg : Str → Option Value) (base : Heap) (x : Str) (st : Stmt) (ps : List Str) (k : Nat) (sp : Sp) : Prop := ∃ (f : Addr) (fd : FuncData), FnOk P w K mg base (L2.CX P w) k f fd ps sp ∧ mg x = some (.ref f) ∧ PySem.W.keepIn K (.ref f) = true ∧ Binds K fd ps [] ∧ Fun K x x st f fd
theorem Def.goodX {x : Str} {st : Stmt} {ps : List Str} {k : Nat} {sp : Sp} (D : Def K mg x st ps) (h : ∀ f fd, Fun K x x st f fd → FnOk P w K mg base (L2.CX P w) k f fd ps sp) : GoodX P w K mg base x st ps k sp := by
  obtain ⟨f, fd, F, m, b⟩ := D
  exact ⟨f, fd, h f fd F, m, F.kp, b, F⟩
/-- an own exception class, of a built-in base -/
structure OwnX (K : PySem.W.Frag) (mg : Str → Option Value) (x : Str) (bm : List Value) (newId : String) (C : Addr) : Prop where
  g : mg x = some (.ref C)
  x : PySem.W.excIn K C bm newId = true
  k : PySem.W.keepIn K (.ref C) = true
  b : PySem.W.subIn K (.ref C) (.type "BaseException") = some true
  t : PySem.W.typeIn K (.ref C) = some (.type "type")
  e : PySem.W.exmOne K (.ref C) (.ref C) = some true
abbrev rtBases : List Value := [.type "RuntimeError", .type "Exception", .type "BaseException", .type "object"]
end
end My
/-! C(k = v, ..): a new instance by keywords -/
namespace My
open PySem PySem.W L2 PyProof.Rows
/-- an __init__ that keeps a promise, with the def itself -/
def GoodJ (P : Program) (w : World) (K : PySem.W.Frag) (mg : Str → Option Value) (base : Heap) (C : Addr) (x qual : Str) (st : Stmt) (ps : List Str) (k : Nat) (sp : Sp) : Prop := ∃ (f : Addr) (fd : FuncData), FnOk P w K mg base CX0 k f fd ps sp ∧ Mk K C f ∧ Binds K fd ps [] ∧ Fun K x qual st f fd
theorem DefI.goodJ {P : Program} {w : World} {K : PySem.W.Frag} {mg : Str → Option Value} {base : Heap} {C : Addr} {x qual : Str} {st : Stmt} {ps : List Str} {k : Nat} {sp : Sp} (D : DefI K C x qual st ps) (h : ∀ f fd, Fun K x qual st f fd → FnOk P w K mg base CX0 k f fd ps sp) : GoodJ P w K mg base C x qual st ps k sp := by
  obtain ⟨f, fd, F, m, b⟩ := D
  exact ⟨f, fd, h f fd F, m, b, F⟩
theorem fun_kbn {K : PySem.W.Frag} {x qual : Str} {st : Stmt} {f : Addr} {fd : FuncData} {ps ks : List Str} (F : Fun K x qual st f fd) (n : Nat) (g : List Value → List Value → List Value) (gV : List V → List V → List V)
    (hrel : ∀ {vs : List V} {us : List Value} {zs : List V} {ws : List Value}, Vals vs us → Vals zs ws → Vals (gV vs zs) (g us ws))
    (h : ∀ (kV doc pm : Value) (an : Option Addr) (cdv ct : Value) (us ws : List Value), us.length = n → ws.length = ks.length → bindArgs (PySem.W.fnOf x qual (defArgs st) (defBody st) (defScope st) .none kV doc pm an cdv ct) ⟨us, ks.zip ws⟩ = pure (ps.zip (g us ws))) : KBn K fd ps n ks g gV := by
  obtain ⟨oc, od, kV, doc, pm, an, cdv, ct, osl, rfl, lk, hcd⟩ := F.ex
  exact ⟨fun s us ws X l1 l2 => .of_eq (h kV doc pm an cdv ct us ws l1 l2), hrel⟩
/-- one keyword -/
theorem fun_kbn1 {K : PySem.W.Frag} {x qual : Str} {st : Stmt} {f : Addr} {fd : FuncData} {p q : Str} (F : Fun K x qual st f fd)
    (h : ∀ (kV doc pm : Value) (an : Option Addr) (cdv ct : Value) (u v : Value), bindArgs (PySem.W.fnOf x qual (defArgs st) (defBody st) (defScope st) .none kV doc pm an cdv ct) ⟨[u], [(q, v)]⟩ = pure ([p, q].zip [u, v])) : KBn K fd [p, q] 1 [q] gm1 gm1 :=
  fun_kbn F 1 gm1 gm1 relm1 fun kV doc pm an cdv ct us ws l1 l2 => by
    obtain ⟨u, rfl⟩ := List.length_eq_one_iff.mp l1
    obtain ⟨v, rfl⟩ := List.length_eq_one_iff.mp l2
    exact h kV doc pm an cdv ct u v
end My
/-! own exceptions that bear a value; instances made that may raise -/
namespace My
open PySem PySem.Spec PyProof.Rows L2 PySem.Calls
/-- self.value = value, of an exception that is being made -/
def spExcInit (C : Addr) : Sp := fun vs H Q _ => ∃ a v, vs = [V.ref a, v] ∧ H a = some (exo a C none) ∧ ∀ dx, H dx = none → dx ≠ a → Q .non (upd (upd H dx (exd dx [("value", v)])) a (exo a C (some dx)))
/-- an own exception class whose instances bear a value -/
structure ExcV (P : Program) (w : World) (K : PySem.W.Frag) (mg : Str → Option Value) (base : Heap) (x : Str) (C : Addr) : Prop where
  T : OexC K C
  g : mg x = some (.ref C)
  i : ∃ fI fd, PySem.W.findIn K (.ref C) "__init__" = some (some (.ref fI)) ∧ PySem.W.typeIn K (.ref fI) = some (.type "function") ∧ FnOk P w K mg base CX0 1 fI fd ["self", "value"] (spExcInit C) ∧ L2.Binds K fd ["self", "value"] []
  xf : XfC K C
  hno : PySem.W.findIn K (.ref C) "value" = some none
theorem del_back {H : Hp} {a d : Addr} {o1 o2 o3 o4 : HO} (ha : H a = none) (hd : d ≠ a) : upd (del (upd (upd (upd H a o1) d o2) a o3) a) d o4 = upd H d o4 := by
  funext b
  by_cases h1 : b = d
  · rw [h1, upd_same, upd_same]
  · rw [upd_ne h1, upd_ne h1]
    by_cases h2 : b = a
    · rw [h2, del_same, ha]
    · rw [del_ne h2, upd_ne h2, upd_ne h1, upd_ne h2]
/-- the reading of X(v) -/
theorem mkv {C : Addr} {v : V} {H1 : Hp} {Q : XK} (q : ∀ d, H1 d = none → Q (.ref C) (some d) (upd H1 d (.xd [("value", v)]))) : ([v] : List V).length ≤ 1000 ∧ ∀ a, H1 a = none → spExcInit C (.ref a :: ([v] ++ [])) (upd H1 a (exo a C none))
      (fun u H2 => u = .non ∧ ∃ (d : Addr) (fs : List (Str × V)), H2 a = some (exo a C (some d)) ∧ H2 d = some (exd d fs) ∧ H1 d = none ∧ Q (.ref C) (some d) (upd (del H2 a) d (.xd fs))) (fun _ _ _ => False) := by
  refine ⟨by simp, fun a na => ⟨a, v, rfl, upd_same, fun dx ndx hne => ?_⟩⟩
  rw [upd_ne hne] at ndx
  refine ⟨rfl, dx, _, upd_same, by rw [upd_ne hne, upd_same], ndx, ?_⟩
  rw [del_back na hne]
  exact q dx ndx
section
variable {X : Cx}
/-- X(e), to be raised -/
theorem pmk_val {x : Str} {C : Addr} {p pos : Pos} {e : Expr} {ta : TA} (V : ExcV X.prog X.w X.K X.mg X.base x C) (hr : Room 2 X.A) (hg : Gl X x) (ha : PA X [e] ta) (hdb : (x == ("__debug__" : Str)) = false := by decide)
    (hse : starEach [e] X.env = (false, eval e X.env) :: starEach [] X.env := by rfl) (hpl : (backTo pos (starEach [] X.env)).any (·.1) = false := by rfl) :
    PMk X (.Call (.Name x p) [e] [] pos) (tMkO C (spExcInit C) [] ta) := by
  obtain ⟨fI, fd, i1, i2, F, b⟩ := V.i
  exact pmk_oex (p := p) (pos := pos) (dvs := []) V.T i1 i2 F hr b .nil pass0 hg V.g ha hdb hse hpl
/-- C(k = v, ..), C's __init__ may raise -/
def tMakeKS (C : Addr) (m : Nat) (sp : Sp) (gV : List V → List V → List V) (E : L2.St → XK) (tk : TA) : TE := fun σ H Q => tk σ H fun zs H1 => zs.length = m ∧ ∀ x dx, H1 x = none → H1 dx = none → dx ≠ x →
  sp (gV [.ref x] zs) (upd (upd H1 dx (.own x)) x (.ins C dx [])) (fun v H2 => v = .non ∧ Q (.ref x) H2) (E σ)
variable {CX : CXT} {k n : Nat} {f C : Addr} {fd : FuncData} {ps ks : List Str} {sp : Sp} {E : L2.St → XK} {x : Str} {p pos : Pos} {kws : List Keyword} {tk : TA} {g : List Value → List Value → List Value} {gV : List V → List V → List V}
theorem run_makeKS {pins : List (Addr × Obj)} {σ : L2.St} {H : Hp} {s : Shared} {Q : VK} {ws : List Value} {zs : List V} (M : Mk X.K C f) (F : FnOk X.prog X.w X.K X.mg X.base CX k f fd ps sp) (hr : Room (k + 1) X.A) (hb : KBn X.K fd ps 1 ks g gV) (out : PassesAt CX X σ (E σ))
    (I : Inv X pins σ H s) (rz : Vals zs ws) (l2 : zs.length = ks.length)
    (h : ∀ x dx, H x = none → H dx = none → dx ≠ x → sp (gV [.ref x] zs) (upd (upd H dx (.own x)) x (.ins C dx [])) (fun v H2 => v = .non ∧ Q (.ref x) H2) (E σ)) :
    wpAny (model X.prog X.w) X.A (call (.ref C) [] (ks.zip ws)) (EP X pins σ Q) X.xe s := by
  have told := h (s.heap.objs.size + 1) s.heap.objs.size (I.hok.fresh (Nat.le_succ _)) (I.hok.fresh (Nat.le_refl _)) (Nat.ne_of_lt (Nat.lt_succ_self _))
  have J := Inv.made (C := C) I
  have self1 : Vals [V.ref (s.heap.objs.size + 1)] [Value.ref (s.heap.objs.size + 1)] := .cons rfl .nil
  have hrun := F.run _ X.stack _ _ ⟨[Value.ref (s.heap.objs.size + 1)], ks.zip ws⟩ (g [Value.ref (s.heap.objs.size + 1)] ws) _ _ (E σ) (hr.make C [] (ks.zip ws)) (J.env0.make C [] (ks.zip ws)) (hb.to _ [Value.ref (s.heap.objs.size + 1)] ws J.kIn rfl (rz.length.symm.trans l2)) (hb.rel self1 rz) told
  refine wpAny_call (make_map (f := f) I.kIn M.makes M.init (beq_iff_eq.mp M.fn) (codeAny_mono hrun fun fin s1 got => ?_))
  cases fin with
  | error u => exact out pins _ _ u s1 J got
  | ok fl =>
    cases fl with
    | ret u =>
      obtain ⟨v, H1, J1, rv, ev, q⟩ := J.after got
      subst ev
      exact ⟨rv, ⟨V.ref (s.heap.objs.size + 1), H1, J1, rfl, q⟩⟩
    | next => exact got.elim
    | brk => exact got.elim
    | cont => exact got.elim
theorem pe_makeKS (M : Mk X.K C f) (F : FnOk X.prog X.w X.K X.mg X.base CX k f fd ps sp) (hr : Room (k + 1) X.A) (hg : Gl X x) (hm : X.mg x = some (.ref C)) (hb : KBn X.K fd ps 1 ks g gV) (out : ∀ σ, PassesAt CX X σ (E σ)) (hkw : PK X kws tk)
    (hall : (backToKw pos (keywordEach kws X.env)).all (·.1.isSome) = true := by rfl) (hks : (backToKw pos (keywordEach kws X.env)).filterMap (·.1) = ks := by rfl) (hdb : (x == ("__debug__" : Str)) = false := by decide)
    (hpl : ((backTo pos (starEach [] X.env)).any (·.1) || (backToKw pos (keywordEach kws X.env)).any (·.1.isNone)) = false := by rfl) :
    PE X (.Call (.Name x p) [] kws pos) (tMakeKS C ks.length sp gV E tk) := by
  refine ⟨fun pins s σ H Q I h => ?_⟩
  refine wpAny_Call_Name_kw (ld_glob I hg hm ?_ hdb)
  refine PySem.W.callWith_KW0 (h₀ := X.base) I.ok.mod.kin M.kp hall ?_ hpl
  refine thn (hkw.run pos pins s σ H _ I h) fun ws s2 ⟨zs, H2, I2, rz, l2, q2⟩ => ⟨I2.kIn, ?_⟩
  rw [hks]
  exact run_makeKS M F hr hb (out σ) I2 rz l2 q2
end
/-- an __init__ that keeps a promise and may raise, with the def itself -/
def GoodJX (P : Program) (w : World) (K : PySem.W.Frag) (mg : Str → Option Value) (base : Heap) (C : Addr) (x qual : Str) (st : Stmt) (ps : List Str) (k : Nat) (sp : Sp) : Prop := ∃ (f : Addr) (fd : FuncData), FnOk P w K mg base (L2.CX P w) k f fd ps sp ∧ Mk K C f ∧ Binds K fd ps [] ∧ Fun K x qual st f fd
theorem DefI.goodJX {P : Program} {w : World} {K : PySem.W.Frag} {mg : Str → Option Value} {base : Heap} {C : Addr} {x qual : Str} {st : Stmt} {ps : List Str} {k : Nat} {sp : Sp} (D : DefI K C x qual st ps) (h : ∀ f fd, Fun K x qual st f fd → FnOk P w K mg base (L2.CX P w) k f fd ps sp) : GoodJX P w K mg base C x qual st ps k sp := by
  obtain ⟨f, fd, F, m, b⟩ := D
  exact ⟨f, fd, h f fd F, m, b, F⟩
/-- the facts of an own exception class with a value -/
theorem excV_mk {P : Program} {w : World} {K : PySem.W.Frag} {mg : Str → Option Value} {base : Heap} {x : Str} {C fI : Addr} {st : Stmt} {q : Str} {p1 p2 p3 p4 : Pos} (T : OexC K C) (g : mg x = some (.ref C)) (i1 : PySem.W.findIn K (.ref C) "__init__" = some (some (.ref fI))) (i2 : PySem.W.typeIn K (.ref fI) = some (.type "function"))
    {fd : FuncData} (F : Fun K "__init__" q st fI fd) (b : L2.Binds K fd ["self", "value"] []) (S : FnScope ["self", "value"] ["self", "value"] (defScope st)) (hb : defBody st = [.Assign [.Attribute (.Name "self" p1) "value" p2] (.Name "value" p3) p4])
    (xf : XfC K C) (hno : PySem.W.findIn K (.ref C) "value" = some none) : ExcV P w K mg base x C := by
  refine ⟨T, g, ⟨fI, fd, i1, i2, ?_, b⟩, xf, hno⟩
  refine F.ok S (fun vs H Q E h => ?_) (fun cdv A outer s H vs Q E hr h => ?_)
  · obtain ⟨a, v, rfl, _⟩ := h
    rfl
  · obtain ⟨a, v, rfl, ha, q⟩ := h
    rw [hb]
    have vis : ∀ x ∈ ([Str.ofString "self", Str.ofString "value"] : List Str), Vis (defScope st) x := fun x hx => (S.par x hx).imp id .inl
    refine ⟨_, pss_one (ps_ost (pe_var (i := 0) rfl (vis _ (by simp))) (pe_var (i := 1) rfl (vis _ (by simp)))), ?_⟩
    exact ⟨_, rfl, _, rfl, a, C, rfl, T, hno, .inl ⟨ha, fun dx n1 n2 => q dx n1 n2⟩⟩
end My
/-! list(xs) within a comprehension -/
namespace My
open PySem L2 PyProof.Rows
theorem call_list_ofK {X : Cx} {K : PySem.W.Frag} (h : X.K = K) : CallR X (.type "list") (fun xs H Q => ∃ p ys, xs = [.ref p] ∧ (SqL K H p ys ∨ SqT K H p ys) ∧ ∀ l, H l = none → Q (.ref l) (upd H l (.lst ys))) := h ▸ call_list_of
end My
namespace My
open PySem L2 PyProof.Rows
/-- two keywords behind self, turned -/
def gm21 {α : Type} : List α → List α → List α | [a], [b, c] => [a, c, b] | _, _ => []
theorem gm21_inv {α : Type} {us ws : List α} (h : (gm21 us ws).length = 3) : ∃ a b c, us = [a] ∧ ws = [b, c] := by
  unfold gm21 at h
  split at h
  · exact ⟨_, _, _, rfl, rfl⟩
  · simp at h
theorem relm21 {vs : List V} {us : List Value} {zs : List V} {ws : List Value} (a : Vals vs us) (b : Vals zs ws) : Vals (gm21 vs zs) (gm21 us ws) := by
  cases a with
  | nil => exact .nil
  | cons r a =>
    cases a with
    | nil =>
      cases b with
      | nil => exact .nil
      | cons r1 b =>
        cases b with
        | nil => exact .nil
        | cons r2 b =>
          cases b with
          | nil => exact .cons r (.cons r2 (.cons r1 .nil))
          | cons r3 b => exact .nil
    | cons r2 a =>
      cases b <;> exact .nil
theorem fun_kbn2r {K : PySem.W.Frag} {x qual : Str} {st : Stmt} {f : Addr} {fd : FuncData} {p q r : Str} (F : Fun K x qual st f fd)
    (h : ∀ (kV doc pm : Value) (an : Option Addr) (cdv ct : Value) (u v z : Value), bindArgs (PySem.W.fnOf x qual (defArgs st) (defBody st) (defScope st) .none kV doc pm an cdv ct) ⟨[u], [(r, v), (q, z)]⟩ = pure ([p, q, r].zip [u, z, v])) : KBn K fd [p, q, r] 1 [r, q] gm21 gm21 :=
  fun_kbn F 1 gm21 gm21 relm21 fun kV doc pm an cdv ct us ws l1 l2 => by
    obtain ⟨u, rfl⟩ := List.length_eq_one_iff.mp l1
    obtain ⟨v, z, rfl⟩ : ∃ v z, ws = [v, z] := by
      match ws, l2 with
      | [v, z], _ => exact ⟨v, z, rfl⟩
    exact h kV doc pm an cdv ct u v z
end My
namespace My
open PySem L2 PyProof.Rows
/-! ### contracts of defs that are called where nothing is being shown -/
structure FnG (P : Program) (w : World) (K : PySem.W.Frag) (mg : Str → Option Value) (base : Heap) (k : Nat) (f : Addr) (fd : FuncData) (ps : List Str) (sp : Sp) : Prop where
  len : ∀ vs H Q E, sp vs H Q E → vs.length = ps.length
  run : ∀ (A : Around) (outer : List Env) (s : Shared) (H : Hp) (args : Args) (us : List Value) (vs : List V) (Q : VK) (E : XK), Room k A → A.guards = some [] → Env0 P w K mg base A outer s H → BindsTo s fd args (ps.zip us) → Vals vs us → sp vs H Q E →
    codeAny (model P w) A (.call (.ref f) args) (CR CX0 outer P w H s Q E) s
section
variable {P : Program} {w : World} {K : PySem.W.Frag} {mg : Str → Option Value} {base : Heap}
theorem FnG.ofOk {k : Nat} {f : Addr} {fd : FuncData} {ps : List Str} {sp : Sp} (F : FnOk P w K mg base CX0 k f fd ps sp) : FnG P w K mg base k f fd ps sp :=
  ⟨F.len, fun A outer s H args us vs Q E hr _ he hb hv hs => F.run A outer s H args us vs Q E hr he hb hv hs⟩
theorem FnG.ofBody {x qual : Str} {st : Stmt} {f : Addr} {fd : FuncData} {N ps : List Str} {k : Nat} {sp : Sp} (F : Fun K x qual st f fd) (S : FnScope N ps (defScope st)) (len : ∀ vs H Q E, sp vs H Q E → vs.length = ps.length)
    (body : ∀ (cdv : Value) (A : Around) (outer : List Env) (s : Shared) (H : Hp) (vs : List V) (Q : VK) (E : XK), Room k (A.deeper (envOfC qual (defScope st) s.heap.objs.size f cdv)) → A.guards = some [] → sp vs H Q E →
      ∃ t, PSs (cxOf CX0 P w K mg base N qual (defScope st) f cdv A outer s H E).nox (defBody st) t ∧ t { nx := fun _ H' => Q .non H', rt := Q } (start N vs) H) : FnG P w K mg base (k + 1) f fd ps sp := by
  obtain ⟨oc, od, kV, doc, pm, an, cdv, ct, osl, rfl, lk, hcd⟩ := F.ex
  constructor
  · exact len
  intro A outer s H args us vs Q E room quiet env bound rel want
  have many := len _ _ _ _ want
  have inK : K.In s.heap := env.mod.kin.keeps (fun b o e => (env.bs b o e).1)
  have unlimited : s.heap.NoLimit := env.mod.nolimit.keeps (fun b o e => (env.bs b o e).1)
  have kinds : ∀ y ∈ ps.zip us, (defScope st).names.lookup y.1 = some .local ∨ ((defScope st).names.lookup y.1 = some .cell ∧ ((cellsFrom (s.heap.objs.size + 1) (defScope st).names []).lookup y.1).isSome = true) := by
    rintro ⟨n, v⟩ hy
    exact (S.par n (List.of_mem_zip hy).1).imp id (fun q => ⟨q, PySem.W.cellsFrom_some _ _ _ (.inl q)⟩)
  refine codeAny_call_function room.depth (inK _ _ lk) rfl S.co S.gen rfl (PySem.W.codeRec_of inK hcd) (bound _ _ _ _ (wpAny_newFunctionEnv_cells S.kind kinds ?_))
  rintro env' rfl s1 x
  obtain ⟨t, ht, hq⟩ := body cdv A outer s H vs Q E (room.deeper _) quiet want
  have I := inv_start (CX := CX0) (E := E) S room.hd env many rel x
  refine ⟨unlimited.keeps x.toInCall.keep, codeAny_func (wpAny_mono (ht.nox.run [] s1 (start N vs) H _ I hq) ?_ (fun _ _ h => h))⟩
  intro fl s' hs
  cases fl with
  | ret u =>
    obtain ⟨v, σ', H', J, rv, q⟩ := hs
    exact ⟨v, H', J.os, J.bare, J.base, J.hok, rv, q⟩
  | next =>
    obtain ⟨σ', H', J, q⟩ := hs
    exact ⟨V.non, H', J.os, J.bare, J.base, J.hok, (rfl : RelV V.non Value.none), q⟩
  | brk => exact hs.elim fun _ h => h.elim fun _ h => h.2.elim
  | cont => exact hs.elim fun _ h => h.elim fun _ h => h.2.elim
end
section
variable {X : Cx} {k : Nat} {f : Addr} {fd : FuncData} {ps ks : List Str} {sp : Sp} {ds : List Value} {x : Str} {p pos : Pos} {e : Expr} {es : List Expr} {kws : List Keyword} {t tk : TA} {g : List Value → List Value → List Value} {gV : List V → List V → List V}
theorem run_fnG {pins : List (Addr × Obj)} {σ : L2.St} {H : Hp} {s : Shared} {Q : VK} {us ws : List Value} {vs zs : List V} (F : FnG X.prog X.w X.K X.mg X.base k f fd ps sp) (hr : Room k X.A) (quiet : X.A.guards = some []) (hb : KBinds X.K fd ps ks g gV)
    (I : Inv X pins σ H s) (r : Vals vs us) (rz : Vals zs ws) (h : sp (gV vs zs) H Q E0) : wpAny (model X.prog X.w) X.A (call (.ref f) us (ks.zip ws)) (EP X pins σ Q) X.xe s := by
  have r2 := hb.rel r rz
  have many : (g us ws).length = ps.length := r2.length.symm.trans (F.len _ _ _ _ h)
  refine wpAny_call (codeAny_mono (F.run X.A X.stack s H _ _ _ Q E0 hr quiet I.env0 (hb.to s us ws I.kIn many) r2 h) ?_)
  rintro (e | fl) s' hq
  · exact False.elim hq
  cases fl with
  | ret u => exact I.after hq
  | next | brk | cont => exact hq.elim
/-- arguments by place alone -/
theorem KBinds.none {K : PySem.W.Frag} {fd : FuncData} {ps : List Str} (b : Binds K fd ps []) : KBinds K fd ps [] (fun us _ => us) (fun vs _ => vs) := by
  refine ⟨fun s us ws X hl => ?_, fun r _ => r⟩
  have := b s us X (by rw [List.append_nil]; exact hl)
  rw [List.append_nil] at this
  exact this
theorem pe_callG (F : FnG X.prog X.w X.K X.mg X.base k f fd ps sp) (hr : Room k X.A) (quiet : X.A.guards = some []) (hg : Gl X x) (hm : X.mg x = some (.ref f)) (hk : PySem.W.keepIn X.K (.ref f) = true) (hb : Binds X.K fd ps [])
    (ha : PA X (e :: es) t) (hdb : (x == ("__debug__" : Str)) = false := by decide) (he : starEach (e :: es) X.env = (false, eval e X.env) :: starEach es X.env := by rfl) (hpl : (backTo pos (starEach es X.env)).any (·.1) = false := by rfl) :
    PE X (.Call (.Name x p) (e :: es) [] pos) (tCall sp [] E0 t) := by
  constructor
  intro pins s σ H Q I h
  refine wpAny_Call_Name_kw (ld_glob I hg hm (PySem.W.callWith_K (h₀ := X.base) I.ok.mod.kin hk (thn (ha.run pos pins s σ H _ I h) ?_) he hpl) hdb)
  rintro us s1 ⟨vs, H1, I1, r, q⟩
  refine ⟨I1.kIn, ?_⟩
  have q' : sp vs H1 Q E0 := by
    have q2 : sp (vs ++ []) H1 Q E0 := q
    rwa [List.append_nil] at q2
  exact run_fnG (ws := []) (zs := []) F hr quiet (KBinds.none hb) I1 r .nil q'
end
/-! ### a law whose promise is kept where nothing is being shown -/
theorem quiet_caller : callerA.guards = some [] := rfl
/-- from an abstract heap in which at most the script is told -/
theorem law_from {P : Program} {w : World} {K : PySem.W.Frag} {mg mb : Str → Option Value} {k : Nat} {fa a : Addr} {fd : FuncData} {x : Str} {sp : Sp} {s₁ : Shared} {vs : List Value} {H : Hp}
    (inK : K.In s₁.heap) (main : s₁.heap.Ns mainGlobals mg) (bui : s₁.heap.Ns builtinsNs mb) (same : ∀ x : Str, x ≠ "__name__" → mb x = bootBuiltins x) (lim : s₁.heap.NoLimit) (gens : s₁.gens = #[])
    (at_a : s₁.heap.get? a = some { cls := .type "list", data := .seq vs.toArray }) (room : Room k callerA)
    (F : ∀ base : Heap, K.In base → base.Ns mainGlobals mg → FnG P w K mg base k fa fd [x] sp) (bound : ∀ (s : Shared) (u : Value), BindsTo s fd ⟨[u], []⟩ [(x, u)])
    (only : Only H) (hok : HOk P w H s₁.heap) (isA : ∀ b, H b ≠ none → b = a) (notK : H a ≠ none → K.lookup a = none) (want : sp [.ref a] H (fun v _ => v = .bl true) fun _ _ _ => False) :
    codeAny (model P w) callerA (.call (.ref fa) ⟨[.ref a], []⟩) (fun r s' => r = .ok (.ret (.bool true)) ∧ OldK s₁.heap s'.heap ∧ s'.os = s₁.os ∧ AllBare s'.gens) s₁ := by
  have free : ∀ b, b ≠ a → H b = none := by
    intro b hb
    cases q : H b with
    | none => rfl
    | some u => exact absurd (isA b (fun z => by rw [z] at q; cases q)) hb
  have shown : ∀ {b : Addr} {o : Obj}, s₁.heap.get? b = some o → H b = none → (hidT s₁.heap H).get? b = some o := fun e n => hidT_get e n
  have names : ∀ {b : Addr} {m : Str → Option Value}, s₁.heap.Ns b m → (hidT s₁.heap H).Ns b m := by
    rintro b m ⟨o, es, ep, e, d, r⟩
    refine ⟨o, es, ep, shown e (free b ?_), d, r⟩
    rintro rfl
    rw [at_a] at e
    cases e
    exact nomatch d
  have inHid : K.In (hidT s₁.heap H) := by
    intro b o e
    refine shown (inK b o e) ?_
    cases q : H b with
    | none => rfl
    | some u =>
      have ne : H b ≠ none := fun z => by rw [z] at q; cases q
      have eb := isA b ne
      subst eb
      rw [notK ne] at e
      cases e
  obtain ⟨mc, l1, l2⟩ := lim
  have env : Env0 P w K mg (hidT s₁.heap H) callerA [] s₁ H := {
    frames := rfl
    mod := ⟨inHid, names main, ⟨mb, names bui, same⟩, ⟨mc, names l1, l2⟩⟩
    bs := fun _ _ e => of_hidT e
    bsz := Nat.le_of_eq (hidT_size _ _)
    funs := trivial
    frf := fun b hb => nomatch (show b ∈ ([] : List Addr) from hb)
    hok := hok
    bare := .of_eq gens }
  refine codeAny_mono ((F _ inHid (names main)).run callerA [] s₁ H ⟨[.ref a], []⟩ [.ref a] [.ref a] _ _ room quiet_caller env (bound s₁ (.ref a)) (.cons rfl .nil) want) ?_
  rintro (e | fl) s' h
  · exact False.elim h
  cases fl with
  | next | brk | cont => exact False.elim h
  | ret u =>
    obtain ⟨v, H', os, bare, un, hok', rel, q⟩ := h
    cases (show v = .bl true from q)
    cases (show u = Value.bool true from rel)
    refine ⟨rfl, .of_keep ?_, os, bare⟩
    intro b o e
    rcases only b with z | ⟨ob, xs, z⟩
    · exact un.keep b o e z (fun m => nomatch (show b ∈ ([] : List Addr) from m)) (fun m => nomatch m)
    · have z2 := un.frzs b ob _ z
      have e1 := (hok b _ z).1
      rw [e] at e1
      cases e1
      exact (hok' b _ z2).1
theorem law_callG {P : Program} {w : World} {K : PySem.W.Frag} {mg mb : Str → Option Value} {k : Nat} {fa a : Addr} {fd : FuncData} {x : Str} {sp : Sp} {s₁ : Shared} {vs : List Value} {ns : List Int}
    (inK : K.In s₁.heap) (main : s₁.heap.Ns mainGlobals mg) (bui : s₁.heap.Ns builtinsNs mb) (same : ∀ x : Str, x ≠ "__name__" → mb x = bootBuiltins x) (lim : s₁.heap.NoLimit) (gens : s₁.gens = #[])
    (at_a : s₁.heap.get? a = some { cls := .type "list", data := .seq vs.toArray }) (hints : IntsAre vs ns) (short : ns.length ≤ sizeLine) (room : Room k callerA)
    (F : ∀ base : Heap, K.In base → base.Ns mainGlobals mg → FnG P w K mg base k fa fd [x] sp) (bound : ∀ (s : Shared) (u : Value), BindsTo s fd ⟨[u], []⟩ [(x, u)])
    (want : ∀ H : Hp, Only H → SqL K H a (ns.map V.int) → sp [.ref a] H (fun v _ => v = .bl true) fun _ _ _ => False) :
    codeAny (model P w) callerA (.call (.ref fa) ⟨[.ref a], []⟩) (fun r s' => r = .ok (.ret (.bool true)) ∧ OldK s₁.heap s'.heap ∧ s'.os = s₁.os ∧ AllBare s'.gens) s₁ := by
  have rel := vals_ints hints
  have many := hints.length
  have go := fun (H : Hp) (o : Only H) hok isA notK w => law_from (mb := mb) inK main bui same lim gens at_a room F bound (H := H) o hok isA notK w
  cases hk : K.lookup a with
  | some o =>
    have e := inK a o hk
    rw [at_a] at e
    cases e
    have nobody : Only (fun _ => none) := fun _ => .inl rfl
    refine go _ nobody (fun b u z => nomatch (show (none : Option HO) = some u from z)) (fun b z => absurd rfl z) (fun z => absurd rfl z) (want _ nobody (.inr ⟨_, vs.toArray, _, hk, rfl, rfl, rfl, ?_, ?_⟩))
    · rw [List.size_toArray, many]
      exact short
    · simpa using rel
  | none =>
    have key : ∃ H : Hp, H = fun b => if b = a then some (.frz { cls := .type "list", data := .seq vs.toArray } (.lst (ns.map V.int))) else none := ⟨_, rfl⟩
    obtain ⟨H, eH⟩ := key
    have there : H a = some (.frz { cls := .type "list", data := .seq vs.toArray } (.lst (ns.map V.int))) := by rw [eH]; exact if_pos rfl
    have else_ : ∀ b, b ≠ a → H b = none := fun b hb => by rw [eH]; exact if_neg hb
    have only : Only H := fun b => by
      by_cases hb : b = a
      · rw [hb]; exact .inr ⟨_, _, there⟩
      · exact .inl (else_ b hb)
    refine go H only (fun b u z => ?_) (fun b z => ?_) (fun _ => hk) (want H only (.inl (.inr ⟨_, there⟩)))
    · by_cases hb : b = a
      · subst hb
        rw [there] at z
        cases z
        exact ⟨at_a, by rw [List.length_map]; exact short, vs, _, rel, at_a⟩
      · rw [else_ b hb] at z
        cases z
    · by_cases hb : b = a
      · exact hb
      · exact absurd (else_ b hb) z
theorem walk_ofG {l : PySem.W.OpenLaw} {n k : Nat} {q : Program} {loose : List Str} {XP : (Str → Option Value) → Heap → Prop} {YP : World → Heap → Prop} {d : DefRec} {K : Params → PySem.W.Frag} {sp : World → Sp} {x : Str}
    (hn : l.most = some n) (hn2 : n ≤ sizeLine) (hdf : d.params.defaults = []) (room : Room k callerA) (hY : ∀ (w : World) (h : Heap), YP w h → (K w.params).In h)
    (F : ∀ (w : World) (mg : Str → Option Value) (fa : Addr) (h : Heap), (K w.params).In h → h.Ns mainGlobals mg → mg d.name = some (.ref fa) →
      ∃ fd : FuncData, (∀ (s : Shared) (u : Value), BindsTo s fd ⟨[u], []⟩ [(x, u)]) ∧ ∀ base : Heap, (K w.params).In base → base.Ns mainGlobals mg → FnG l.prog w (K w.params) mg base k fa fd [x] (sp w))
    (want : ∀ (w : World) (H : Hp) (a : Addr) (ns : List Int), ns.length ≤ n → Only H → SqL (K w.params) H a (ns.map V.int) → sp w [.ref a] H (fun v _ => v = .bl true) fun _ _ _ => False) :
    PySem.W.WalkO q loose XP YP l.row.toRowW d [] (fun f vs => PySem.call f vs) := by
  apply Att.attach_call hn hdf
  intro w s₀ s₁ mg mb fa o pm cd doc a vs ns G Y ho hd hcd hmg hobj hints hlen hg
  have inK := hY w _ Y
  obtain ⟨fd, bound, hF⟩ := F w mg fa _ inK G.T.g hmg
  exact law_callG inK G.T.g G.T.b G.T.builtins G.T.nolimit hg hobj hints (Nat.le_trans hlen hn2) room hF bound (fun H hO hS => want w H a ns hlen hO hS)
/-! ### repr of a list -/
section
variable {X : Cx}
theorem call_repr_data (quiet : X.A.guards = some []) (hu : X.A.units + 70 < cLine) : CallR X (.builtin "repr") (fun xs H Q => ∃ a d, xs = [.ref a] ∧ Dp X.K H (.ref a) d ∧ d.showable = true ∧ d.hasDict = false ∧ d.depth ≤ 60 ∧ d.shown.length ≤ sizeLine ∧ Q (.str d.shown) H) := by
  intro pins s σ H xs us Q I r h
  obtain ⟨a, d, rfl, hd, hs, hnd, hdp, hz, q⟩ := h
  obtain ⟨u, rfl, e⟩ := vals1 r
  cases e
  obtain ⟨as, rd⟩ := Dp.reads I d _ _ hd (rfl : RelV (.ref a) (.ref a))
  exact repr_of_reads' rd hs (PyData.noDict_hsm hnd) quiet (by omega) (fun _ _ e => e) (fun h' u tk hk => ⟨.str _, H, I.kept hk, ⟨_, rfl⟩, q⟩) hz
end
end My
/-! repr of whatever reads as data, and of a dict without items -/
namespace My
open PySem PySem.Spec PyProof.Rows L2
def Shows (K : PySem.W.Frag) (H : Hp) (v : V) (d : PyData) : Prop := Dp K H v d ∨ (d = .dict [] ∧ ∃ a, v = .ref a ∧ H a = some (.dK []))
section
variable {X : Cx}
theorem call_repr_any (quiet : X.A.guards = some []) (hu : X.A.units + 70 < cLine) : CallR X (.builtin "repr") (fun xs H Q => ∃ v d, xs = [v] ∧ Shows X.K H v d ∧ d.showable = true ∧ (d.hasDict = true → d = .dict []) ∧ d.depth ≤ 60 ∧ d.shown.length ≤ sizeLine ∧ Q (.str d.shown) H) := by
  intro pins s σ H xs us Q I r h
  obtain ⟨v, d, rfl, hd, hs, hnd, hdp, hz, q⟩ := h
  obtain ⟨u, rfl, e⟩ := vals1 r
  rcases hd with hd | ⟨rfl, a, rfl, ha⟩
  · have hn : d.hasDict = false := by
      cases c : d.hasDict with
      | false => rfl
      | true =>
        have := hnd c
        subst this
        cases hd
    cases v with
    | ref a =>
      cases e
      obtain ⟨as, rd⟩ := Dp.reads I d _ _ hd (rfl : RelV (.ref a) (.ref a))
      exact repr_of_reads' rd hs (PyData.noDict_hsm hn) quiet (by omega) (fun _ _ e => e) (fun h' u tk hk => ⟨.str _, H, I.kept hk, ⟨_, rfl⟩, q⟩) hz
    | non =>
      cases e
      cases hd
      exact PySem.P.repr_of_none ⟨.str _, H, I.tok _, ⟨_, rfl⟩, q⟩
    | bl b =>
      cases e
      cases hd
      have e2 : PyData.shown (.bool b) = (if b = true then Str.ofString "True" else Str.ofString "False") := by cases b <;> rfl
      rw [e2] at q
      exact PySem.P.repr_of_bool ⟨.str _, H, I.tok _, ⟨_, rfl⟩, q⟩
    | int i =>
      obtain ⟨t, rfl⟩ := e
      cases hd
      exact PySem.P.repr_of_int (by simpa [PyData.showable] using hs) ⟨.str _, H, I.tok _, ⟨_, rfl⟩, q⟩
    | str x =>
      obtain ⟨t, rfl⟩ := e
      cases hd
      exact PySem.P.repr_of_str ⟨.str _, H, I.tok _, ⟨_, rfl⟩, q⟩ (by simpa only [PyData.shown] using hz)
    | _ => cases hd
  · cases e
    obtain ⟨_, lo, vs, kv, o, es, ep, h1, h2, h3, _, h5, _⟩ := dk_of I.hok ha
    cases kv
    have hes : es.toList = [] := by
      cases hh : es.toList with
      | nil => rfl
      | cons a b =>
        rw [hh] at h5
        cases h5
    have rd : Reads s.heap (.ref a) (.dict []) (a :: [] ++ []) := .dict h1 h2.1 h3 (by rw [hes]; exact .nil) (by rw [hes]; exact .nil)
    refine repr_of_reads' rd hs (fun _ hm => ?_) quiet (by omega) (fun _ _ e => e) (fun h' u tk hk => ⟨.str _, H, I.kept hk, ⟨_, rfl⟩, q⟩) hz
    have := List.mem_singleton.mp hm
    rw [← this] at lo
    simp at lo
end
end My
/-! repr of data in which {} stands, however deep -/
namespace My
open PySem PySem.Spec PyProof.Rows L2
mutual
/-- data, {} among it -/
inductive Dq (K : PySem.W.Frag) (H : Hp) : V → PyData → Prop
  | non : Dq K H .non .none
  | bl (b : Bool) : Dq K H (.bl b) (.bool b)
  | int (i : Int) : Dq K H (.int i) (.int i)
  | str (x : Str) : Dq K H (.str x) (.str x)
  | lst {p : Addr} {vs : List V} {es : List PyData} (h : SqL K H p vs) (k : DqAll K H vs es) : Dq K H (.ref p) (.list es)
  | tup {p : Addr} {vs : List V} {es : List PyData} (h : SqT K H p vs) (k : DqAll K H vs es) : Dq K H (.ref p) (.tuple es)
  | emp {p : Addr} (h : H p = some (.dK [])) : Dq K H (.ref p) (.dict [])
inductive DqAll (K : PySem.W.Frag) (H : Hp) : List V → List PyData → Prop
  | nil : DqAll K H [] []
  | cons {v : V} {vs : List V} {e : PyData} {es : List PyData} (h : Dq K H v e) (k : DqAll K H vs es) : DqAll K H (v :: vs) (e :: es)
end
section
variable {X : Cx} {pins : List (Addr × Obj)} {σ : L2.St} {H : Hp} {s : Shared}
theorem emp_at (I : Inv X pins σ H s) {p : Addr} (h : H p = some (.dK [])) : (p == sysModules) = false ∧ ∃ o es n, s.heap.get? p = some o ∧ o.cls = .type "dict" ∧ o.data = .dict es n ∧ es.toList = [] := by
  obtain ⟨_, lo, vs, kv, o, es, ep, h1, h2, h3, _, h5, _⟩ := dk_of I.hok h
  cases kv
  refine ⟨lo, o, es, ep, h1, h2.1, h3, ?_⟩
  cases hh : es.toList with
  | nil => rfl
  | cons a b =>
    rw [hh] at h5
    cases h5
mutual
theorem Dq.rd (I : Inv X pins σ H s) : ∀ {v : V} {d : PyData} {u : Value}, Dq X.K H v d → RelV v u → ∃ as, Reads s.heap u d as
  | _, _, _, .non, r => by
    cases r
    exact ⟨_, .none⟩
  | _, _, _, .bl b, r => by
    cases r
    exact ⟨_, .bool b⟩
  | _, _, _, .int i, r => by
    obtain ⟨t, rfl⟩ := r
    exact ⟨_, .int i t⟩
  | _, _, _, .str x, r => by
    obtain ⟨t, rfl⟩ := r
    exact ⟨_, .str x t⟩
  | _, _, _, .lst h k, r => by
    cases r
    obtain ⟨its, rv, ⟨o, n, ho, hc, _, hd⟩, _⟩ := I.list h
    obtain ⟨as, ha⟩ := DqAll.rd I k rv
    exact ⟨_, .list ho hc hd ha⟩
  | _, _, _, .tup h k, r => by
    cases r
    obtain ⟨its, rv, ⟨o, ho, hc, n, hd⟩, _⟩ := I.tuple h
    obtain ⟨as, ha⟩ := DqAll.rd I k rv
    exact ⟨_, .tuple ho hc hd ha⟩
  | _, _, _, .emp h, r => by
    cases r
    obtain ⟨_, o, es, n, h1, h2, h3, h4⟩ := emp_at I h
    exact ⟨_, .dict (as := []) (bs := []) h1 h2 h3 (by rw [h4]; exact .nil) (by rw [h4]; exact .nil)⟩
theorem DqAll.rd (I : Inv X pins σ H s) : ∀ {vs : List V} {ds : List PyData} {us : List Value}, DqAll X.K H vs ds → Vals vs us → ∃ as, ReadsAll s.heap us ds as
  | _, _, _, .nil, r => by
    cases r
    exact ⟨_, .nil⟩
  | _, _, _, .cons h k, r => by
    cases r with
    | cons r1 r2 =>
      obtain ⟨as, q1⟩ := Dq.rd I h r1
      obtain ⟨bs, q2⟩ := DqAll.rd I k r2
      exact ⟨_, .cons q1 q2⟩
end
theorem shown_emp : PyData.shown (.dict []) = dictText [] := by simp only [PyData.shown, PyData.shownKv]
mutual
/-- how it is shown amid a list or a tuple -/
theorem Dq.in_ (I : Inv X pins σ H s) : ∀ {v : V} {d : PyData} {u : Value}, Dq X.K H v d → RelV v u → d.showable = true → d.shown.length ≤ sizeLine → ∃ bs, ReadAtMost s.heap d.depth bs ∧ ReprK X.prog X.w bs s.heap d.depth u d.shown
  | _, _, _, .non, r, _, _ => by
    cases r
    refine ⟨[], fun _ z => (nomatch z), ?_⟩
    simp only [PyData.shown]
    exact ReprK.of_is ReprIs.none _ _ _
  | _, _, _, .bl b, r, _, _ => by
    cases r
    refine ⟨[], fun _ z => (nomatch z), ?_⟩
    simp only [PyData.shown]
    exact ReprK.of_is (ReprIs.bool b) _ _ _
  | _, _, _, .int i, r, sh, _ => by
    obtain ⟨t, rfl⟩ := r
    refine ⟨[], fun _ z => (nomatch z), ?_⟩
    simp only [PyData.shown]
    exact ReprK.of_is (ReprIs.int t (by simpa [PyData.showable] using sh)) _ _ _
  | _, _, _, .str x, r, _, sz => by
    obtain ⟨t, rfl⟩ := r
    refine ⟨[], fun _ z => (nomatch z), ?_⟩
    simp only [PyData.shown] at sz ⊢
    exact ReprK.of_is (ReprIs.str x t sz) _ _ _
  | _, _, _, .lst (p := p) (vs := vs) (es := ds) h k, r, sh, sz => by
    cases r
    obtain ⟨its, rv, ⟨o, n, ho, hc, _, hd⟩, _⟩ := I.list h
    obtain ⟨as, ra⟩ := DqAll.rd I k rv
    simp only [PyData.shown] at sz
    obtain ⟨bs, hb, hk⟩ := DqAll.in_ I k rv (by simpa [PyData.showable] using sh) fun t ht => Nat.le_trans (listText_mem_le ht) sz
    have rd : Reads s.heap (.ref p) (.list ds) (p :: as) := .list ho hc hd ra
    have dp : PyData.depth (.list ds) = PyData.depthAll ds + 1 := by simp only [PyData.depth]
    have nin := not_mem_of_deeper rd (by rw [dp]; exact Nat.lt_succ_self _) hb
    refine ⟨p :: bs, ReadAtMost.cons rd (by rw [dp]; exact Nat.le_succ _) hb, ?_⟩
    rw [dp]
    simp only [PyData.shown]
    cases its with
    | nil =>
      cases ra
      simp only [PyData.shownAll, listText_nil]
      exact ReprK.listEmpty ho hc hd
    | cons y ys => exact ReprK.list ho hc hd nin (by simpa using hk.length_eq) fun i y e => hk.item i y (by simpa using e)
  | _, _, _, .tup (p := p) (vs := vs) (es := ds) h k, r, sh, sz => by
    cases r
    obtain ⟨its, rv, ⟨o, ho, hc, n, hd⟩, _⟩ := I.tuple h
    obtain ⟨as, ra⟩ := DqAll.rd I k rv
    simp only [PyData.shown] at sz
    obtain ⟨bs, hb, hk⟩ := DqAll.in_ I k rv (by simpa [PyData.showable] using sh) fun t ht => Nat.le_trans (tupleText_mem_le ht) sz
    have rd : Reads s.heap (.ref p) (.tuple ds) _ := .tuple ho hc hd ra
    have dp : PyData.depth (.tuple ds) = PyData.depthAll ds + 1 := by simp only [PyData.depth]
    have nin := not_mem_of_deeper rd (by rw [dp]; exact Nat.lt_succ_self _) hb
    refine ⟨p :: bs, ReadAtMost.cons rd (by rw [dp]; exact Nat.le_succ _) hb, ?_⟩
    rw [dp]
    simp only [PyData.shown]
    exact ReprK.tuple ho hc hd nin (by simpa using hk)
  | _, _, _, .emp (p := p) h, r, _, _ => by
    cases r
    obtain ⟨lo, o, es, n, h1, h2, h3, h4⟩ := emp_at I h
    have rd : Reads s.heap (.ref p) (.dict []) _ := .dict (as := []) (bs := []) h1 h2 h3 (by rw [h4]; exact .nil) (by rw [h4]; exact .nil)
    have dp : PyData.depth (.dict []) = 0 + 1 := by simp only [PyData.depth, PyData.depthKv]
    refine ⟨[p], ReadAtMost.cons rd (n := 0) (Nat.zero_le _) (fun _ z => (nomatch z)), ?_⟩
    rw [dp, shown_emp]
    exact ReprK.dict h1 h2 h3 lo (fun z => (nomatch z)) (by rw [h4]; exact .nil)
theorem DqAll.in_ (I : Inv X pins σ H s) : ∀ {vs : List V} {ds : List PyData} {us : List Value}, DqAll X.K H vs ds → Vals vs us → PyData.showableAll ds = true → (∀ t ∈ PyData.shownAll ds, t.length ≤ sizeLine) →
    ∃ bs, ReadAtMost s.heap (PyData.depthAll ds) bs ∧ ReprAllK X.prog X.w bs s.heap (PyData.depthAll ds) us (PyData.shownAll ds)
  | _, _, _, .nil, r, _, _ => by
    cases r
    refine ⟨[], fun _ z => (nomatch z), ?_⟩
    simp only [PyData.shownAll]
    exact .nil
  | _, _, _, .cons (e := d) (es := ds) h k, r, sh, sz => by
    cases r with
    | cons r1 r2 =>
      simp only [PyData.showableAll, Bool.and_eq_true] at sh
      simp only [PyData.shownAll] at sz
      obtain ⟨b1, m1, k1⟩ := Dq.in_ I h r1 sh.1 (sz _ List.mem_cons_self)
      obtain ⟨b2, m2, k2⟩ := DqAll.in_ I k r2 sh.2 fun t ht => sz t (List.mem_cons_of_mem _ ht)
      have le1 : PyData.depth d ≤ PyData.depthAll (d :: ds) := by simp only [PyData.depthAll]; exact Nat.le_max_left _ _
      have le2 : PyData.depthAll ds ≤ PyData.depthAll (d :: ds) := by simp only [PyData.depthAll]; exact Nat.le_max_right _ _
      refine ⟨b1 ++ b2, (m1.mono le1).append (m2.mono le2), ?_⟩
      simp only [PyData.shownAll]
      exact .cons ((k1.more fun b z => List.mem_append_left _ z).level_le le1) (k2.more_le (fun b z => List.mem_append_right _ z) le2)
end
end
/-- repr of such data -/
theorem call_repr_q {X : Cx} (quiet : X.A.guards = some []) (hu : X.A.units + 70 < cLine) : CallR X (.builtin "repr") (fun xs H Q => ∃ v d, xs = [v] ∧ Dq X.K H v d ∧ d.showable = true ∧ d.depth ≤ 60 ∧ d.shown.length ≤ sizeLine ∧ Q (.str d.shown) H) := by
  intro pins s σ H xs us Q I r h
  obtain ⟨v, d, rfl, hd, sh, hdp, sz, q⟩ := h
  obtain ⟨u, rfl, e⟩ := vals1 r
  have fin : ∀ (h' : Heap) (t : Tok) (tk : Nat), (∀ b o, s.heap.get? b = some o → h'.get? b = some o) → EP X pins σ Q (.str d.shown t) { s with heap := h', toks := tk } := fun h' t tk hk => ⟨.str _, H, I.kept hk, ⟨_, rfl⟩, q⟩
  have u1 : X.A.in1.units = X.A.units + 1 := rfl
  cases hd with
  | non =>
    cases e
    exact PySem.P.repr_of_none (fin _ _ _ fun _ _ z => z)
  | bl b =>
    cases e
    have e2 : PyData.shown (.bool b) = (if b = true then Str.ofString "True" else Str.ofString "False") := by cases b <;> rfl
    rw [e2] at fin
    exact PySem.P.repr_of_bool (fin _ _ _ fun _ _ z => z)
  | int i =>
    obtain ⟨t, rfl⟩ := e
    exact PySem.P.repr_of_int (by simpa [PyData.showable] using sh) (fin _ _ _ fun _ _ z => z)
  | str x =>
    obtain ⟨t, rfl⟩ := e
    exact PySem.P.repr_of_str (fin _ _ _ fun _ _ z => z) (by simpa only [PyData.shown] using sz)
  | @lst p vs ds h k =>
    cases e
    obtain ⟨its, rv, ⟨o, n, ho, hc, _, hdt⟩, _⟩ := I.list h
    obtain ⟨as, ra⟩ := DqAll.rd I k rv
    simp only [PyData.shown] at sz
    simp only [PyData.depth] at hdp
    obtain ⟨bs, hb, hk⟩ := DqAll.in_ I k rv (by simpa [PyData.showable] using sh) fun t ht => Nat.le_trans (listText_mem_le ht) sz
    have nin := not_mem_of_deeper (.list ho hc hdt ra) (by simp only [PyData.depth]; exact Nat.lt_succ_self _) hb
    refine call_repr_slot (by omega) ⟨o, ho, hc⟩ F.slot_list_repr.toG ?_
    simp only [PyData.shown] at fin
    cases its with
    | nil =>
      cases ra
      simp only [PyData.shownAll, listText_nil] at fin
      exact call_list_repr_empty ⟨o, ho, hc⟩ ho hdt ⟨_, _, rfl, fin _ _ _ fun _ _ z => z⟩
    | cons y ys => exact call_list_reprK ho hc hdt nin (by simpa using hk.length_eq) (fun i y z => hk.item i y (by simpa using z)) quiet (fun b _ => Clear.nil b) (by rw [u1]; omega) (fun _ _ z => z) (fun h' u tk hk' => ⟨_, _, rfl, fin h' u tk hk'⟩) sz
  | @tup p vs ds h k =>
    cases e
    obtain ⟨its, rv, ⟨o, ho, hc, n, hdt⟩, _⟩ := I.tuple h
    obtain ⟨as, ra⟩ := DqAll.rd I k rv
    simp only [PyData.shown] at sz
    simp only [PyData.depth] at hdp
    obtain ⟨bs, hb, hk⟩ := DqAll.in_ I k rv (by simpa [PyData.showable] using sh) fun t ht => Nat.le_trans (tupleText_mem_le ht) sz
    have nin := not_mem_of_deeper (.tuple ho hc hdt ra) (by simp only [PyData.depth]; exact Nat.lt_succ_self _) hb
    refine call_repr_slot (by omega) ⟨o, ho, hc⟩ F.slot_tuple_repr ?_
    simp only [PyData.shown] at fin
    exact call_tuple_reprK ho hc hdt nin (by simpa using hk) quiet (fun b _ => Clear.nil b) (by rw [u1]; omega) (fun _ _ z => z) (fun h' u tk hk' => ⟨_, _, rfl, fin h' u tk hk'⟩) sz
  | @emp p h =>
    cases e
    obtain ⟨lo, o, es, n, h1, h2, h3, h4⟩ := emp_at I h
    refine repr_of_reads' (.dict (as := []) (bs := []) h1 h2 h3 (by rw [h4]; exact .nil) (by rw [h4]; exact .nil)) sh (fun _ hm => ?_) quiet (by omega) (fun _ _ z => z) (fun h' u tk hk => fin h' u tk hk) sz
    have := List.mem_singleton.mp hm
    rw [← this] at lo
    simp at lo
end My
/-! C(k = v, l = w), both behind self, in their sequence -/
namespace My
open PySem L2 PyProof.Rows
def gm12 {α : Type} (us ws : List α) : List α := if us.length = 1 ∧ ws.length = 2 then us ++ ws else []
theorem gm12_is {α : Type} (u v z : α) : gm12 [u] [v, z] = [u, v, z] := rfl
theorem relm12 {vs : List V} {us : List Value} {zs : List V} {ws : List Value} (a : Vals vs us) (b : Vals zs ws) : Vals (gm12 vs zs) (gm12 us ws) := by
  unfold gm12
  rw [a.length, b.length]
  split
  · exact Vals.append a b
  · exact .nil
theorem fun_kbn2 {K : PySem.W.Frag} {x qual : Str} {st : Stmt} {f : Addr} {fd : FuncData} {p q r : Str} (F : Fun K x qual st f fd)
    (h : ∀ (kV doc pm : Value) (an : Option Addr) (cdv ct : Value) (u v z : Value), bindArgs (PySem.W.fnOf x qual (defArgs st) (defBody st) (defScope st) .none kV doc pm an cdv ct) ⟨[u], [(q, v), (r, z)]⟩ = pure ([p, q, r].zip [u, v, z])) : KBn K fd [p, q, r] 1 [q, r] gm12 gm12 :=
  fun_kbn F 1 gm12 gm12 relm12 fun kV doc pm an cdv ct us ws l1 l2 => by
    obtain ⟨u, rfl⟩ := List.length_eq_one_iff.mp l1
    match ws, l2 with
    | [v, z], _ => exact h kV doc pm an cdv ct u v z
/-- repr(v) in an except suite -/
theorem call_repr_qS {X : Cx} {a : Addr} {pn : List (Addr × Obj)} (quiet : X.A.guards = some []) (hu : X.A.units + 70 < cLine) : CallR (X.suite a pn) (.builtin "repr") (fun xs H Q => ∃ v d, xs = [v] ∧ Dq X.K H v d ∧ d.showable = true ∧ d.depth ≤ 60 ∧ d.shown.length ≤ sizeLine ∧ Q (.str d.shown) H) :=
  call_repr_q (X := X.suite a pn) quiet hu
end My
namespace My
open PySem L2 PyProof.Rows
/-! ### the rules within a comprehension -/
section
variable {X : Cx} {K : PySem.W.Frag}
theorem ix_listK (h : X.K = K) : IxR X (rIxL K) := h ▸ ix_list
theorem ix_tupK (h : X.K = K) : IxR X (rIxT K) := h ▸ ix_tup
theorem pi_listK {tg l : Expr} {tl : TE} (h : X.K = K) (hl : PE X l tl) : PI X tg l (iList K tl) := h ▸ pi_list hl
theorem call_len_seqK (h : X.K = K) : CallR X (.builtin "len") (fun xs H Q => ∃ p ys, xs = [V.ref p] ∧ (SqL K H p ys ∨ SqT K H p ys) ∧ Q (.int (ys.length : Int)) H) := h ▸ call_len_seq
theorem op_in_seqK (h : X.K = K) : OpR X (compareOp .In) (rIn K false) := h ▸ op_in_seq
theorem op_notIn_seqK (h : X.K = K) : OpR X (compareOp .NotIn) (rIn K true) := h ▸ op_notIn_seq
end
theorem mt_indexK {X : Cx} {K : PySem.W.Frag} (h : X.K = K) : MtR X "list.index" (rIndex K) := h ▸ mt_index
theorem pe_bmK {X : Cx} {K : PySem.W.Frag} {o e : Expr} {es : List Expr} {to : TE} {t : TA} {name : Str} {apos cpos : Pos} {T id : String} {r : V → List V → Hp → VK → Prop} (h : X.K = K) (pa : PlainAttrs T) (slot : Slot T name id) (hty : typeOf (.builtin id) = pure (.type "method_descriptor")) (hm : MtR X id r) (ho : PE X o to) (ha : PA X (e :: es) t)
    (hbase : attributeBase o name X.env (eval o X.env) = eval o X.env := by rfl)
    (hfew : ((backTo cpos (starEach (e :: es) X.env)).all (fun x => !x.1) && (backToKw cpos (keywordEach [] X.env)).all (fun x => x.1.isSome)
      && decide ((e :: es).length + ([] : List Keyword).length + (if ([] : List Keyword).isEmpty then 0 else 1) < 30)) = true := by rfl)
    (hline : (apos.endLine == cpos.line) = true := by rfl) (hs : starEach (e :: es) X.env = (false, eval e X.env) :: starEach es X.env := by rfl) (hplain : (backTo cpos (starEach es X.env)).any (·.1) = false := by rfl) :
    PE X (.Call (.Attribute o name apos) (e :: es) [] cpos) (tBM K T r to t) := h ▸ pe_bm pa slot hty hm ho ha hbase hfew hline hs hplain
/-- a field, read within a comprehension -/
theorem pe_fldK {X : Cx} {K : PySem.W.Frag} {e : Expr} {ta : TE} {f : Str} {pos : Pos} (h : X.K = K) (he : PE X e ta) (hb : attributeBase e f X.env (eval e X.env) = eval e X.env := by rfl) : PE X (.Attribute e f pos) (tFld K ta f) := h ▸ pe_fld he hb
theorem pe_fldA {X : Cx} {e : Expr} {ta : TE} {f : Str} {pos : Pos} (he : PE X e ta) (hb : attributeBase e f X.env (eval e X.env) = eval e X.env := by rfl) : PE X (.Attribute e f pos) (tFld X.K ta f) := pe_fld he hb
/-! ### defs that may show a value (repr) -/
theorem hu70 {k : Nat} {A : Around} (h : Room k A) : A.units + 70 < cLine := by
  have := h.un
  omega
theorem u65 {k : Nat} {A : Around} (h : Room k A) : A.units + 65 < cLine := by
  have := h.un
  omega
section
variable {P : Program} {w : World} {K : PySem.W.Frag} {mg : Str → Option Value} {base : Heap}
def GoodG (P : Program) (w : World) (K : PySem.W.Frag) (mg : Str → Option Value) (base : Heap) (x : Str) (st : Stmt) (ps : List Str) (k : Nat) (sp : Sp) : Prop := ∃ (f : Addr) (fd : FuncData), FnG P w K mg base k f fd ps sp ∧ mg x = some (.ref f) ∧ PySem.W.keepIn K (.ref f) = true ∧ Binds K fd ps [] ∧ Fun K x x st f fd
theorem Def.goodG {x : Str} {st : Stmt} {ps : List Str} {k : Nat} {sp : Sp} (D : Def K mg x st ps) (h : ∀ f fd, Fun K x x st f fd → FnG P w K mg base k f fd ps sp) : GoodG P w K mg base x st ps k sp := by
  obtain ⟨f, fd, F, m, b⟩ := D
  exact ⟨f, fd, h f fd F, m, F.kp, b, F⟩
end
end My
/-! own exceptions that bear a value by any name (self.line = line) -/
namespace My
open PySem PySem.Spec PyProof.Rows L2 PySem.Calls
/-- self.fld = fld, of an exception that is being made -/
def spExcF (fld : Str) (C : Addr) : Sp := fun vs H Q _ => ∃ a v, vs = [V.ref a, v] ∧ H a = some (exo a C none) ∧ ∀ dx, H dx = none → dx ≠ a → Q .non (upd (upd H dx (exd dx [(fld, v)])) a (exo a C (some dx)))
/-- an own exception class whose instances bear a value -/
structure ExcF (P : Program) (w : World) (K : PySem.W.Frag) (mg : Str → Option Value) (base : Heap) (fld x : Str) (C : Addr) : Prop where
  T : OexC K C
  g : mg x = some (.ref C)
  i : ∃ fI fd, PySem.W.findIn K (.ref C) "__init__" = some (some (.ref fI)) ∧ PySem.W.typeIn K (.ref fI) = some (.type "function") ∧ FnOk P w K mg base CX0 1 fI fd ["self", fld] (spExcF fld C) ∧ L2.Binds K fd ["self", fld] []
  xf : XfC K C
  hno : PySem.W.findIn K (.ref C) fld = some none
/-- the reading of X(v) -/
theorem mkf {fld : Str} {C : Addr} {v : V} {H1 : Hp} {Q : XK} (q : ∀ d, H1 d = none → Q (.ref C) (some d) (upd H1 d (.xd [(fld, v)]))) : ([v] : List V).length ≤ 1000 ∧ ∀ a, H1 a = none → spExcF fld C (.ref a :: ([v] ++ [])) (upd H1 a (exo a C none))
      (fun u H2 => u = .non ∧ ∃ (d : Addr) (fs : List (Str × V)), H2 a = some (exo a C (some d)) ∧ H2 d = some (exd d fs) ∧ H1 d = none ∧ Q (.ref C) (some d) (upd (del H2 a) d (.xd fs))) (fun _ _ _ => False) := by
  refine ⟨by simp, fun a na => ⟨a, v, rfl, upd_same, fun dx ndx hne => ?_⟩⟩
  rw [upd_ne hne] at ndx
  refine ⟨rfl, dx, _, upd_same, by rw [upd_ne hne, upd_same], ndx, ?_⟩
  rw [del_back na hne]
  exact q dx ndx
section
variable {X : Cx}
/-- X(e), to be raised -/
theorem pmk_fld {fld x : Str} {C : Addr} {p pos : Pos} {e : Expr} {ta : TA} (V : ExcF X.prog X.w X.K X.mg X.base fld x C) (hr : Room 2 X.A) (hg : Gl X x) (ha : PA X [e] ta) (hdb : (x == ("__debug__" : Str)) = false := by decide)
    (hse : starEach [e] X.env = (false, eval e X.env) :: starEach [] X.env := by rfl) (hpl : (backTo pos (starEach [] X.env)).any (·.1) = false := by rfl) :
    PMk X (.Call (.Name x p) [e] [] pos) (tMkO C (spExcF fld C) [] ta) := by
  obtain ⟨fI, fd, i1, i2, F, b⟩ := V.i
  exact pmk_oex (p := p) (pos := pos) (dvs := []) V.T i1 i2 F hr b .nil pass0 hg V.g ha hdb hse hpl
end
theorem excF_mk {fld : Str} {P : Program} {w : World} {K : PySem.W.Frag} {mg : Str → Option Value} {base : Heap} {x : Str} {C fI : Addr} {st : Stmt} {q : Str} {p1 p2 p3 p4 : Pos} (T : OexC K C) (g : mg x = some (.ref C)) (i1 : PySem.W.findIn K (.ref C) "__init__" = some (some (.ref fI))) (i2 : PySem.W.typeIn K (.ref fI) = some (.type "function"))
    {fd : FuncData} (F : Fun K "__init__" q st fI fd) (b : L2.Binds K fd ["self", fld] []) (S : FnScope ["self", fld] ["self", fld] (defScope st)) (hb : defBody st = [.Assign [.Attribute (.Name "self" p1) fld p2] (.Name fld p3) p4])
    (xf : XfC K C) (hno : PySem.W.findIn K (.ref C) fld = some none) (hd1 : (fld == ("__debug__" : Str)) = false := by decide) (hd2 : (fld == ("__classdict__" : Str)) = false := by decide) : ExcF P w K mg base fld x C := by
  refine ⟨T, g, ⟨fI, fd, i1, i2, ?_, b⟩, xf, hno⟩
  refine F.ok S (fun vs H Q E h => ?_) (fun cdv A outer s H vs Q E hr h => ?_)
  · obtain ⟨a, v, rfl, _⟩ := h
    rfl
  · obtain ⟨a, v, rfl, ha, q⟩ := h
    rw [hb]
    have vis : ∀ x ∈ ([Str.ofString "self", fld] : List Str), Vis (defScope st) x := fun x hx => (S.par x hx).imp id .inl
    refine ⟨_, pss_one (ps_ost (pe_var (i := 0) rfl (vis _ (by simp))) (pe_var (i := 1) rfl (vis _ (by simp)) (hd := hd1) (hcd := hd2))), ?_⟩
    exact ⟨_, rfl, _, rfl, a, C, rfl, T, hno, .inl ⟨ha, fun dx n1 n2 => q dx n1 n2⟩⟩
end My
/-! isinstance(e, C) of a caught error, whatever its dict, where the answer is yes -/
namespace My
open PySem PySem.Spec PyProof.Rows L2 PySem.Calls PySem.W
def rIsYes (K : PySem.W.Frag) (cls : Value) (a : Addr) : List V → Hp → VK → Prop := fun xs H Q => ∃ C : Addr, xs = [.ref a, .ref C] ∧ PySem.W.isIn K cls C = true ∧ Q (.bl true) H
theorem call_isYes {X : Cx} {a : Addr} {cls : Value} {d : Option Addr} {oe : Obj} {pn : List (Addr × Obj)} (hz : Zc cls d oe) : CallR (X.suite a ((a, oe) :: pn)) (.builtin "isinstance") (rIsYes X.K cls a) := by
  intro pins s σ H xs us Q I r h
  obtain ⟨C, rfl, e, q⟩ := h
  obtain ⟨u1, u2, rfl, r1, r2⟩ := vals2 r
  have e1 : u1 = .ref a := r1
  have e2 : u2 = .ref C := r2
  subst e1 e2
  have at_ : s.heap.get? a = some oe := (I.pin (a, oe) (List.mem_append.mpr (.inl List.mem_cons_self))).1
  have ty : ∀ M, PySem.W.Looks M s.heap (typeOf (.ref a)) cls := fun M => by
    have := hz.1
    rw [← this]
    exact (PySem.W.Looks.ld at_).andThen .now
  exact PySem.W.isi_call I.kIn ty e (fun z => nomatch z) ⟨.bl true, H, I, rfl, q⟩
end My
/-! a module's constant that is a text -/
namespace My
open PySem PySem.Spec PyProof.Rows L2 PySem.Calls
section
variable {X : Cx}
theorem pe_globT {x : Str} {n : Str} {pos : Pos} (h : ∃ t, X.mg x = some (.str n t)) (hg : Gl X x := by rfl) (hd : (x == ("__debug__" : Str)) = false := by decide) : PE X (.Name x pos) (tC (.str n)) := by
  obtain ⟨t, e⟩ := h
  exact pe_glob (v := .str n) hg e ⟨t, rfl⟩ hd
end
/-- the base of an own exception, by its name -/
structure PErr (K : PySem.W.Frag) (mg : Str → Option Value) (CE CP : Addr) : Prop where
  g : mg "PieceError" = some (.ref CP)
  i : PySem.W.isIn K (.ref CE) CP = true
end My
/-! xs == [] of a list of whatever items -/
namespace My
open PySem L2 PyProof.Rows
def rEqN (K : PySem.W.Frag) : R2 := fun x y H Q => ∃ a b xs, x = .ref a ∧ y = .ref b ∧ SqL K H a xs ∧ SqL K H b [] ∧ (xs = [] → Q (.bl true) H) ∧ (xs ≠ [] → Q (.bl false) H)
theorem op_eqN {X : Cx} (hu : X.A.units + 64 < cLine) : OpR X (compareOp .Eq) (rEqN X.K) := by
  intro pins s σ H x y v u Q I rx ry h
  obtain ⟨a, b, xs, rfl, rfl, ha, hb, q1, q2⟩ := h
  cases xs with
  | nil => exact op_eqD hu _ _ _ _ _ _ _ _ _ I rx ry ⟨_, _, .lst ha .nil, .lst hb .nil, by decide, by decide, q1 rfl⟩
  | cons z zs =>
    cases (show v = Value.ref a from rx)
    cases (show u = Value.ref b from ry)
    obtain ⟨us, r1, p1, _⟩ := I.list ha
    obtain ⟨ws, r2, p2, _⟩ := I.list hb
    refine SeqAt.eq_list_lengthsAt p1.isList p2.isList ?_ (by omega) ⟨.bl false, H, I, rfl, q2 (fun z => nomatch z)⟩
    cases r2
    cases r1
    simp
end My
/-! xs != [] of a list of whatever items -/
namespace My
open PySem L2 PyProof.Rows
def rNeN (K : PySem.W.Frag) : R2 := fun x y H Q => ∃ a b xs, x = .ref a ∧ y = .ref b ∧ SqL K H a xs ∧ SqL K H b [] ∧ (xs = [] → Q (.bl false) H) ∧ (xs ≠ [] → Q (.bl true) H)
theorem op_neN {X : Cx} (hu : X.A.units + 64 < cLine) : OpR X (compareOp .NotEq) (rNeN X.K) := by
  intro pins s σ H x y v u Q I rx ry h
  obtain ⟨a, b, xs, rfl, rfl, ha, hb, q1, q2⟩ := h
  cases xs with
  | nil => exact op_neD hu _ _ _ _ _ _ _ _ _ I rx ry ⟨_, _, .lst ha .nil, .lst hb .nil, by decide, by decide, q1 rfl⟩
  | cons z zs =>
    cases (show v = Value.ref a from rx)
    cases (show u = Value.ref b from ry)
    obtain ⟨us, r1, p1, _⟩ := I.list ha
    obtain ⟨ws, r2, p2, _⟩ := I.list hb
    refine SeqAt.RcNeAt.lists_lengths p1.isList p2.isList ?_ (by omega) _ _ _ _ ⟨.bl true, H, I, rfl, q2 (fun z => nomatch z)⟩
    cases r2
    cases r1
    simp
end My
/-! *xs, y = a list: the starred target ahead -/
namespace My
open PySem PySem.Spec PySem.Calls PyProof.Rows L2
theorem star_items {prog : Program} {w : World} {A : Around} {E : Value → Shared → Prop} {s : Shared} {l : Addr} {items : Array Value} {n : Nat} {Q : List Value → Shared → Prop} (hl : s.heap.IsList l items) (hh : A.handled = none) (h0 : 0 < n) (hn : n ≤ items.size + 1) (hz : items.size ≤ sizeLine)
    (hQ : ∀ h₂ tk, Heap.ExtBut s.heap.objs.size s.heap h₂ → Q (.ref h₂.objs.size :: items.toList.drop (items.size + 1 - n)) { s with heap := h₂.push { cls := .type "list", data := .seq (items.toList.take (items.size + 1 - n)).toArray }, toks := tk }) :
    wpAny (model prog w) A (unpackItems (.ref l) n (some 0)) Q E s := by
  have hlt : l ≠ s.heap.objs.size := by obtain ⟨o, ho, _⟩ := hl; exact Nat.ne_of_lt (Heap.lt_size ho)
  unfold unpackItems
  refine wpAny_bind ?_
  unfold notIterableAtAll
  refine wpAny_bind (wpAny_specialOf hl.typeIs slot_list_iter.lookup ?_)
  refine wpAny_pure ?_
  simp only [Bool.false_eq_true, if_false]
  refine wpAny_bind (wpAny_holding (wpAny_pyIter_list hl ?_))
  refine wpAny_bind (wpAny_holding (PySem.W.kun_draw hlt 0 0 _ _ ⟨_, Heap.get?_push_size _ rfl, rfl, rfl⟩ (hl.push _) (by omega) fun h₁ hit₁ hs₁ => ?_))
  have hl₁ : h₁.IsList l items := (hl.push _).extBut hs₁.extBut hlt
  have hit₁' := hit₁
  obtain ⟨oi, hoi, _⟩ := hit₁'
  have hl₁' := hl₁
  obtain ⟨ol, hol, _⟩ := hl₁'
  rw [List.drop_zero, List.take_zero]
  rw [if_neg (show ¬ (([] : List Value).length < 0) by simp)]
  refine wpAny_bind (wpAny_holding (PySem.W.kun_collect (s := { s with heap := h₁ }) (T := "list_iterator") (.inr (.inr (.inl rfl))) (Walks.list (A := A.in1) hh s.heap.objs.size l hlt items) (fun j u st => st.1.typeIs) (k := 0) (by omega) ⟨hit₁, hl₁⟩ (Heap.lt_size hoi) (Heap.lt_size hol) (fun h₂ tk hk => ?_) hz))
  have hrl : (items.toList.drop 0).length = items.size := by rw [List.drop_zero, Array.length_toList]
  have hmid : (items.toList.drop 0).length - (n - 1 - 0) = items.size + 1 - n := by rw [hrl]; omega
  show wpAny _ _ (if (items.toList.drop 0).length < n - 1 - 0 then _ else _) _ _ _
  rw [if_neg (by rw [hrl]; omega)]
  show wpAny _ _ (newList ((items.toList.drop 0).take ((items.toList.drop 0).length - (n - 1 - 0))) >>= fun d => pure ([] ++ [d] ++ (items.toList.drop 0).drop ((items.toList.drop 0).length - (n - 1 - 0)))) _ _ _
  rw [hmid, List.drop_zero]
  have he : Heap.ExtBut s.heap.objs.size s.heap h₂ := fun b o hb e => hk b o hb (hs₁.extBut b o hb (Heap.get?_push_of_some _ e))
  refine wpAny_bind (wpAny_newList (wpAny_pure ?_) (by rw [List.length_take, Array.length_toList]; omega))
  exact hQ h₂ tk he
section
variable {X : Cx} {pos : Pos}
/-- *xs, y, .. = a list: the first target takes what is left -/
def gStL (K : PySem.W.Frag) (n : Nat) (t : TGs) : TG := fun v σ H Q => ∃ a xs, v = .ref a ∧ SqL K H a xs ∧ n ≤ xs.length + 1 ∧ ∀ p, H p = none → t (.ref p :: xs.drop (xs.length + 1 - n)) σ (upd H p (.lst (xs.take (xs.length + 1 - n)))) Q
theorem pg_starL {es : List Expr} {k : Nat} {t : TGs} {n : Nat} (hc : X.calm = true) (h : PGs X es t)
    (h0 : 0 < n) (hn : (assignEach es X.env).length = n := by rfl) (hst : (assignEach es X.env).findIdx? (·.1) = some 0 := by rfl) : PG X (.Tuple es k pos) (gStL X.K n t) := by
  refine ⟨fun pins s σ H v u Q I r hw => ?_⟩
  obtain ⟨a, xs, e1, hq, hl, hw⟩ := hw
  subst e1
  cases r
  obtain ⟨its, rv, pl, hz⟩ := I.list hq
  have hl' : s.heap.IsList a its.toArray := by
    obtain ⟨o, m, e, c, d, q⟩ := pl
    exact ⟨o, e, c, m, q⟩
  have el : xs.length = its.length := rv.length
  rw [PyProof.Rows.assign_Tuple]
  refine wpAny_bind (wpAny_standAt ?_)
  unfold unpack
  rw [hn, hst]
  refine wpAny_bind (wpAny_holding (star_items hl' (I.ok.hd hc) h0 (by rw [List.size_toArray]; omega) (by rw [List.size_toArray, ← el]; exact hz) fun h₂ tk he => ?_))
  have I1 : Inv X pins σ H { s with heap := h₂, toks := tk } := I.kept (t' := tk) fun b o e => he b o (Nat.ne_of_lt (Heap.lt_size e)) e
  have hf : H h₂.objs.size = none := I1.hok.fresh (Nat.le_refl _)
  rw [show its.toArray.size = xs.length from (by rw [el]; exact List.size_toArray), show its.toArray.toList = its from rfl]
  have rt : Vals (xs.take (xs.length + 1 - n)) (its.take (xs.length + 1 - n)) := rv.take _
  have I2 : Inv X pins σ (upd H h₂.objs.size (.lst (xs.take (xs.length + 1 - n)))) { s with heap := h₂.push { cls := .type "list", data := .seq (its.take (xs.length + 1 - n)).toArray }, toks := tk } :=
    I1.laid (t' := tk) (fun b u e => Heap.get?_push_of_some _ e) (Nat.le_refl _) ⟨by rw [List.length_take]; exact Nat.le_trans (Nat.min_le_right _ _) hz, _, 0, rt, Heap.get?_push_size _ rfl⟩
  have rr : RelV (.ref h₂.objs.size) (Value.ref h₂.objs.size) := rfl
  exact h.run pins _ σ _ _ _ Q I2 (.cons rr (rv.drop _)) (hw _ hf)
/-- the starred target itself -/
theorem pgs_star {tgt : Expr} {rest : List Expr} {t : TG} {u : TGs} {p : Pos} (ht : PG X tgt t) (hr : PGs X rest u)
    (he : (assignEach (.Starred tgt p :: rest) X.env).map (·.2) = assign tgt X.env :: (assignEach rest X.env).map (·.2) := by rfl) : PGs X (.Starred tgt p :: rest) (gCons t u) :=
  ⟨fun pins s σ H vs us Q I r q => by
    obtain ⟨v, ws, rfl, q⟩ := q
    cases r with
    | cons ra rb =>
      rw [he]
      exact assignInOrder_cons (thn (ht.run pins s σ H _ _ _ I ra q) fun _ _ ⟨_, _, J, q1⟩ => hr.run pins _ _ _ _ _ Q J rb q1)⟩
end
end My
/-! Q7: numbers as texts: read back, told again, their bounds; the program's count and the law's number -/
namespace My
open PySem PySem.NumText L2 TL
/-- signs of a number without needless zeros -/
structure CanN (l : List Nat) : Prop where
  dig : AllDigits l
  ne : l ≠ []
  hd : l.head? ≠ some 48 ∨ l = [48]
theorem num_back {l : List Nat} (h : CanN l) : numL (digitsVal l) = l := by
  obtain ⟨h1, h2, h3⟩ := h
  have hl : l.length = (l.length - 1) + 1 := by
    cases l with
    | nil => exact absurd rfl h2
    | cons c r => rfl
  unfold numL
  rw [toDigits_digitsVal (l.length - 1) l hl h1 ?_]
  · rw [List.map_map]
    have : ∀ c ∈ l, (Char.toNat ∘ Char.ofNat) c = id c := fun c hc => by
      obtain ⟨a, b⟩ := h1 c hc
      have : ∀ d : Fin 10, (Char.ofNat (48 + d.val)).toNat = 48 + d.val := by decide
      have e := this ⟨c - 48, by omega⟩
      have e2 : 48 + (c - 48) = c := by omega
      simp only [e2] at e
      exact e
    rw [List.map_congr_left this, List.map_id]
  · cases l with
    | nil => exact absurd rfl h2
    | cons c r =>
      rcases h3 with h3 | h3
      · refine .inr ⟨c, r, rfl, ?_⟩
        have := h1 c List.mem_cons_self
        have : c ≠ 48 := fun z => h3 (by rw [z]; rfl)
        omega
      · cases h3
        exact .inl rfl
theorem dig_foldl : ∀ (r : List Nat) (a : Nat), AllDigits r → a * 10 ^ r.length ≤ r.foldl (fun acc c => acc * 10 + (c - 48)) a ∧ r.foldl (fun acc c => acc * 10 + (c - 48)) a < (a + 1) * 10 ^ r.length
  | [], a, _ => by simp
  | c :: r, a, h => by
    obtain ⟨h1, h2⟩ := dig_foldl r (a * 10 + (c - 48)) h.tail
    have hc := h.head
    have e : 10 ^ (c :: r).length = 10 * 10 ^ r.length := by rw [List.length_cons, Nat.pow_succ, Nat.mul_comm]
    show a * 10 ^ (c :: r).length ≤ r.foldl _ (a * 10 + (c - 48)) ∧ r.foldl _ (a * 10 + (c - 48)) < (a + 1) * 10 ^ (c :: r).length
    rw [e]
    constructor
    · refine Nat.le_trans ?_ h1
      rw [← Nat.mul_assoc]
      exact Nat.mul_le_mul_right _ (by omega)
    · refine Nat.lt_of_lt_of_le h2 ?_
      rw [← Nat.mul_assoc]
      exact Nat.mul_le_mul_right _ (by omega)
theorem dig_high {l : List Nat} (h : AllDigits l) : digitsVal l < 10 ^ l.length := by
  have := (dig_foldl l 0 h).2
  rwa [Nat.zero_add, Nat.one_mul] at this
theorem dig_low {c : Nat} {r : List Nat} (h : AllDigits (c :: r)) (hc : c ≠ 48) : 10 ^ r.length ≤ digitsVal (c :: r) := by
  have := (dig_foldl r (0 * 10 + (c - 48)) h.tail).1
  have h2 := h.head
  refine Nat.le_trans ?_ this
  have : 1 * 10 ^ r.length ≤ (0 * 10 + (c - 48)) * 10 ^ r.length := Nat.mul_le_mul_right _ (by omega)
  rwa [Nat.one_mul] at this
def digB (l : List Nat) : Bool := l.all fun c => decide (48 ≤ c) && decide (c ≤ 57)
theorem digB_iff {l : List Nat} : digB l = true ↔ AllDigits l := by
  unfold digB AllDigits
  rw [List.all_eq_true]
  exact ⟨fun h c hc => by have := h c hc; rw [Bool.and_eq_true] at this; exact ⟨of_decide_eq_true this.1, of_decide_eq_true this.2⟩, fun h c hc => by rw [Bool.and_eq_true]; exact ⟨decide_eq_true (h c hc).1, decide_eq_true (h c hc).2⟩⟩
/-- the program's count: at most four signs -/
def cntN (l : List Nat) : Option Nat := if 1 ≤ l.length ∧ l.length ≤ 4 ∧ ¬ (l.head? = some 48 ∧ l ≠ [48]) ∧ digB l = true then some (digitsVal l) else none
/-- the law's number between two bounds -/
def numN (l : List Nat) (lo hi : Nat) : Option Nat := if l ≠ [] ∧ digB l = true ∧ l.length ≤ 9 ∧ l.head? ≠ some 48 ∧ lo ≤ digitsVal l ∧ digitsVal l ≤ hi then some (digitsVal l) else none
theorem cnt_num {l : List Nat} {lo hi : Nat} (h1 : 1 ≤ lo) (h2 : hi < 10000) : ((cntN l).bind fun n => if lo ≤ n ∧ n ≤ hi then some n else none) = numN l lo hi := by
  unfold cntN numN
  by_cases hd : digB l = true
  case neg => rw [if_neg fun z => hd z.2.2.2, if_neg fun z => hd z.2.1]; rfl
  have ha := digB_iff.mp hd
  cases l with
  | nil => rw [if_neg (by simp), if_neg (by simp)]; rfl
  | cons c r =>
    by_cases hc : c = 48
    · subst hc
      have hn : ¬ (48 :: r ≠ [] ∧ digB (48 :: r) = true ∧ (48 :: r).length ≤ 9 ∧ (48 :: r).head? ≠ some 48 ∧ lo ≤ digitsVal (48 :: r) ∧ digitsVal (48 :: r) ≤ hi) := fun z => z.2.2.2.1 rfl
      rw [if_neg hn]
      by_cases hr : r = []
      · subst hr
        rw [if_pos ⟨by decide, by decide, fun z => z.2 rfl, hd⟩]
        show (if lo ≤ digitsVal [48] ∧ digitsVal [48] ≤ hi then some (digitsVal [48]) else none) = none
        rw [if_neg fun z => by have : digitsVal [48] = 0 := rfl; omega]
      · rw [if_neg fun z => z.2.2.1 ⟨rfl, fun y => hr (by injection y)⟩]
        rfl
    · have hlow := dig_low ha hc
      by_cases h4 : (c :: r).length ≤ 4
      · rw [if_pos ⟨by simp, h4, fun z => hc (Option.some.inj z.1), hd⟩]
        show (if lo ≤ digitsVal (c :: r) ∧ digitsVal (c :: r) ≤ hi then some (digitsVal (c :: r)) else none) = _
        by_cases hb : lo ≤ digitsVal (c :: r) ∧ digitsVal (c :: r) ≤ hi
        · rw [if_pos hb, if_pos ⟨by simp, hd, by omega, fun z => hc (Option.some.inj z), hb.1, hb.2⟩]
        · rw [if_neg hb, if_neg fun z => hb ⟨z.2.2.2.2.1, z.2.2.2.2.2⟩]
      · rw [if_neg fun z => h4 z.2.1]
        have : 10 ^ 4 ≤ 10 ^ r.length := Nat.pow_le_pow_right (by decide) (by simp at h4; omega)
        rw [if_neg fun z => by have := z.2.2.2.2.2; omega]
        rfl
theorem num_can {l : List Nat} {lo hi n : Nat} (h : numN l lo hi = some n) : CanN l ∧ n = digitsVal l ∧ lo ≤ n ∧ n ≤ hi := by
  unfold numN at h
  split at h
  · rename_i z
    cases h
    exact ⟨⟨digB_iff.mp z.2.1, z.1, .inl z.2.2.2.1⟩, rfl, z.2.2.2.2.1, z.2.2.2.2.2⟩
  · cases h
end My
/-! Q8: a lot's text: read line by line, and told again -/
namespace My
open PySem PySem.NumText L2 TL
def isA (c : Nat) : Bool := decide (97 ≤ c) && decide (c ≤ 122)
def txB (x : Str) : Bool := decide (x.length ≤ 400) && x.cps.toList.all isA
abbrev sSp : Str := Str.ofString " "
abbrev sNl : Str := Str.ofString "\n"
abbrev sEm : Str := Str.ofString ""
abbrev sDa : Str := Str.ofString "-"
abbrev sSz : Str := Str.ofString "size"
abbrev sRd : Str := Str.ofString "read"
def wordsOf (l : Str) : List Str := Txt.split l sSp
def linesOf (x : Str) : List Str := Txt.split x sNl
def sizeW : List Str → Option Nat
  | [a, b] => if a = sSz then numN (tl b) 2 8 else none
  | _ => none
def sizeL (l : Str) : Option Nat := sizeW (wordsOf l)
theorem sizeW_no : ∀ {ws : List Str}, ws.length ≠ 2 → sizeW ws = none
  | [], _ => rfl
  | [_], _ => rfl
  | [_, _], h => absurd rfl h
  | _ :: _ :: _ :: _, _ => rfl
def wordT (c : Str) : Str := if c = sDa then sEm else c
def entL (b c : Str) : Option (Str × Int) := match numN (tl b) 1 1200 with
  | some n => if txB (wordT c) = true then some (wordT c, (n : Int)) else none
  | none => none
def readW : List Str → Option (Str × Int)
  | [a, b, c] => if a = sRd ∧ c ≠ sEm then entL b c else none
  | _ => none
def readL1 (l : Str) : Option (Str × Int) := readW (wordsOf l)
theorem readW_no : ∀ {ws : List Str}, ws.length ≠ 3 → readW ws = none
  | [], _ => rfl
  | [_], _ => rfl
  | [_, _], _ => rfl
  | [_, _, _], h => absurd rfl h
  | _ :: _ :: _ :: _ :: _, _ => rfl
def aheadB (L : List (Str × Int)) (e : Str × Int) : Bool := match L.getLast? with
  | none => true
  | some f => decide (sLt f.1 e.1)
def nextL (L : List (Str × Int)) (l : Str) : Option (Str × Int) := match readL1 l with
  | some e => if L.length < 60 ∧ aheadB L e = true then some e else none
  | none => none
def linesL : List (Str × Int) → List Str → Nat ⊕ List (Str × Int)
  | L, [] => .inr L
  | L, l :: r => match nextL L l with
    | some e => linesL (L ++ [e]) r
    | none => .inl (L.length + 1)
def readT (x : Str) : Nat ⊕ (Nat × List (Str × Int)) := match (linesOf x).dropLast with
  | [] => .inl 0
  | l :: r => match sizeL l with
    | none => .inl 0
    | some s => match linesL [] r with
      | .inl k => .inl k
      | .inr L => if (linesOf x).getLast? = some sEm then .inr (s, L) else .inl (r.length + 1)
/-! ### the text -/
def numS (n : Int) : Str := Str.ofString (toString n)
def wordS (t : Str) : Str := if t = sEm then sDa else t
def headS (s : Nat) : Str := Str.ofString "size " ++ numS s ++ sNl
def lineS (e : Str × Int) : Str := Str.ofString "read " ++ numS e.2 ++ sSp ++ wordS e.1 ++ sNl
def textOf (s : Nat) (M : List (Str × Int)) : Str := Txt.join sEm (headS s :: M.map lineS)
/-- the lines without their ends -/
def headB (s : Nat) : Str := Txt.join sSp [sSz, numS s]
def lineB (e : Str × Int) : Str := Txt.join sSp [sRd, numS e.2, wordS e.1]
theorem tl_sp : tl sSp = [32] := by decide +kernel
theorem tl_nl : tl sNl = [10] := by decide +kernel
theorem tl_em : tl sEm = [] := by decide +kernel
theorem tl_join' (y : Str) (parts : List Str) : tl (Txt.join y parts) = joinL (tl y) (parts.map tl) := by rw [join_eq, tl_join]
theorem joinL_nil : ∀ L : List (List Nat), joinL [] L = L.flatten
  | [] => rfl
  | [p] => by simp [joinL]
  | p :: q :: r => by
    show p ++ ([] ++ joinL [] (q :: r)) = p ++ (q :: r).flatten
    rw [joinL_nil (q :: r)]
    rfl
theorem joinL_end (s : Nat) : ∀ L : List (List Nat), L ≠ [] → joinL [s] (L ++ [[]]) = (L.map fun l => l ++ [s]).flatten
  | [], h => absurd rfl h
  | [p], _ => by
    show p ++ ([s] ++ []) = (p ++ [s]) ++ []
    simp
  | p :: q :: r, _ => by
    show p ++ ([s] ++ joinL [s] ((q :: r) ++ [[]])) = (p ++ [s]) ++ ((q :: r).map fun l => l ++ [s]).flatten
    rw [joinL_end s (q :: r) (by simp), List.append_assoc]
theorem tl_headS (s : Nat) : tl (headS s) = tl (headB s) ++ [10] := by
  unfold headS headB
  rw [tl_append, tl_append, tl_join', tl_nl, tl_sp]
  show (_ ++ _) ++ [10] = (tl sSz ++ ([32] ++ tl (numS s))) ++ [10]
  rw [show tl (Str.ofString "size ") = tl sSz ++ [32] by decide +kernel, List.append_assoc]
  simp
theorem tl_lineS (e : Str × Int) : tl (lineS e) = tl (lineB e) ++ [10] := by
  unfold lineS lineB
  rw [tl_append, tl_append, tl_append, tl_append, tl_join', tl_nl, tl_sp]
  show _ = (tl sRd ++ ([32] ++ (tl (numS e.2) ++ ([32] ++ tl (wordS e.1))))) ++ [10]
  rw [show tl (Str.ofString "read ") = tl sRd ++ [32] by decide +kernel]
  simp
/-- the text is its lines joined -/
theorem textOf_join (s : Nat) (M : List (Str × Int)) : textOf s M = Txt.join sNl ((headB s :: M.map lineB) ++ [sEm]) := by
  refine ext_tl ?_
  unfold textOf
  rw [tl_join', tl_join', tl_em, tl_nl, joinL_nil, List.map_append]
  show _ = joinL [10] ((headB s :: M.map lineB).map tl ++ [tl sEm])
  rw [tl_em, joinL_end _ _ (by simp)]
  refine congrArg List.flatten ?_
  rw [List.map_cons, List.map_cons, List.map_cons, tl_headS, List.map_map, List.map_map, List.map_map]
  refine congrArg _ (List.map_congr_left fun e _ => ?_)
  exact tl_lineS e
/-! ### what is free of a sign -/
theorem isA_no {x : Str} (h : txB x = true) {s : Nat} (hs : s < 97 ∨ 122 < s) : s ∉ tl x := fun hm => by
  unfold txB at h
  simp only [Bool.and_eq_true, List.all_eq_true] at h
  have := h.2 s hm
  unfold isA at this
  simp only [Bool.and_eq_true, decide_eq_true_eq] at this
  omega
theorem word_no {x : Str} (h : txB x = true) {s : Nat} (hs : s < 45) : s ∉ tl (wordS x) := by
  unfold wordS
  split
  · rw [show tl sDa = [45] by decide +kernel]
    simp
    omega
  · exact isA_no h (.inl (by omega))
theorem numS_tl {n : Int} (h : 0 ≤ n) : tl (numS n) = numL n.toNat := by
  have := tl_num n.toNat
  rwa [Int.toNat_of_nonneg h] at this
theorem numS_no {n : Int} (h : 0 ≤ n) {s : Nat} (hs : s < 48) : s ∉ tl (numS n) := by
  rw [numS_tl h]
  exact numL_free (.inl hs)
theorem joinL_no {s : Nat} {S : List Nat} (hS : s ∉ S) : ∀ {L : List (List Nat)}, (∀ l ∈ L, s ∉ l) → s ∉ joinL S L
  | [], _ => by simp [joinL]
  | [p], h => h p (by simp)
  | p :: q :: r, h => by
    show s ∉ p ++ (S ++ joinL S (q :: r))
    simp only [List.mem_append]
    rintro (z | z | z)
    · exact h p (by simp) z
    · exact hS z
    · exact joinL_no hS (fun l hl => h l (List.mem_cons_of_mem _ hl)) z
structure EntOk (e : Str × Int) : Prop where
  tx : txB e.1 = true
  lo : 1 ≤ e.2
  hi : e.2 ≤ 1200
theorem words_headB (s : Nat) : wordsOf (headB s) = [sSz, numS s] :=
  split_join tl_sp (by decide +kernel) (by simp) fun p hp => by
    simp only [List.mem_cons, List.not_mem_nil, or_false] at hp
    rcases hp with rfl | rfl
    · rw [show tl sSz = [115, 105, 122, 101] by decide +kernel]; simp
    · exact numS_no (by omega) (by omega)
theorem words_lineB {e : Str × Int} (h : EntOk e) : wordsOf (lineB e) = [sRd, numS e.2, wordS e.1] :=
  split_join tl_sp (by decide +kernel) (by simp) fun p hp => by
    simp only [List.mem_cons, List.not_mem_nil, or_false] at hp
    have := h.lo
    rcases hp with rfl | rfl | rfl
    · rw [show tl sRd = [114, 101, 97, 100] by decide +kernel]; simp
    · exact numS_no (by omega) (by omega)
    · exact word_no h.tx (by omega)
theorem lines_textOf {s : Nat} {M : List (Str × Int)} (h : ∀ e ∈ M, EntOk e) : linesOf (textOf s M) = (headB s :: M.map lineB) ++ [sEm] := by
  unfold linesOf
  rw [textOf_join]
  refine split_join tl_nl (by decide +kernel) (by simp) fun p hp => ?_
  simp only [List.mem_append, List.mem_cons, List.mem_map, List.not_mem_nil, or_false] at hp
  rcases hp with (rfl | ⟨e, he, rfl⟩) | rfl
  · unfold headB
    rw [tl_join', tl_sp]
    refine joinL_no (by simp) fun l hl => ?_
    simp only [List.map_cons, List.map_nil, List.mem_cons, List.not_mem_nil, or_false] at hl
    rcases hl with rfl | rfl
    · rw [show tl sSz = [115, 105, 122, 101] by decide +kernel]; simp
    · exact numS_no (by omega) (by omega)
  · unfold lineB
    rw [tl_join', tl_sp]
    refine joinL_no (by simp) fun l hl => ?_
    have hE := h e he
    have := hE.lo
    simp only [List.map_cons, List.map_nil, List.mem_cons, List.not_mem_nil, or_false] at hl
    rcases hl with rfl | rfl | rfl
    · rw [show tl sRd = [114, 101, 97, 100] by decide +kernel]; simp
    · exact numS_no (by omega) (by omega)
    · exact word_no hE.tx (by omega)
  · rw [tl_em]; simp
/-! ### numbers told and read -/
theorem digitsVal_numL (n : Nat) : digitsVal (numL n) = n := numL_val n
theorem numL_head {n : Nat} (h : 1 ≤ n) : (numL n).head? ≠ some 48 := by
  induction n using Nat.strongRecOn with
  | ind n ih =>
    by_cases h10 : n < 10
    · rw [numL_lt h10]
      simp
      omega
    · rw [numL_step (by omega)]
      have := ih (n / 10) (by omega) (by omega)
      cases e : numL (n / 10) with
      | nil => exact absurd e (numL_ne _)
      | cons c r => rw [e] at this; simpa using this
theorem numN_numL {n lo hi : Nat} (h1 : 1 ≤ n) (h2 : lo ≤ n) (h3 : n ≤ hi) (h4 : hi < 10000) : numN (numL n) lo hi = some n := by
  unfold numN
  have hl : (numL n).length ≤ 4 := numL_len (by omega) (by omega)
  rw [if_pos ⟨numL_ne n, digB_iff.mpr (numL_digits n), by omega, numL_head h1, by rw [digitsVal_numL]; exact h2, by rw [digitsVal_numL]; exact h3⟩, digitsVal_numL]
theorem sizeL_headB {s : Nat} (h1 : 2 ≤ s) (h2 : s ≤ 8) : sizeL (headB s) = some s := by
  unfold sizeL
  rw [words_headB]
  show (if sSz = sSz then numN (tl (numS s)) 2 8 else none) = _
  rw [if_pos rfl, numS_tl (by omega)]
  exact numN_numL (by omega) (by omega) (by omega) (by omega)
theorem tx_ne {x : Str} (h : txB x = true) : x ≠ sDa := fun z => isA_no h (s := 45) (.inl (by omega)) (by rw [z, show tl sDa = [45] by decide +kernel]; simp)
theorem word_back {x : Str} (h : txB x = true) : wordT (wordS x) = x := by
  unfold wordS wordT
  split
  · rename_i e
    rw [if_pos rfl, e]
  · rw [if_neg (tx_ne h)]
theorem wordS_ne (x : Str) : wordS x ≠ sEm := by
  unfold wordS
  split
  · intro z
    have := congrArg tl z
    rw [show tl sDa = [45] by decide +kernel, tl_em] at this
    cases this
  · assumption
theorem readL1_lineB {e : Str × Int} (h : EntOk e) : readL1 (lineB e) = some e := by
  unfold readL1
  rw [words_lineB h]
  show (if sRd = sRd ∧ wordS e.1 ≠ sEm then entL (numS e.2) (wordS e.1) else none) = _
  rw [if_pos ⟨rfl, wordS_ne _⟩]
  unfold entL
  have := h.lo
  have := h.hi
  rw [numS_tl (by omega), numN_numL (n := e.2.toNat) (by omega) (by omega) (by omega) (by omega)]
  show (if txB (wordT (wordS e.1)) = true then some (wordT (wordS e.1), ((e.2.toNat : Nat) : Int)) else none) = some e
  rw [word_back h.tx, if_pos h.tx, Int.toNat_of_nonneg (by omega)]
abbrev Rise (L : List (Str × Int)) : Prop := L.Pairwise fun e f => sLt e.1 f.1
theorem aheadB_of {L : List (Str × Int)} {e : Str × Int} {r : List (Str × Int)} (h : Rise (L ++ e :: r)) : aheadB L e = true := by
  unfold aheadB
  cases el : L.getLast? with
  | none => rfl
  | some f =>
    have hf := List.mem_of_getLast? el
    exact decide_eq_true ((List.pairwise_append.mp h).2.2 f hf e (by simp))
theorem rise_snoc {L : List (Str × Int)} {e : Str × Int} (h : Rise L) (k : aheadB L e = true) : Rise (L ++ [e]) := by
  refine List.pairwise_append.mpr ⟨h, by simp, fun a ha b hb => ?_⟩
  rw [List.mem_singleton.mp hb]
  unfold aheadB at k
  cases el : L.getLast? with
  | none => rw [List.getLast?_eq_none_iff.mp el] at ha; cases ha
  | some f =>
    rw [el] at k
    have k := of_decide_eq_true k
    obtain ⟨ys, rfl⟩ := List.getLast?_eq_some_iff.mp el
    rcases List.mem_append.mp ha with z | z
    · exact sLt_trans ((List.pairwise_append.mp h).2.2 a z f (by simp)) k
    · rw [List.mem_singleton.mp z]; exact k
theorem linesL_back : ∀ (r L : List (Str × Int)), (∀ e ∈ r, EntOk e) → Rise (L ++ r) → (L ++ r).length ≤ 60 → linesL L (r.map lineB) = .inr (L ++ r)
  | [], L, _, _, _ => by rw [List.append_nil]; rfl
  | e :: r, L, h, hr, hl => by
    rw [List.map_cons]
    show (match nextL L (lineB e) with | some e => linesL (L ++ [e]) (r.map lineB) | none => .inl (L.length + 1)) = _
    have hn : nextL L (lineB e) = some e := by
      unfold nextL
      rw [readL1_lineB (h e (by simp))]
      show (if L.length < 60 ∧ aheadB L e = true then some e else none) = _
      rw [if_pos ⟨by simp at hl; omega, aheadB_of hr⟩]
    rw [hn]
    have := linesL_back r (L ++ [e]) (fun f hf => h f (by simp [hf])) (by rw [List.append_assoc]; exact hr) (by rw [List.append_assoc]; exact hl)
    rw [List.append_assoc] at this
    exact this
/-- the text of a lot is read as the lot -/
theorem readT_textOf {s : Nat} {M : List (Str × Int)} (h1 : 2 ≤ s) (h2 : s ≤ 8) (h : ∀ e ∈ M, EntOk e) (hr : Rise M) (hl : M.length ≤ 60) : readT (textOf s M) = .inr (s, M) := by
  unfold readT
  rw [lines_textOf h, List.dropLast_concat, List.getLast?_concat]
  show (match sizeL (headB s) with | none => _ | some s => _) = _
  rw [sizeL_headB h1 h2]
  show (match linesL [] (M.map lineB) with | .inl k => _ | .inr L => _) = _
  rw [linesL_back M [] h hr hl]
  show (if some sEm = some sEm then _ else _) = _
  rw [if_pos rfl]
  rfl
/-! ### what was read is told again -/
theorem sizeL_is {l : Str} {s : Nat} (h : sizeL l = some s) : l = headB s ∧ 2 ≤ s ∧ s ≤ 8 := by
  unfold sizeL sizeW at h
  split at h
  · rename_i a b e
    split at h
    · rename_i ea
      obtain ⟨c1, c2, c3, c4⟩ := num_can h
      refine ⟨?_, c3, c4⟩
      have hj := StrLaws.join_split l sSp
      unfold wordsOf at e
      rw [e, ea] at hj
      unfold headB
      rw [join_eq, ← hj]
      refine congrArg (fun z => Str.join sSp [sSz, z]) (ext_tl ?_)
      rw [numS_tl (by omega), Int.toNat_natCast, c2, num_back c1]
    · cases h
  · cases h
theorem wordT_back {c : Str} (h : c ≠ sEm) : wordS (wordT c) = c := by
  unfold wordT
  split
  · rename_i e
    rw [e]
    rfl
  · unfold wordS
    rw [if_neg h]
theorem readL1_is {l : Str} {e : Str × Int} (h : readL1 l = some e) : l = lineB e ∧ EntOk e := by
  unfold readL1 readW at h
  split at h
  · rename_i a b c ew
    split at h
    · rename_i hc
      obtain ⟨ea, ec⟩ := hc
      unfold entL at h
      split at h
      · rename_i n hn
        split at h
        · rename_i ht
          cases h
          obtain ⟨c1, c2, c3, c4⟩ := num_can hn
          refine ⟨?_, ht, by show 1 ≤ (n : Int); omega, by show (n : Int) ≤ 1200; omega⟩
          have hj := StrLaws.join_split l sSp
          unfold wordsOf at ew
          rw [ew, ea] at hj
          unfold lineB
          rw [join_eq, ← hj]
          show Str.join sSp [sRd, b, c] = Str.join sSp [sRd, numS (n : Int), wordS (wordT c)]
          rw [wordT_back ec]
          refine congrArg (fun z => Str.join sSp [sRd, z, c]) (ext_tl ?_)
          rw [numS_tl (by omega), Int.toNat_natCast, c2, num_back c1]
        · cases h
      · cases h
    · cases h
  · cases h
theorem nextL_is {L : List (Str × Int)} {l : Str} {e : Str × Int} (h : nextL L l = some e) : l = lineB e ∧ EntOk e ∧ L.length < 60 ∧ aheadB L e = true := by
  unfold nextL at h
  split at h
  · rename_i f hf
    split at h
    · rename_i c
      cases h
      obtain ⟨h1, h2⟩ := readL1_is hf
      exact ⟨h1, h2, c.1, c.2⟩
    · cases h
  · cases h
theorem linesL_is : ∀ (r : List Str) (L : List (Str × Int)) {M : List (Str × Int)}, linesL L r = .inr M → (∀ e ∈ L, EntOk e) → Rise L → L.length ≤ 60 → ∃ T, M = L ++ T ∧ r = T.map lineB ∧ (∀ e ∈ M, EntOk e) ∧ Rise M ∧ M.length ≤ 60
  | [], L, M, h, k, hr, hl => by
    cases h
    exact ⟨[], by simp, rfl, k, hr, hl⟩
  | l :: r, L, M, h, k, hr, hl => by
    unfold linesL at h
    split at h
    · rename_i e he
      obtain ⟨n1, n2, n3, n4⟩ := nextL_is he
      obtain ⟨T, h1, h2, h3, h4, h5⟩ := linesL_is r (L ++ [e]) h (fun f hf => by
        rcases List.mem_append.mp hf with z | z
        · exact k f z
        · rw [List.mem_singleton.mp z]; exact n2) (rise_snoc hr n4) (by simp; omega)
      exact ⟨e :: T, by rw [h1, List.append_assoc]; rfl, by rw [List.map_cons, ← n1, h2], h3, h4, h5⟩
    · cases h
theorem readT_is {x : Str} {s : Nat} {L : List (Str × Int)} (h : readT x = .inr (s, L)) : textOf s L = x ∧ 2 ≤ s ∧ s ≤ 8 ∧ (∀ e ∈ L, EntOk e) ∧ Rise L ∧ L.length ≤ 60 := by
  unfold readT at h
  split at h
  · cases h
  · rename_i l r el
    split at h
    · cases h
    · rename_i s' hs
      split at h
      · cases h
      · rename_i M hM
        split at h
        · rename_i hg
          cases h
          obtain ⟨g1, g2, g3⟩ := sizeL_is hs
          obtain ⟨T, h1, h2, h3, h4, h5⟩ := linesL_is r [] hM (by simp) (by simp) (by simp)
          refine ⟨?_, g2, g3, h3, h4, h5⟩
          rw [List.nil_append] at h1
          subst h1
          rw [textOf_join, ← h2, ← g1, ← el]
          obtain ⟨ys, hy⟩ := List.getLast?_eq_some_iff.mp hg
          rw [hy, List.dropLast_concat, ← hy, join_eq]
          exact StrLaws.join_split x sNl
        · cases h
theorem int_can {x : Str} (h : CanN (tl x)) (hl : x.length ≤ 640) : intText? x = some ((digitsVal (tl x) : Nat) : Int) := by
  have e := num_back h
  have : x = Str.ofString (toString ((digitsVal (tl x) : Nat) : Int)) := ext_tl (by rw [tl_num, e])
  have h2 := int_num (n := digitsVal (tl x)) (by rw [e, ← len_tl]; omega)
  rwa [← this] at h2
def ofN : Option Nat → V
  | some n => .int ((n : Nat) : Int)
  | none => .non
def isD (c : Nat) : Bool := decide (48 ≤ c) && decide (c ≤ 57)
theorem digB_all (l : List Nat) : l.all isD = digB l := rfl
/-! ### lengths of what is split and joined -/
theorem spl_ne (S : List Nat) : ∀ (k : Nat) (acc l : List Nat), spl S k acc l ≠ []
  | k, acc, [] => by rw [spl_nil]; simp
  | 0, acc, c :: r => by
    cases h : pre S (c :: r) with
    | true => rw [spl_hit h]; simp
    | false => rw [spl_miss h]; exact spl_ne S 0 _ r
  | k + 1, acc, c :: r => spl_ne S k acc r
theorem split_ne {x y : Str} (hy : tl y ≠ []) (hk : y.cps.all (· < 256) = true) : Txt.split x y ≠ [] := fun z => by
  have := split_spl x y hy (kind_ok hk)
  rw [z] at this
  exact spl_ne _ _ _ _ this.symm
theorem lines_ne (x : Str) : linesOf x ≠ [] := split_ne (by rw [tl_nl]; simp) (by decide +kernel)
/-- the lengths, one more each -/
def wid (L : List Str) : Nat := (L.map fun p => p.length + 1).sum
theorem wid_app (L M : List Str) : wid (L ++ M) = wid L + wid M := by
  unfold wid
  rw [List.map_append, List.sum_append_nat]
theorem joinL_len (s : Nat) : ∀ L : List Str, L ≠ [] → (joinL [s] (L.map tl)).length + 1 = wid L
  | [], h => absurd rfl h
  | [p], _ => by
    show (tl p).length + 1 = p.length + 1 + 0
    rw [len_tl]
  | p :: q :: r, _ => by
    show (tl p ++ ([s] ++ joinL [s] ((q :: r).map tl))).length + 1 = (p.length + 1) + wid (q :: r)
    rw [← joinL_len s (q :: r) (by simp), List.length_append, List.length_append, ← len_tl]
    show p.length + (1 + _) + 1 = _
    omega
theorem join_len {y : Str} {s : Nat} (ey : tl y = [s]) {L : List Str} (h : L ≠ []) : (Txt.join y L).length + 1 = wid L := by
  rw [len_tl, tl_join', ey, joinL_len s L h]
theorem join_le {y : Str} {s : Nat} (ey : tl y = [s]) (L : List Str) : (Txt.join y L).length ≤ wid L := by
  cases L with
  | nil => rw [len_tl, tl_join']; exact Nat.le_refl _
  | cons p r => have := join_len ey (L := p :: r) (by simp); omega
theorem split_wid {x y : Str} {s : Nat} (ey : tl y = [s]) (hk : y.cps.all (· < 256) = true) : wid (Txt.split x y) = x.length + 1 := by
  have h := split_ne (x := x) (y := y) (by rw [ey]; simp) hk
  rw [← join_len ey h, join_eq, StrLaws.join_split]
theorem wid_mem : ∀ {L : List Str} {p : Str}, p ∈ L → p.length + 1 ≤ wid L
  | q :: r, p, h => by
    show p.length + 1 ≤ (q.length + 1) + wid r
    rcases List.mem_cons.mp h with rfl | h
    · omega
    · have := wid_mem h; omega
theorem wid_len : ∀ L : List Str, L.length ≤ wid L
  | [] => Nat.le_refl _
  | q :: r => by
    show r.length + 1 ≤ (q.length + 1) + wid r
    have := wid_len r
    omega
theorem wid_take (L : List Str) (k : Nat) : wid (L.take k) ≤ wid L := by
  have := wid_app (L.take k) (L.drop k)
  rw [List.take_append_drop] at this
  omega
theorem wid_drop (L : List Str) (k : Nat) : wid (L.drop k) ≤ wid L := by
  have := wid_app (L.take k) (L.drop k)
  rw [List.take_append_drop] at this
  omega
theorem lines_wid (x : Str) : wid (linesOf x) = x.length + 1 := split_wid tl_nl (by decide +kernel)
theorem words_wid (x : Str) : wid (wordsOf x) = x.length + 1 := split_wid tl_sp (by decide +kernel)
theorem line_len {x p : Str} (h : p ∈ linesOf x) : p.length ≤ x.length := by have := wid_mem h; rw [lines_wid] at this; omega
theorem word_len {x p : Str} (h : p ∈ wordsOf x) : p.length ≤ x.length := by have := wid_mem h; rw [words_wid] at this; omega
theorem wid_sum : ∀ L : List Str, (L.map (·.length)).sum + L.length * 1 = wid L
  | [] => rfl
  | q :: r => by
    have := wid_sum r
    show (q.length + (r.map (·.length)).sum) + (r.length + 1) * 1 = (q.length + 1) + wid r
    omega
/-! ### line by line -/
theorem linesL_none {L : List (Str × Int)} {l : Str} {r : List Str} (h : nextL L l = none) : linesL L (l :: r) = .inl (L.length + 1) := by
  unfold linesL
  simp only [h]
theorem linesL_some {L : List (Str × Int)} {l : Str} {r : List Str} {e : Str × Int} (h : nextL L l = some e) : linesL L (l :: r) = linesL (L ++ [e]) r := by
  show (match nextL L l with | some e => linesL (L ++ [e]) r | none => Sum.inl (L.length + 1)) = _
  simp only [h]
theorem linesL_stop {r' : List Str} {k : Nat} : ∀ {r : List Str} {L : List (Str × Int)}, linesL L r = .inl k → linesL L (r ++ r') = .inl k
  | [], L, h => by cases h
  | l :: r, L, h => by
    cases n : nextL L l with
    | none => rw [linesL_none n] at h; rw [List.cons_append, linesL_none n, h]
    | some e => rw [linesL_some n] at h; rw [List.cons_append, linesL_some n]; exact linesL_stop h
theorem linesL_go {r' : List Str} {M : List (Str × Int)} : ∀ {r : List Str} {L : List (Str × Int)}, linesL L r = .inr M → linesL L (r ++ r') = linesL M r'
  | [], L, h => by cases h; rfl
  | l :: r, L, h => by
    cases n : nextL L l with
    | none => rw [linesL_none n] at h; cases h
    | some e => rw [linesL_some n] at h; rw [List.cons_append, linesL_some n]; exact linesL_go h
theorem linesL_len : ∀ {r : List Str} {L M : List (Str × Int)}, linesL L r = .inr M → M.length = L.length + r.length
  | [], L, M, h => by cases h; rfl
  | l :: r, L, M, h => by
    unfold linesL at h
    split at h
    · have := linesL_len h
      simp at this ⊢
      omega
    · cases h
theorem take_one {r : List Str} {j : Nat} {l : Str} (h : r[j]? = some l) : r.take (j + 1) = r.take j ++ [l] := by rw [List.take_succ, h]; rfl
theorem lines_ok {r : List Str} {j : Nat} {l : Str} {L : List (Str × Int)} {e : Str × Int} (h : linesL [] (r.take j) = .inr L) (k : r[j]? = some l) (n : nextL L l = some e) : linesL [] (r.take (j + 1)) = .inr (L ++ [e]) := by
  rw [take_one k, linesL_go h, linesL_some n]
  rfl
theorem lines_len {r : List Str} {j : Nat} {L : List (Str × Int)} (h : linesL [] (r.take j) = .inr L) (k : j ≤ r.length) : L.length = j := by
  have := linesL_len h
  rw [List.length_take, List.length_nil] at this
  omega
theorem lines_bad {r : List Str} {j : Nat} {l : Str} {L : List (Str × Int)} (h : linesL [] (r.take j) = .inr L) (k : r[j]? = some l) (n : nextL L l = none) : linesL [] r = .inl (j + 1) := by
  have hj := (List.getElem?_eq_some_iff.mp k).1
  have hl := lines_len h (by omega)
  have e : r = r.take (j + 1) ++ r.drop (j + 1) := (List.take_append_drop _ _).symm
  rw [e]
  refine linesL_stop ?_
  rw [take_one k, linesL_go h, linesL_none n, hl]
def readWR (W : List Str) (rest : Str) : Nat ⊕ (Nat × List (Str × Int)) := match W with
  | [] => .inl 0
  | l :: r => match sizeL l with
    | none => .inl 0
    | some s => match linesL [] r with
      | .inl k => .inl k
      | .inr L => if rest = sEm then .inr (s, L) else .inl (r.length + 1)
theorem readWR_none {l : Str} {r : List Str} {rest : Str} (h : sizeL l = none) : readWR (l :: r) rest = .inl 0 := by
  unfold readWR
  simp only [h]
theorem readWR_bad {l : Str} {r : List Str} {rest : Str} {s m : Nat} (h : sizeL l = some s) (k : linesL [] r = .inl m) : readWR (l :: r) rest = .inl m := by
  unfold readWR
  simp only [h, k]
theorem readWR_ok {l : Str} {r : List Str} {rest : Str} {s : Nat} {L : List (Str × Int)} (h : sizeL l = some s) (k : linesL [] r = .inr L) : readWR (l :: r) rest = if rest = sEm then .inr (s, L) else .inl (r.length + 1) := by
  unfold readWR
  simp only [h, k]
theorem readT_WR {x : Str} {W : List Str} {rest : Str} (h : linesOf x = W ++ [rest]) : readT x = readWR W rest := by
  unfold readT readWR
  rw [h, List.dropLast_concat, List.getLast?_concat]
  cases W with
  | nil => rfl
  | cons l r =>
    cases hs : sizeL l with
    | none => simp only [hs]
    | some s =>
      cases hL : linesL [] r with
      | inl k => simp only [hs, hL]
      | inr L => simp only [hs, hL, Option.some.injEq]
theorem lines_two (x : Str) : ∃ W rest, linesOf x = W ++ [rest] := by
  rcases List.eq_nil_or_concat (linesOf x) with h | ⟨W, r, h⟩
  · exact absurd h (lines_ne x)
  · exact ⟨W, r, by simpa using h⟩
/-- where the reading stands behind i lines -/
def At_ (W : List Str) (i : Nat) (L : List (Str × Int)) : Prop := (i = 0 ∧ L = []) ∨ ∃ l r s j, W = l :: r ∧ i = j + 1 ∧ sizeL l = some s ∧ linesL [] (r.take j) = .inr L
theorem At_.bad {W : List Str} {i : Nat} {L : List (Str × Int)} {l rest : Str} (h : At_ W i L) (k : W[i]? = some l) (n : (if i = 0 then (sizeL l).isSome else (nextL L l).isSome) = false) : readWR W rest = .inl i := by
  rcases h with ⟨rfl, rfl⟩ | ⟨l0, r, s, j, rfl, rfl, hs, hL⟩
  · cases W with
    | nil => rfl
    | cons l0 r =>
      cases k
      rw [if_pos rfl, Option.isSome_eq_false_iff, Option.isNone_iff_eq_none] at n
      exact readWR_none n
  · rw [if_neg (by omega), Option.isSome_eq_false_iff, Option.isNone_iff_eq_none] at n
    have k : r[j]? = some l := k
    exact readWR_bad hs (lines_bad hL k n)
theorem At_.next {W : List Str} {i : Nat} {L : List (Str × Int)} {l : Str} {e : Str × Int} (h : At_ W i L) (i0 : 0 < i) (k : W[i]? = some l) (n : nextL L l = some e) : At_ W (i + 1) (L ++ [e]) := by
  rcases h with ⟨rfl, rfl⟩ | ⟨l0, r, s, j, rfl, rfl, hs, hL⟩
  · omega
  · exact .inr ⟨l0, r, s, j + 1, rfl, rfl, hs, lines_ok hL k n⟩
theorem At_.first {W : List Str} {L : List (Str × Int)} {l : Str} {s : Nat} (h : At_ W 0 L) (k : W[0]? = some l) (n : sizeL l = some s) : At_ W 1 [] := by
  rcases h with ⟨_, rfl⟩ | ⟨l0, r, s, j, rfl, z, hs, hL⟩
  · cases W with
    | nil => cases k
    | cons l0 r =>
      cases k
      exact .inr ⟨l, r, s, 0, rfl, rfl, n, rfl⟩
  · omega
theorem At_.done {W : List Str} {L : List (Str × Int)} (rest : Str) (h : At_ W W.length L) : (W = [] ∧ readWR W rest = .inl 0) ∨ ∃ l r s, W = l :: r ∧ sizeL l = some s ∧ readWR W rest = if rest = sEm then .inr (s, L) else .inl W.length := by
  rcases h with ⟨z, rfl⟩ | ⟨l0, r, s, j, rfl, z, hs, hL⟩
  · exact .inl ⟨List.eq_nil_of_length_eq_zero z, by rw [List.eq_nil_of_length_eq_zero z]; rfl⟩
  · refine .inr ⟨l0, r, s, rfl, hs, ?_⟩
    have hj : j = r.length := by simp at z; omega
    rw [hj, List.take_length] at hL
    exact readWR_ok hs hL
theorem At_.len {W : List Str} {i : Nat} {L : List (Str × Int)} (h : At_ W i L) (k : i ≤ W.length) : L.length = i - 1 := by
  rcases h with ⟨rfl, rfl⟩ | ⟨l0, r, s, j, rfl, rfl, hs, hL⟩
  · rfl
  · exact lines_len hL (by simp at k; omega)
theorem linesL_60 : ∀ {r : List Str} {L M : List (Str × Int)}, linesL L r = .inr M → (∀ e ∈ L, EntOk e) → Rise L → L.length ≤ 60 → (∀ e ∈ M, EntOk e) ∧ Rise M ∧ M.length ≤ 60 := fun h a b c => by
  obtain ⟨_, _, _, h1, h2, h3⟩ := linesL_is _ _ h a b c
  exact ⟨h1, h2, h3⟩
theorem At_.ok {W : List Str} {i : Nat} {L : List (Str × Int)} (h : At_ W i L) : (∀ e ∈ L, EntOk e) ∧ Rise L ∧ L.length ≤ 60 := by
  rcases h with ⟨rfl, rfl⟩ | ⟨l0, r, s, j, rfl, rfl, hs, hL⟩
  · exact ⟨by simp, by simp, by simp⟩
  · exact linesL_60 hL (by simp) (by simp) (by simp)
theorem rise_told {L : List (Str × Int)} (h : Rise L) : L.mergeSort (PySem.W.dataLe false encSI) = L := by
  have hn : (L.map Prod.fst).Nodup := by
    refine List.pairwise_map.mpr (h.imp fun {a b} z y => ?_)
    rw [y] at z
    exact sLt_irr _ z
  exact (told_of hn).unique h fun e => (List.mergeSort_perm L _).mem_iff
end My
namespace My
open PySem L2 PyProof.Rows
def topS (i : Nat) : Stmt := PySem.Challenge.pw_suretexts_k18_any_text_as_a_lot.main.body.getD i (.Pass ⟨0, 0, 0, 0⟩)
abbrev s_wall : Stmt := topS 0
theorem sc_wall : FnScope ["k"] ["k"] (defScope s_wall) := ⟨rfl, rfl, rfl, by decide +kernel, rfl, by decide +kernel, by decide +kernel⟩
abbrev sis_integer : Stmt := topS 10
theorem scis_integer : FnScope ["value"] ["value"] (defScope sis_integer) := ⟨rfl, rfl, rfl, by decide +kernel, rfl, by decide +kernel, by decide +kernel⟩
abbrev sis_between : Stmt := topS 11
theorem scis_between : FnScope ["value", "least", "most"] ["value", "least", "most"] (defScope sis_between) := ⟨rfl, rfl, rfl, by decide +kernel, rfl, by decide +kernel, by decide +kernel⟩
abbrev sis_size : Stmt := topS 12
theorem scis_size : FnScope ["value"] ["value"] (defScope sis_size) := ⟨rfl, rfl, rfl, by decide +kernel, rfl, by decide +kernel, by decide +kernel⟩
abbrev sis_listed : Stmt := topS 13
theorem scis_listed : FnScope ["value"] ["value"] (defScope sis_listed) := ⟨rfl, rfl, rfl, by decide +kernel, rfl, by decide +kernel, by decide +kernel⟩
abbrev sis_letter : Stmt := topS 14
theorem scis_letter : FnScope ["sign"] ["sign"] (defScope sis_letter) := ⟨rfl, rfl, rfl, by decide +kernel, rfl, by decide +kernel, by decide +kernel⟩
abbrev sis_digit : Stmt := topS 15
theorem scis_digit : FnScope ["sign"] ["sign"] (defScope sis_digit) := ⟨rfl, rfl, rfl, by decide +kernel, rfl, by decide +kernel, by decide +kernel⟩
abbrev scount_of : Stmt := topS 16
theorem sccount_of : FnScope ["signs", "most", "sign"] ["signs", "most"] (defScope scount_of) := ⟨rfl, rfl, rfl, by decide +kernel, rfl, by decide +kernel, by decide +kernel⟩
abbrev sneed_size : Stmt := topS 17
theorem scneed_size : FnScope ["size"] ["size"] (defScope sneed_size) := ⟨rfl, rfl, rfl, by decide +kernel, rfl, by decide +kernel, by decide +kernel⟩
abbrev sis_text : Stmt := topS 20
theorem scis_text : FnScope ["value", "sign"] ["value"] (defScope sis_text) := ⟨rfl, rfl, rfl, by decide +kernel, rfl, by decide +kernel, by decide +kernel⟩
abbrev spieces_along : Stmt := topS 22
theorem scpieces_along : FnScope ["text", "size", "place"] ["text", "size"] (defScope spieces_along) := ⟨rfl, rfl, rfl, by decide +kernel, rfl, by decide +kernel, by decide +kernel⟩
abbrev spieces_often : Stmt := topS 23
theorem scpieces_often : FnScope ["readings", "size", "often", "text", "times", "piece"] ["readings", "size"] (defScope spieces_often) := ⟨rfl, rfl, rfl, by decide +kernel, rfl, by decide +kernel, by decide +kernel⟩
abbrev sis_times : Stmt := topS 27
theorem scis_times : FnScope ["value"] ["value"] (defScope sis_times) := ⟨rfl, rfl, rfl, by decide +kernel, rfl, by decide +kernel, by decide +kernel⟩
abbrev sare_readings : Stmt := topS 28
theorem scare_readings : FnScope ["value", "reading"] ["value"] (defScope sare_readings) := ⟨rfl, rfl, rfl, by decide +kernel, rfl, by decide +kernel, by decide +kernel⟩
abbrev sneed_lot : Stmt := topS 30
theorem scneed_lot : FnScope ["lot"] ["lot"] (defScope sneed_lot) := ⟨rfl, rfl, rfl, by decide +kernel, rfl, by decide +kernel, by decide +kernel⟩
abbrev s_times_together : Stmt := topS 31
theorem sc_times_together : FnScope ["readings", "together", "text", "times"] ["readings"] (defScope s_times_together) := ⟨rfl, rfl, rfl, by decide +kernel, rfl, by decide +kernel, by decide +kernel⟩
abbrev slot_told : Stmt := topS 32
theorem sclot_told : FnScope ["size", "told", "_", "times", "lot"] ["size", "told"] (defScope slot_told) := ⟨rfl, rfl, rfl, by decide +kernel, rfl, by decide +kernel, by decide +kernel⟩
abbrev slot_text : Stmt := topS 36
theorem sclot_text : FnScope ["lot", "lines", "text", "times"] ["lot"] (defScope slot_text) := ⟨rfl, rfl, rfl, by decide +kernel, rfl, by decide +kernel, by decide +kernel⟩
abbrev slot_of : Stmt := topS 37
theorem sclot_of : FnScope ["text", "lines", "rest", "told", "at", "line"] ["text"] (defScope slot_of) := ⟨rfl, rfl, rfl, by decide +kernel, rfl, by decide +kernel, by decide +kernel⟩
abbrev s_is_right : Stmt := topS 38
theorem sc_is_right : FnScope ["line", "at", "told", "reading"] ["line", "at", "told"] (defScope s_is_right) := ⟨rfl, rfl, rfl, by decide +kernel, rfl, by decide +kernel, by decide +kernel⟩
abbrev s_size_of : Stmt := topS 39
theorem sc_size_of : FnScope ["line", "words", "size"] ["line"] (defScope s_size_of) := ⟨rfl, rfl, rfl, by decide +kernel, rfl, by decide +kernel, by decide +kernel⟩
abbrev s_reading_of : Stmt := topS 40
theorem sc_reading_of : FnScope ["line", "words", "times", "text"] ["line"] (defScope s_reading_of) := ⟨rfl, rfl, rfl, by decide +kernel, rfl, by decide +kernel, by decide +kernel⟩
abbrev s_law_pot : Stmt := topS 42
theorem sc_law_pot : FnScope ["_law_script", "_law_k", "_law_cell"] ["_law_script", "_law_k"] (defScope s_law_pot) := ⟨rfl, rfl, rfl, by decide +kernel, rfl, by decide +kernel, by decide +kernel⟩
abbrev s_law_draw : Stmt := topS 43
theorem sc_law_draw : FnScope ["_law_pot_here", "_law_size", "_law_digit"] ["_law_pot_here", "_law_size"] (defScope s_law_draw) := ⟨rfl, rfl, rfl, by decide +kernel, rfl, by decide +kernel, by decide +kernel⟩
abbrev s_law_pick : Stmt := topS 44
theorem sc_law_pick : FnScope ["_law_pot_here", "_law_some"] ["_law_pot_here", "_law_some"] (defScope s_law_pick) := ⟨rfl, rfl, rfl, by decide +kernel, rfl, by decide +kernel, by decide +kernel⟩
abbrev s_law_text : Stmt := topS 45
theorem sc_law_text : FnScope ["_law_pot_here", "_law_most", "_law_found", "_law_turn"] ["_law_pot_here", "_law_most"] (defScope s_law_text) := ⟨rfl, rfl, rfl, by decide +kernel, rfl, by decide +kernel, by decide +kernel⟩
abbrev s_law_readings : Stmt := topS 46
theorem sc_law_readings : FnScope ["_law_pot_here", "_law_many", "_law_found", "_law_turn"] ["_law_pot_here", "_law_many"] (defScope s_law_readings) := ⟨rfl, rfl, rfl, by decide +kernel, rfl, by decide +kernel, by decide +kernel⟩
abbrev s_law_times : Stmt := topS 47
theorem sc_law_times : FnScope ["_law_readings_here", "_law_found", "_law_text_here", "_law_times_here"] ["_law_readings_here"] (defScope s_law_times) := ⟨rfl, rfl, rfl, by decide +kernel, rfl, by decide +kernel, by decide +kernel⟩
abbrev s_law_sorted : Stmt := topS 48
theorem sc_law_sorted : FnScope ["_law_told_here", "_law_one"] ["_law_told_here"] (defScope s_law_sorted) := ⟨rfl, rfl, rfl, by decide +kernel, rfl, by decide +kernel, by decide +kernel⟩
abbrev s_law_number : Stmt := topS 49
theorem sc_law_number : FnScope ["_law_word", "_law_least", "_law_most", "_law_sign"] ["_law_word", "_law_least", "_law_most"] (defScope s_law_number) := ⟨rfl, rfl, rfl, by decide +kernel, rfl, by decide +kernel, by decide +kernel⟩
abbrev s_law_letters : Stmt := topS 50
theorem sc_law_letters : FnScope ["_law_word", "_law_sign"] ["_law_word"] (defScope s_law_letters) := ⟨rfl, rfl, rfl, by decide +kernel, rfl, by decide +kernel, by decide +kernel⟩
abbrev s_law_read : Stmt := topS 51
theorem sc_law_read : FnScope ["_law_text_here", "_law_lines", "_law_whole", "_law_last", "_law_found", "_law_words", "_law_size", "_law_at", "_law_line", "_law_times_here", "_law_here"] ["_law_text_here"] (defScope s_law_read) := ⟨rfl, rfl, rfl, by decide +kernel, rfl, by decide +kernel, by decide +kernel⟩
abbrev s_law_told : Stmt := topS 52
theorem sc_law_told : FnScope ["_law_size", "_law_told_here", "_law_lines", "_law_text_here", "_law_times_here", "_law_word"] ["_law_size", "_law_told_here"] (defScope s_law_told) := ⟨rfl, rfl, rfl, by decide +kernel, rfl, by decide +kernel, by decide +kernel⟩
abbrev s_law_bent : Stmt := topS 53
theorem sc_law_bent : FnScope ["_law_pot_here", "_law_text_here", "_law_at", "_law_way", "_law_some", "_law_lines", "_law_spot"] ["_law_pot_here", "_law_text_here"] (defScope s_law_bent) := ⟨rfl, rfl, rfl, by decide +kernel, rfl, by decide +kernel, by decide +kernel⟩
abbrev s_law_heard : Stmt := topS 54
theorem sc_law_heard : FnScope ["_law_text_here", "_law_told_here", "e"] ["_law_text_here"] (defScope s_law_heard) := ⟨rfl, rfl, rfl, by decide +kernel, rfl, by decide +kernel, by decide +kernel⟩
abbrev s_law_text_right : Stmt := topS 55
theorem sc_law_text_right : FnScope ["_law_text_here", "_law_line", "_law_size", "_law_found", "_law_told_here"] ["_law_text_here"] (defScope s_law_text_right) := ⟨rfl, rfl, rfl, by decide +kernel, rfl, by decide +kernel, by decide +kernel⟩
abbrev s_law_told_texts : Stmt := topS 56
theorem sc_law_told_texts : FnScope ["_law_texts", "_law_names", "_law_first", "_law_whole", "_law_second", "_law_name"] [] (defScope s_law_told_texts) := ⟨rfl, rfl, rfl, by decide +kernel, rfl, by decide +kernel, by decide +kernel⟩
abbrev slaw : Stmt := topS 57
theorem sclaw : FnScope ["_law_script", "_law_value", "_law_pot_here", "_law_readings_here", "_law_size", "_law_lot", "_law_text_here", "_law_turn", "_law_bent_here", "_law_told_here"] ["_law_script"] (defScope slaw) := ⟨rfl, rfl, rfl, by decide +kernel, rfl, by decide +kernel, by decide +kernel⟩
abbrev sLot___init__ : Stmt := inClass (topS 29) 0
theorem scLot___init__ : FnScope ["self", "size", "readings"] ["self", "size", "readings"] (defScope sLot___init__) := ⟨rfl, rfl, rfl, by decide +kernel, rfl, by decide +kernel, by decide +kernel⟩
abbrev sLot___eq__ : Stmt := inClass (topS 29) 1
theorem scLot___eq__ : FnScope ["self", "other"] ["self", "other"] (defScope sLot___eq__) := ⟨rfl, rfl, rfl, by decide +kernel, rfl, by decide +kernel, by decide +kernel⟩
abbrev sLot_size : Stmt := inClass (topS 29) 2
theorem scLot_size : FnScope ["self"] ["self"] (defScope sLot_size) := ⟨rfl, rfl, rfl, by decide +kernel, rfl, by decide +kernel, by decide +kernel⟩
abbrev sLot_readings : Stmt := inClass (topS 29) 3
theorem scLot_readings : FnScope ["self"] ["self"] (defScope sLot_readings) := ⟨rfl, rfl, rfl, by decide +kernel, rfl, by decide +kernel, by decide +kernel⟩
abbrev sLot_times_of : Stmt := inClass (topS 29) 4
theorem scLot_times_of : FnScope ["self", "text"] ["self", "text"] (defScope sLot_times_of) := ⟨rfl, rfl, rfl, by decide +kernel, rfl, by decide +kernel, by decide +kernel⟩
abbrev sLot_pieces : Stmt := inClass (topS 29) 5
theorem scLot_pieces : FnScope ["self"] ["self"] (defScope sLot_pieces) := ⟨rfl, rfl, rfl, by decide +kernel, rfl, by decide +kernel, by decide +kernel⟩
abbrev sLot_solid : Stmt := inClass (topS 29) 6
theorem scLot_solid : FnScope ["self", "least"] ["self", "least"] (defScope sLot_solid) := ⟨rfl, rfl, rfl, by decide +kernel, rfl, by decide +kernel, by decide +kernel⟩
structure Bs (mg : Str → Option Value) : Prop where
  isinstance : mg "isinstance" = none
  int : mg "int" = none
  bool : mg "bool" = none
  str : mg "str" = none
  list : mg "list" = none
  tuple : mg "tuple" = none
  len : mg "len" = none
  range : mg "range" = none
  abs : mg "abs" = none
  max : mg "max" = none
  divmod : mg "divmod" = none
  sorted : mg "sorted" = none
  dict : mg "dict" = none
  all : mg "all" = none
  enumerate : mg "enumerate" = none
structure Glo (mg : Str → Option Value) : Prop where
  MOST_READINGS : ∃ t, mg "MOST_READINGS" = some (.int 60 t)
  MOST_LETTERS : ∃ t, mg "MOST_LETTERS" = some (.int 400 t)
  MOST_TIMES : ∃ t, mg "MOST_TIMES" = some (.int 1200 t)
  MOST_DIGITS : ∃ t, mg "MOST_DIGITS" = some (.int 4 t)
  EMPTY : ∃ t, mg "EMPTY" = some (.str (Str.ofString "-") t)
structure WebK (K : PySem.W.Frag) (mg : Str → Option Value) (C : Addr) : Prop where
  cl : Cls K C
  nS : NoAttr K C "_size"
  nT : NoAttr K C "_told"
  mgC : mg "Lot" = some (.ref C)
  i1 : PySem.W.findIn K (.ref C) "__class__" = some (some (.builtin "object.__class__"))
  i2 : PySem.W.specialIn K (.builtin "object.__class__") "__get__" = some (some (.builtin "getset_descriptor.__get__"))
  i3 : PySem.W.takesIn K (.builtin "object.__class__") = some true
  i4 : PySem.W.mroIn K C (.type "object") = some true
  i5 : PySem.W.kitOne K (.ref C) (.ref C) = some true
  ne : PySem.W.findIn K (.ref C) "__ne__" = some (some (.builtin "object.__ne__"))
abbrev iv (L : List Nat) : List V := L.map fun n : Nat => V.int (n : Int)
theorem same_new {H : Hp} {p : Addr} (h : H p = none) (o : HO) : Same H (upd H p o) := fun b u q => by rw [upd_ne (ne_of_none q h)]; exact q
theorem iteNo {c A B : Prop} [Decidable c] (h : ¬ c) (b : B) : if decide c = true then A else B := by
  rw [decide_eq_false h]
  exact iteF b
theorem iteNot {c A B : Prop} [Decidable c] (h : ¬ c) (a : A) : if (!decide c) = true then A else B := by
  rw [decide_eq_false h]
  exact iteT a
theorem iteNot' {c A B : Prop} [Decidable c] (h : c) (b : B) : if (!decide c) = true then A else B := by
  rw [decide_eq_true h]
  exact iteF b
theorem iteNN {c A B : Prop} [Decidable c] (h : ¬ c) (b : B) : if (!!decide c) = true then A else B := by
  rw [decide_eq_false h]
  exact iteF b
theorem iv_at {L : List Nat} {j b : Nat} (h : L[j]? = some b) : atI (iv L) (j : Int) = some (.int (b : Int)) := by
  refine atI_nat ?_
  rw [iv, List.getElem?_map, h]
  rfl
theorem iv_app (L : List Nat) (n : Nat) : iv (L ++ [n]) = iv L ++ [V.int (n : Int)] := by
  unfold iv
  rw [List.map_append]
  rfl
theorem same_upd {H H' : Hp} {p : Addr} {o : HO} (h : Same H H') (np : H p = none) : Same H (upd H' p o) := fun b u q => by
  rw [upd_ne (ne_of_none q np)]
  exact h b u q
theorem iteYes {c A B : Prop} [Decidable c] (h : c) (a : A) : if decide c = true then A else B := by
  rw [decide_eq_true h]
  exact iteT a
theorem bl_true {c : Prop} [Decidable c] {Q : VK} {H : Hp} (h : c) (q : Q (.bl true) H) : Q (.bl (decide c)) H := by
  rw [decide_eq_true h]
  exact q
theorem int_eq {a b : Int} : V.int a = V.int b ↔ a = b := ⟨fun h => V.int.inj h, fun h => by rw [h]⟩
/-! ### lists of ints compared -/
abbrev iz (L : List Int) : List V := L.map V.int
theorem iv_iz (L : List Nat) : iv L = iz (L.map fun n : Nat => (n : Int)) := by
  unfold iv iz
  rw [List.map_map]
  rfl
abbrev dz (L : List Int) : PyData := .list (L.map PyData.int)
theorem dpAll_iz {K : PySem.W.Frag} {H : Hp} : ∀ L : List Int, DpAll K H (iz L) (L.map PyData.int)
  | [] => .nil
  | n :: r => .cons (.int n) (dpAll_iz r)
theorem dp_iz {K : PySem.W.Frag} {H : Hp} {p : Addr} {L : List Int} (h : H p = some (.lst (iz L))) : Dp K H (.ref p) (dz L) := .lst (SqL.of h) (dpAll_iz L)
theorem layAll_iz : ∀ L : List Int, PyData.canLayAll0 (L.map PyData.int) = true
  | [] => rfl
  | n :: r => by
    show (PyData.canLay0 (.int n) && PyData.canLayAll0 (r.map PyData.int)) = true
    rw [layAll_iz r]
    rfl
theorem depthAll_iz : ∀ L : List Int, PyData.depthAll (L.map PyData.int) = 0
  | [] => rfl
  | n :: r => by
    show max (PyData.depth (.int n)) (PyData.depthAll (r.map PyData.int)) = 0
    rw [depthAll_iz r]
    rfl
theorem shaped_iz (L : List Int) : SeqAt.shaped (dz L) = true := by
  unfold SeqAt.shaped
  have h1 : PyData.canLay0 (dz L) = true := by
    show PyData.canLay0 (.list (L.map PyData.int)) = true
    unfold PyData.canLay0
    exact layAll_iz L
  have h2 : PyData.depth (dz L) = 1 := by
    show PyData.depth (.list (L.map PyData.int)) = 1
    unfold PyData.depth
    rw [depthAll_iz]
  rw [h1, h2]
  rfl
theorem eqv_same (L : List Int) : PyData.eqv (dz L) (dz L) = true := by
  have h1 : PyData.canLay0 (dz L) = true := by
    show PyData.canLay0 (.list (L.map PyData.int)) = true
    unfold PyData.canLay0
    exact layAll_iz L
  exact SeqAt.eqv_refl _ h1
theorem eqv_empty (L : List Int) : PyData.eqv (dz L) (dz []) = decide (L = []) := by
  cases L with
  | nil => rfl
  | cons n r => rfl
theorem iteNb {x : Bool} {A B : Prop} (h : x = true) (b : B) : if (!x) = true then A else B := by
  rw [h]
  exact iteF b
theorem bl_is {x : Bool} {Q : VK} {H : Hp} (h : x = true) (q : Q (.bl true) H) : Q (.bl x) H := by
  rw [h]
  exact q
def Kept (a : Addr) (H H' : Hp) : Prop := ∀ b o, H b = some o → b ≠ a → H' b = some o
theorem Kept.trans {a : Addr} {H H1 H2 : Hp} (h : Kept a H H1) (h2 : Kept a H1 H2) : Kept a H H2 := fun b o e n => h2 b o (h b o e n) n
theorem Same.kept {a : Addr} {H H' : Hp} (h : Same H H') : Kept a H H' := fun b o e _ => h b o e
theorem paired_get {α β : Type} {F : α → β → Prop} : ∀ {l1 : List α} {l2 : List β} {i : Nat} {a : α}, Paired F l1 l2 → l1[i]? = some a → ∃ b, l2[i]? = some b ∧ F a b
  | _, _, _, _, .nil, h => by simp at h
  | _, _, 0, _, .cons r _, h => ⟨_, rfl, by cases h; exact r⟩
  | _, _, i + 1, _, .cons _ t, h => by
    obtain ⟨b, h1, h2⟩ := paired_get (i := i) t (by simpa using h)
    exact ⟨b, by simpa using h1, h2⟩
theorem paired_mono {α β : Type} {F G : α → β → Prop} (h : ∀ a b, F a b → G a b) : ∀ {l1 : List α} {l2 : List β}, Paired F l1 l2 → Paired G l1 l2
  | _, _, .nil => .nil
  | _, _, .cons a r => .cons (h _ _ a) (paired_mono h r)
theorem paired_len {α β : Type} {F : α → β → Prop} : ∀ {l1 : List α} {l2 : List β}, Paired F l1 l2 → l1.length = l2.length
  | _, _, .nil => rfl
  | _, _, .cons _ r => congrArg Nat.succ (paired_len r)
/-! ### lots as lists of texts with numbers -/
def getT (D : List (Str × Int)) (x : Str) : Int := ((D.find? fun e => decide (e.1 = x)).map (·.2)).getD 0
def addT : List (Str × Int) → Str → Int → List (Str × Int)
  | [], x, n => [(x, n)]
  | e :: r, x, n => if e.1 = x then (e.1, e.2 + n) :: r else e :: addT r x n
theorem addT_keys (x : Str) (n : Int) : ∀ D : List (Str × Int), (addT D x n).map Prod.fst = if x ∈ D.map Prod.fst then D.map Prod.fst else D.map Prod.fst ++ [x]
  | [] => rfl
  | e :: r => by
    have ih := addT_keys x n r
    unfold addT
    by_cases h : e.1 = x
    · rw [if_pos h, List.map_cons, List.map_cons, if_pos (by rw [h]; exact List.mem_cons_self)]
    · have hx : ¬ x = e.1 := fun z => h z.symm
      rw [if_neg h, List.map_cons, List.map_cons, ih]
      by_cases k : x ∈ r.map Prod.fst
      · rw [if_pos k, if_pos (List.mem_cons_of_mem _ k)]
      · rw [if_neg k, if_neg (by simp only [List.mem_cons]; rintro (z | z); exact hx z; exact k z)]
        rfl
theorem addT_nodup {x : Str} {n : Int} {D : List (Str × Int)} (h : (D.map Prod.fst).Nodup) : ((addT D x n).map Prod.fst).Nodup := by
  rw [addT_keys]
  split
  · exact h
  · rename_i c
    rw [List.nodup_append]
    exact ⟨h, by simp, fun a ha b hb => by rw [List.mem_singleton.mp hb]; rintro rfl; exact c ha⟩
theorem addT_mem {x y : Str} {n : Int} {D : List (Str × Int)} : y ∈ (addT D x n).map Prod.fst ↔ y ∈ D.map Prod.fst ∨ y = x := by
  rw [addT_keys]
  split
  · rename_i c
    exact ⟨.inl, fun h => h.elim id fun z => by rw [z]; exact c⟩
  · rw [List.mem_append, List.mem_singleton]
theorem addT_get (x y : Str) (n : Int) : ∀ D : List (Str × Int), getT (addT D x n) y = if y = x then getT D x + n else getT D y
  | [] => by
    unfold addT getT
    by_cases h : x = y
    · simp [h]
    · have h2 : ¬ y = x := fun z => h z.symm
      simp [h, h2]
  | e :: r => by
    have ih := addT_get x y n r
    unfold addT
    by_cases h : e.1 = x
    · rw [if_pos h]
      by_cases k : y = x
      · subst k
        simp [getT, h]
      · have k2 : ¬ e.1 = y := fun z => k (by rw [← z, h])
        rw [if_neg k]
        simp [getT, List.find?_cons, k2]
    · rw [if_neg h]
      by_cases k : e.1 = y
      · have k2 : ¬ y = x := fun z => h (by rw [k, z])
        rw [if_neg k2]
        simp [getT, List.find?_cons, k]
      · have s1 : getT (e :: addT r x n) y = getT (addT r x n) y := by simp [getT, List.find?_cons, k]
        have s2 : getT (e :: r) y = getT r y := by simp [getT, List.find?_cons, k]
        have s3 : getT (e :: r) x = getT r x := by simp [getT, List.find?_cons, h]
        rw [s1, s2, s3]
        exact ih
theorem addT_len (x : Str) (n : Int) (D : List (Str × Int)) : (addT D x n).length ≤ D.length + 1 := by
  have := congrArg List.length (addT_keys x n D)
  rw [List.length_map] at this
  rw [this]
  split
  · rw [List.length_map]; omega
  · rw [List.length_append, List.length_map]; simp
/-- the dict by texts -/
abbrev dT (D : List (Str × Int)) : List (Key × V) := D.map entSI
theorem dT_val (x : Str) : ∀ D : List (Str × Int), valV (dT D) (Sum.inr x : Key) = (D.find? fun e => decide (e.1 = x)).map fun e => V.int e.2
  | [] => rfl
  | e :: r => by
    have ih := dT_val x r
    by_cases h : e.1 = x
    · rw [show dT (e :: r) = entSI e :: dT r from rfl, valV_pos (by show (Sum.inr e.1 : Key) = _; rw [h]), List.find?_cons_of_pos (by simpa using h)]
      rfl
    · rw [show dT (e :: r) = entSI e :: dT r from rfl, valV_neg (fun z => h (Sum.inr.inj z)), List.find?_cons_of_neg (by simpa using h)]
      exact ih
theorem dT_getD (x : Str) (D : List (Str × Int)) : (valV (dT D) (Sum.inr x : Key)).getD (.int 0) = .int (getT D x) := by
  rw [dT_val]
  unfold getT
  cases D.find? fun e => decide (e.1 = x) with
  | none => rfl
  | some e => rfl
theorem dT_put {x : Str} {n : Int} : ∀ {D : List (Str × Int)}, (D.map Prod.fst).Nodup → putK (dT D) (Sum.inr x : Key) (.int (getT D x + n)) = dT (addT D x n)
  | [], _ => by
    show putK [] _ _ = _
    rw [putK_new _ rfl]
    simp [getT, addT]
  | e :: r, hn => by
    have hn' := List.nodup_cons.mp (by simpa using hn : (e.1 :: r.map Prod.fst).Nodup)
    by_cases h : e.1 = x
    · subst h
      have hg : getT (e :: r) e.1 = e.2 := by simp [getT]
      have hz : valV (dT (e :: r)) (Sum.inr e.1 : Key) = some (.int e.2) := by rw [dT_val]; simp
      unfold putK
      rw [valV_any, hz, Option.isSome_some, if_pos rfl, hg]
      show (_ :: _) = _
      unfold addT
      rw [if_pos rfl]
      show _ = entSI (e.1, e.2 + n) :: dT r
      refine congr (congrArg List.cons (by simp [entSI])) ?_
      rw [dT, List.map_map]
      refine List.map_congr_left fun f hf => ?_
      have : ¬ (Sum.inr f.1 : Key) = Sum.inr e.1 := fun z => hn'.1 (by rw [← Sum.inr.inj z]; exact List.mem_map.mpr ⟨f, hf, rfl⟩)
      show (if (Sum.inr f.1 : Key) = Sum.inr e.1 then _ else _) = _
      rw [if_neg this]
    · have ih := dT_put (x := x) (n := n) (D := r) hn'.2
      have hg : getT (e :: r) x = getT r x := by simp [getT, List.find?_cons, h]
      have hk : ¬ (entSI e).1 = (Sum.inr x : Key) := fun z => h (Sum.inr.inj z)
      have hv : valV (dT (e :: r)) (Sum.inr x : Key) = valV (dT r) (Sum.inr x : Key) := valV_neg hk
      have ha : addT (e :: r) x n = e :: addT r x n := by
        show (if e.1 = x then _ else _) = _
        rw [if_neg h]
      rw [hg, ha]
      show putK (dT (e :: r)) _ _ = entSI e :: dT (addT r x n)
      rw [← ih]
      unfold putK
      rw [valV_any, valV_any, hv]
      split
      · show ((if (entSI e).1 = Sum.inr x then _ else _) :: _) = _
        rw [if_neg hk]
      · rfl
/-! ### values of every kind -/
mutual
inductive Vd (H : Hp) : V → PyData → Prop
  | non : Vd H .non .none
  | bl (b : Bool) : Vd H (.bl b) (.bool b)
  | int (i : Int) : Vd H (.int i) (.int i)
  | str (x : Str) (h : x.length ≤ 1000) : Vd H (.str x) (.str x)
  | lst {p : Addr} {vs : List V} {es : List PyData} (h : H p = some (.lst vs)) (k : VdAll H vs es) : Vd H (.ref p) (.list es)
  | tup {p : Addr} {vs : List V} {es : List PyData} (h : H p = some (.tup vs)) (k : VdAll H vs es) : Vd H (.ref p) (.tuple es)
  | emp {p : Addr} (h : H p = some (.dK [])) : Vd H (.ref p) (.dict [])
inductive VdAll (H : Hp) : List V → List PyData → Prop
  | nil : VdAll H [] []
  | cons {v : V} {vs : List V} {e : PyData} {es : List PyData} (h : Vd H v e) (k : VdAll H vs es) : VdAll H (v :: vs) (e :: es)
end
mutual
theorem Vd.same {H H' : Hp} (s : Same H H') : ∀ {v : V} {d : PyData}, Vd H v d → Vd H' v d
  | _, _, .non => .non
  | _, _, .bl b => .bl b
  | _, _, .int i => .int i
  | _, _, .str x h => .str x h
  | _, _, .lst h k => .lst (s _ _ h) (VdAll.same s k)
  | _, _, .tup h k => .tup (s _ _ h) (VdAll.same s k)
  | _, _, .emp h => .emp (s _ _ h)
theorem VdAll.same {H H' : Hp} (s : Same H H') : ∀ {vs : List V} {ds : List PyData}, VdAll H vs ds → VdAll H' vs ds
  | _, _, .nil => .nil
  | _, _, .cons h k => .cons (Vd.same s h) (VdAll.same s k)
end
mutual
theorem Vd.dq {K : PySem.W.Frag} {H : Hp} : ∀ {v : V} {d : PyData}, Vd H v d → Dq K H v d
  | _, _, .non => .non
  | _, _, .bl b => .bl b
  | _, _, .int i => .int i
  | _, _, .str x _ => .str x
  | _, _, .lst h k => .lst (SqL.of h) (VdAll.dq k)
  | _, _, .tup h k => .tup (SqT.of h) (VdAll.dq k)
  | _, _, .emp h => .emp h
theorem VdAll.dq {K : PySem.W.Frag} {H : Hp} : ∀ {vs : List V} {ds : List PyData}, VdAll H vs ds → DqAll K H vs ds
  | _, _, .nil => .nil
  | _, _, .cons h k => .cons (Vd.dq h) (VdAll.dq k)
end
theorem VdAll.len {H : Hp} : ∀ {vs : List V} {ds : List PyData}, VdAll H vs ds → vs.length = ds.length
  | _, _, .nil => rfl
  | _, _, .cons _ k => congrArg (· + 1) (VdAll.len k)
theorem VdAll.at {H : Hp} : ∀ {vs : List V} {ds : List PyData} {i : Nat} {v : V}, VdAll H vs ds → vs[i]? = some v → ∃ d, ds[i]? = some d ∧ Vd H v d
  | _, _, _, _, .nil, e => by cases e
  | _, _, 0, _, .cons h _, e => by cases e; exact ⟨_, rfl, h⟩
  | _, _, i + 1, _, .cons _ k, e => VdAll.at (i := i) k e
def tyD : PyData → String
  | .none => "NoneType"
  | .bool _ => "bool"
  | .int _ => "int"
  | .str _ => "str"
  | .list _ => "list"
  | .tuple _ => "tuple"
  | .dict _ => "dict"
theorem Vd.ty {K : PySem.W.Frag} {H : Hp} {v : V} {d : PyData} (h : Vd H v d) : TyX K H v (.type (tyD d)) := by
  cases h with
  | non => exact .base .non
  | bl b => exact .base (.bl b)
  | int i => exact .base (.int i)
  | str x _ => exact .base (.str x)
  | lst h _ => exact .base (.lst h)
  | tup h _ => exact .base (.tup h)
  | emp h => exact .base (.dK h)
def isI : PyData → Bool | .int _ => true | _ => false
def isT : PyData → Bool | .tuple _ => true | _ => false
def isL : PyData → Bool | .list _ => true | _ => false
def isS : PyData → Bool | .str _ => true | _ => false
def isB : PyData → Bool | .bool _ => true | _ => false
theorem kit_int : ∀ d : PyData, kitB (tyD d) "int" = some (isI d || isB d)
  | .none => (by decide +kernel : kitB "NoneType" "int" = some false)
  | .bool _ => (by decide +kernel : kitB "bool" "int" = some true)
  | .int _ => (by decide +kernel : kitB "int" "int" = some true)
  | .str _ => (by decide +kernel : kitB "str" "int" = some false)
  | .list _ => (by decide +kernel : kitB "list" "int" = some false)
  | .tuple _ => (by decide +kernel : kitB "tuple" "int" = some false)
  | .dict _ => (by decide +kernel : kitB "dict" "int" = some false)
theorem kit_bool : ∀ d : PyData, kitB (tyD d) "bool" = some (isB d)
  | .none => (by decide +kernel : kitB "NoneType" "bool" = some false)
  | .bool _ => (by decide +kernel : kitB "bool" "bool" = some true)
  | .int _ => (by decide +kernel : kitB "int" "bool" = some false)
  | .str _ => (by decide +kernel : kitB "str" "bool" = some false)
  | .list _ => (by decide +kernel : kitB "list" "bool" = some false)
  | .tuple _ => (by decide +kernel : kitB "tuple" "bool" = some false)
  | .dict _ => (by decide +kernel : kitB "dict" "bool" = some false)
theorem kit_str : ∀ d : PyData, kitB (tyD d) "str" = some (isS d)
  | .none => (by decide +kernel : kitB "NoneType" "str" = some false)
  | .bool _ => (by decide +kernel : kitB "bool" "str" = some false)
  | .int _ => (by decide +kernel : kitB "int" "str" = some false)
  | .str _ => (by decide +kernel : kitB "str" "str" = some true)
  | .list _ => (by decide +kernel : kitB "list" "str" = some false)
  | .tuple _ => (by decide +kernel : kitB "tuple" "str" = some false)
  | .dict _ => (by decide +kernel : kitB "dict" "str" = some false)
theorem kit_tup : ∀ d : PyData, kitB (tyD d) "tuple" = some (isT d)
  | .none => (by decide +kernel : kitB "NoneType" "tuple" = some false)
  | .bool _ => (by decide +kernel : kitB "bool" "tuple" = some false)
  | .int _ => (by decide +kernel : kitB "int" "tuple" = some false)
  | .str _ => (by decide +kernel : kitB "str" "tuple" = some false)
  | .list _ => (by decide +kernel : kitB "list" "tuple" = some false)
  | .tuple _ => (by decide +kernel : kitB "tuple" "tuple" = some true)
  | .dict _ => (by decide +kernel : kitB "dict" "tuple" = some false)
theorem kit_lst : ∀ d : PyData, kitB (tyD d) "list" = some (isL d)
  | .none => (by decide +kernel : kitB "NoneType" "list" = some false)
  | .bool _ => (by decide +kernel : kitB "bool" "list" = some false)
  | .int _ => (by decide +kernel : kitB "int" "list" = some false)
  | .str _ => (by decide +kernel : kitB "str" "list" = some false)
  | .list _ => (by decide +kernel : kitB "list" "list" = some true)
  | .tuple _ => (by decide +kernel : kitB "tuple" "list" = some false)
  | .dict _ => (by decide +kernel : kitB "dict" "list" = some false)
theorem iteB {b : Bool} {A B : Prop} (h1 : b = true → A) (h2 : b = false → B) : if b = true then A else B := by
  cases b with
  | true => exact iteT (h1 rfl)
  | false => exact iteF (h2 rfl)
section
variable {P : Program} {w : World} {K : PySem.W.Frag} {mg : Str → Option Value} {base : Heap} {C CE CP : Addr}
def spis_integer (_ : PySem.W.Frag) (_ _ : Addr) : Sp := fun vs H Q _ => ∃ v d, vs = [v] ∧ Vd H v d ∧ Q (.bl (isI d)) H
theorem okis_integer (D : Def K mg "is_integer" sis_integer ["value"]) (B : Bs mg) (Glb : Glo mg) (WK : WebK K mg C) (EXBadText : ExcF P w K mg base "line" "BadText" CE) (EXe : PySem.W.exmOne K (.ref CE) (.ref CE) = some true) (kL : PySem.W.kitOne K (.ref C) (.type "list") = some false) (PX : PErr K mg CE CP) :
    Good P w K mg base "is_integer" sis_integer ["value"] 1 (spis_integer K C CE) := by
  refine D.good fun f fd F => ?_
  refine F.ok scis_integer (fun vs H Q E h => ?_) (fun cdv A outer s H vs Q E hr h => ?_)
  · obtain ⟨v, d, rfl, hv, q⟩ := h
    first | rfl | (rcases h with ⟨_, _, rfl, _⟩ | ⟨_, rfl, _⟩ <;> rfl)
  obtain ⟨v, d, rfl, hv, q⟩ := h
  refine ⟨_, (pss_one (ps_ret (pe_and (pe_callB call_isi (by rfl) B.isinstance (by decide +kernel) (pa_cons (pv 0) (pa_cons (pe_bltn (v := .ty "int") (by rfl) B.int (by decide +kernel) rfl) pa_nil))) (pe_one (pe_not (pe_callB call_isi (by rfl) B.isinstance (by decide +kernel) (pa_cons (pv 0) (pa_cons (pe_bltn (v := .ty "bool") (by rfl) B.bool (by decide +kernel) rfl) pa_nil)))))))), ?_⟩
  refine ⟨_, rfl, _, _, _, _, _, rfl, .ty _, hv.ty, kit_ty (kit_int d), _, rfl, iteB (fun h1 => ⟨_, rfl, _, _, _, _, _, rfl, .ty _, hv.ty, kit_ty (kit_bool d), _, rfl, ?_⟩) fun h1 => ?_⟩
  · cases d <;> first | exact q | cases h1
  · cases d <;> first | exact q | cases h1
def spis_between (_ : PySem.W.Frag) (_ _ : Addr) : Sp := fun vs H Q _ => ∃ v d, ∃ a b : Int, vs = [v, .int a, .int b] ∧ Vd H v d ∧ Q (.bl (match d with | .int n => decide (a ≤ n) && decide (n ≤ b) | _ => false)) H
theorem okis_between (D : Def K mg "is_between" sis_between ["value", "least", "most"]) (B : Bs mg) (Glb : Glo mg) (WK : WebK K mg C) (EXBadText : ExcF P w K mg base "line" "BadText" CE) (EXe : PySem.W.exmOne K (.ref CE) (.ref CE) = some true) (kL : PySem.W.kitOne K (.ref C) (.type "list") = some false) (PX : PErr K mg CE CP)
    (his_integer : Good P w K mg base "is_integer" sis_integer ["value"] 1 (spis_integer K C CE)) :
    Good P w K mg base "is_between" sis_between ["value", "least", "most"] 2 (spis_between K C CE) := by
  refine D.good fun f fd F => ?_
  obtain ⟨fis_integer, dis_integer, Ois_integer, mis_integer, kis_integer, bis_integer, Fis_integer⟩ := his_integer
  refine F.ok scis_between (fun vs H Q E h => ?_) (fun cdv A outer s H vs Q E hr h => ?_)
  · obtain ⟨v, d, a, b, rfl, hv, q⟩ := h
    first | rfl | (rcases h with ⟨_, _, rfl, _⟩ | ⟨_, rfl, _⟩ <;> rfl)
  obtain ⟨v, d, a, b, rfl, hv, q⟩ := h
  refine ⟨_, (pss_one (ps_ret (pe_and (pe_call Ois_integer hr rfl mis_integer kis_integer bis_integer .nil pass0 (pa_cons (pv 0) pa_nil)) (pe_one (pe_chain op_le op_le (pv 1) (pv 0) (pv 2)))))), ?_⟩
  refine ⟨_, rfl, v, d, rfl, hv, _, rfl, iteB (fun h1 => ?_) fun h1 => ?_⟩
  · cases hv <;> first | cases h1 | skip
    rename_i n
    refine ⟨_, rfl, _, rfl, _, _, rfl, rfl, _, rfl, ?_⟩
    by_cases h : a ≤ n
    · rw [show (match PyData.int n with | .int n => decide (a ≤ n) && decide (n ≤ b) | _ => false) = decide (n ≤ b) by show (decide (a ≤ n) && decide (n ≤ b)) = _; rw [decide_eq_true h, Bool.true_and]] at q
      exact iteYes h ⟨_, rfl, _, _, rfl, rfl, q⟩
    · rw [show (match PyData.int n with | .int n => decide (a ≤ n) && decide (n ≤ b) | _ => false) = false by show (decide (a ≤ n) && decide (n ≤ b)) = _; rw [decide_eq_false h, Bool.false_and]] at q
      exact iteNo h q
  · cases d <;> first | exact q | cases h1
def spis_size (_ : PySem.W.Frag) (_ _ : Addr) : Sp := fun vs H Q _ => ∃ v d, vs = [v] ∧ Vd H v d ∧ Q (.bl (match d with | .int n => decide (2 ≤ n) && decide (n ≤ 8) | _ => false)) H
theorem okis_size (D : Def K mg "is_size" sis_size ["value"]) (B : Bs mg) (Glb : Glo mg) (WK : WebK K mg C) (EXBadText : ExcF P w K mg base "line" "BadText" CE) (EXe : PySem.W.exmOne K (.ref CE) (.ref CE) = some true) (kL : PySem.W.kitOne K (.ref C) (.type "list") = some false) (PX : PErr K mg CE CP)
    (his_between : Good P w K mg base "is_between" sis_between ["value", "least", "most"] 2 (spis_between K C CE)) :
    Good P w K mg base "is_size" sis_size ["value"] 3 (spis_size K C CE) := by
  refine D.good fun f fd F => ?_
  obtain ⟨fis_between, dis_between, Ois_between, mis_between, kis_between, bis_between, Fis_between⟩ := his_between
  refine F.ok scis_size (fun vs H Q E h => ?_) (fun cdv A outer s H vs Q E hr h => ?_)
  · obtain ⟨v, d, rfl, hv, q⟩ := h
    first | rfl | (rcases h with ⟨_, _, rfl, _⟩ | ⟨_, rfl, _⟩ <;> rfl)
  obtain ⟨v, d, rfl, hv, q⟩ := h
  refine ⟨_, (pss_one (ps_ret (pe_call Ois_between hr rfl mis_between kis_between bis_between .nil pass0 (pa_cons (pv 0) (pa_cons pe_int (pa_cons pe_int pa_nil)))))), ?_⟩
  exact ⟨_, rfl, v, d, 2, 8, rfl, hv, q⟩
def spneed_size (_ : PySem.W.Frag) (_ _ : Addr) : Sp := fun vs H Q _ => ∃ n : Int, vs = [.int n] ∧ 2 ≤ n ∧ n ≤ 8 ∧ Q .non H
theorem okneed_size (D : Def K mg "need_size" sneed_size ["size"]) (B : Bs mg) (Glb : Glo mg) (WK : WebK K mg C) (EXBadText : ExcF P w K mg base "line" "BadText" CE) (EXe : PySem.W.exmOne K (.ref CE) (.ref CE) = some true) (kL : PySem.W.kitOne K (.ref C) (.type "list") = some false) (PX : PErr K mg CE CP)
    (his_size : Good P w K mg base "is_size" sis_size ["value"] 3 (spis_size K C CE)) :
    Good P w K mg base "need_size" sneed_size ["size"] 4 (spneed_size K C CE) := by
  refine D.good fun f fd F => ?_
  obtain ⟨fis_size, dis_size, Ois_size, mis_size, kis_size, bis_size, Fis_size⟩ := his_size
  refine F.ok scneed_size (fun vs H Q E h => ?_) (fun cdv A outer s H vs Q E hr h => ?_)
  · obtain ⟨n, rfl, h1, h2, q⟩ := h
    first | rfl | (rcases h with ⟨_, _, rfl, _⟩ | ⟨_, rfl, _⟩ <;> rfl)
  obtain ⟨n, rfl, h1, h2, q⟩ := h
  refine ⟨_, (pss_one (ps_if (pt_not (pt_val (pe_call Ois_size hr rfl mis_size kis_size bis_size .nil pass0 (pa_cons (pv 0) pa_nil))))
    (pss_one ps_never) pss_nil)), ?_⟩
  refine ⟨_, rfl, _, _, rfl, .int n, _, rfl, ?_⟩
  show if (!(decide (2 ≤ n) && decide (n ≤ 8))) = true then _ else _
  rw [decide_eq_true h1, decide_eq_true h2]
  exact iteF q
def isTm (d : PyData) : Bool := match d with | .int n => decide (1 ≤ n) && decide (n ≤ 20) | _ => false
def spis_times (_ : PySem.W.Frag) (_ _ : Addr) : Sp := fun vs H Q _ => ∃ v d, vs = [v] ∧ Vd H v d ∧ Q (.bl (isTm d)) H
theorem okis_times (D : Def K mg "is_times" sis_times ["value"]) (B : Bs mg) (Glb : Glo mg) (WK : WebK K mg C) (EXBadText : ExcF P w K mg base "line" "BadText" CE) (EXe : PySem.W.exmOne K (.ref CE) (.ref CE) = some true) (kL : PySem.W.kitOne K (.ref C) (.type "list") = some false) (PX : PErr K mg CE CP)
    (his_between : Good P w K mg base "is_between" sis_between ["value", "least", "most"] 2 (spis_between K C CE)) :
    Good P w K mg base "is_times" sis_times ["value"] 3 (spis_times K C CE) := by
  refine D.good fun f fd F => ?_
  obtain ⟨fis_between, dis_between, Ois_between, mis_between, kis_between, bis_between, Fis_between⟩ := his_between
  refine F.ok scis_times (fun vs H Q E h => ?_) (fun cdv A outer s H vs Q E hr h => ?_)
  · obtain ⟨v, d, rfl, hv, q⟩ := h
    first | rfl | (rcases h with ⟨_, _, rfl, _⟩ | ⟨_, rfl, _⟩ <;> rfl)
  obtain ⟨v, d, rfl, hv, q⟩ := h
  refine ⟨_, (pss_one (ps_ret (pe_call Ois_between hr rfl mis_between kis_between bis_between .nil pass0 (pa_cons (pv 0) (pa_cons pe_int (pa_cons pe_int pa_nil)))))), ?_⟩
  exact ⟨_, rfl, v, d, 1, 20, rfl, hv, q⟩
def spis_listed (_ : PySem.W.Frag) (_ _ : Addr) : Sp := fun vs H Q _ => ∃ v d, vs = [v] ∧ Vd H v d ∧ ∀ H', Same H H' → Q (.bl (isL d || isT d)) H'
theorem okis_listed (D : Def K mg "is_listed" sis_listed ["value"]) (B : Bs mg) (Glb : Glo mg) (WK : WebK K mg C) (EXBadText : ExcF P w K mg base "line" "BadText" CE) (EXe : PySem.W.exmOne K (.ref CE) (.ref CE) = some true) (kL : PySem.W.kitOne K (.ref C) (.type "list") = some false) (PX : PErr K mg CE CP) :
    Good P w K mg base "is_listed" sis_listed ["value"] 1 (spis_listed K C CE) := by
  refine D.good fun f fd F => ?_
  refine F.ok scis_listed (fun vs H Q E h => ?_) (fun cdv A outer s H vs Q E hr h => ?_)
  · obtain ⟨v, d, rfl, hv, q⟩ := h
    first | rfl | (rcases h with ⟨_, _, rfl, _⟩ | ⟨_, rfl, _⟩ <;> rfl)
  obtain ⟨v, d, rfl, hv, q⟩ := h
  refine ⟨_, (pss_one (ps_ret (pe_callB call_isiT (by rfl) B.isinstance (by decide +kernel) (pa_cons (pv 0) (pa_cons (pe_tup (pa_cons (pe_bltn (v := .ty "list") (by rfl) B.list (by decide +kernel) rfl) (pa_cons (pe_bltn (v := .ty "tuple") (by rfl) B.tuple (by decide +kernel) rfl) pa_nil))) pa_nil))))), ?_⟩
  refine ⟨_, rfl, (by show 2 ≤ sizeLine; decide), fun tp ntp => ?_⟩
  refine ⟨_, tp, [.ty "list", .ty "tuple"], _, [.type "list", .type "tuple"], isL d || isT d, rfl, upd_same, .cons (.ty _) (.cons (.ty _) .nil), (hv.same (same_new ntp _)).ty, ?_, q _ (same_new ntp _)⟩
  refine kitAny_cons (b := isL d) (kit_ty (kit_lst d)) (fun h => ?_) (fun h => ?_)
  · rw [h, Bool.false_or]
    refine kitAny_cons (b := isT d) (kit_ty (kit_tup d)) (fun h2 => ?_) (fun h2 => ?_)
    · rw [h2]; exact kitAny_nil
    · exact h2
  · rw [h]; rfl
end
end My
set_option maxHeartbeats 4000000
namespace My
open PySem L2 PyProof.Rows
theorem of_a : Str.ofString "a" = ⟨#[97]⟩ := by decide +kernel
theorem of_z : Str.ofString "z" = ⟨#[122]⟩ := by decide +kernel
theorem lt_one {a b : Nat} : (⟨#[a]⟩ : Str).cps.toList < (⟨#[b]⟩ : Str).cps.toList ↔ a < b := by
  show [a] < [b] ↔ _
  rw [List.cons_lt_cons_iff]
  constructor
  · rintro (z | ⟨_, z⟩)
    · exact z
    · exact absurd z (List.lt_irrefl [])
  · exact .inl
theorem line1000 {n : Nat} (h : n ≤ 1000) : n ≤ sizeLine := Nat.le_trans h (by decide)
def isTx (d : PyData) : Bool := match d with | .str x => decide (x.length ≤ 400) && x.cps.toList.all isA | _ => false
/-- a reading -/
def isOne (d : PyData) : Bool := match d with | .tuple [a, b] => isTx a && isTm b | _ => false
/-- readings -/
def areR (d : PyData) : Bool := match d with | .list es => decide (es.length ≤ 60) && es.all isOne | .tuple es => decide (es.length ≤ 60) && es.all isOne | _ => false
theorem iteNB {b : Bool} {A B : Prop} (h1 : b = false → A) (h2 : b = true → B) : if (!b) = true then A else B := by
  cases b with
  | true => exact iteF (h2 rfl)
  | false => exact iteT (h1 rfl)
section
variable {P : Program} {w : World} {K : PySem.W.Frag} {mg : Str → Option Value} {base : Heap} {C CE CP : Addr}
def spis_letter (_ : PySem.W.Frag) (_ _ : Addr) : Sp := fun vs H Q _ => ∃ c : Nat, vs = [.str ⟨#[c]⟩] ∧ Q (.bl (isA c)) H
theorem okis_letter (D : Def K mg "is_letter" sis_letter ["sign"]) (B : Bs mg) (Glb : Glo mg) (WK : WebK K mg C) (EXBadText : ExcF P w K mg base "line" "BadText" CE) (EXe : PySem.W.exmOne K (.ref CE) (.ref CE) = some true) (kL : PySem.W.kitOne K (.ref C) (.type "list") = some false) (PX : PErr K mg CE CP) :
    Good P w K mg base "is_letter" sis_letter ["sign"] 1 (spis_letter K C CE) := by
  refine D.good fun f fd F => ?_
  refine F.ok scis_letter (fun vs H Q E h => ?_) (fun cdv A outer s H vs Q E hr h => ?_)
  · obtain ⟨c, rfl, q⟩ := h
    first | rfl | (rcases h with ⟨_, _, rfl, _⟩ | ⟨_, rfl, _⟩ <;> rfl)
  obtain ⟨c, rfl, q⟩ := h
  refine ⟨_, (pss_one (ps_ret (pe_chain op_le_str op_le_str pe_str (pv 0) pe_str))), ?_⟩
  refine ⟨_, rfl, _, _, rfl, rfl, _, rfl, ?_⟩
  rw [of_a]
  by_cases h : 97 ≤ c
  · refine iteNot (fun z => by have := lt_one.mp z; omega) ⟨_, _, rfl, rfl, ?_⟩
    rw [of_z]
    have e : isA c = !decide ((⟨#[122]⟩ : Str).cps.toList < (⟨#[c]⟩ : Str).cps.toList) := by
      unfold isA
      rw [decide_eq_true h, Bool.true_and]
      by_cases k : c ≤ 122
      · rw [decide_eq_true k, decide_eq_false (fun z => by have := lt_one.mp z; omega)]
        rfl
      · rw [decide_eq_false k, decide_eq_true (lt_one.mpr (by omega))]
        rfl
    rw [e] at q
    exact q
  · have e : isA c = false := by
      unfold isA
      rw [decide_eq_false h, Bool.false_and]
    rw [e] at q
    exact iteNot' (lt_one.mpr (by omega)) q
def spis_text (_ : PySem.W.Frag) (_ _ : Addr) : Sp := fun vs H Q _ => ∃ v d, vs = [v] ∧ Vd H v d ∧ Q (.bl (isTx d)) H
theorem okis_text (D : Def K mg "is_text" sis_text ["value"]) (B : Bs mg) (Glb : Glo mg) (WK : WebK K mg C) (EXBadText : ExcF P w K mg base "line" "BadText" CE) (EXe : PySem.W.exmOne K (.ref CE) (.ref CE) = some true) (kL : PySem.W.kitOne K (.ref C) (.type "list") = some false) (PX : PErr K mg CE CP)
    (his_letter : Good P w K mg base "is_letter" sis_letter ["sign"] 1 (spis_letter K C CE)) :
    Good P w K mg base "is_text" sis_text ["value"] 2 (spis_text K C CE) := by
  refine D.good fun f fd F => ?_
  obtain ⟨fis_letter, dis_letter, Ois_letter, mis_letter, kis_letter, bis_letter, Fis_letter⟩ := his_letter
  refine F.ok scis_text (fun vs H Q E h => ?_) (fun cdv A outer s H vs Q E hr h => ?_)
  · obtain ⟨v, d, rfl, hv, q⟩ := h
    first | rfl | (rcases h with ⟨_, _, rfl, _⟩ | ⟨_, rfl, _⟩ <;> rfl)
  obtain ⟨v, d, rfl, hv, q⟩ := h
  refine ⟨_, (pss_cons (ps_if (PW.pt (pw_or (pt_not (pt_val (pe_callB call_isi (by rfl) B.isinstance (by decide +kernel) (pa_cons (pv 0) (pa_cons (pe_bltn (v := .ty "str") (by rfl) B.str (by decide +kernel) rfl) pa_nil))))) (pw_or1 (pt_cmpR op_gt (pe_callB call_len_str (by rfl) B.len (by decide +kernel) (pa_cons (pv 0) pa_nil)) (pe_globI Glb.MOST_LETTERS) (nomark _)))))
    (pss_one (ps_ret pe_bl)) pss_nil)
  (pss_one (ps_ret (pe_drop (pe_callB (cr_all rfl) (by rfl) B.all (by decide +kernel) (pa_cons (pe_lc (own := [("sign", 1)]) (g := gName 1) (by rfl) scis_text.nd (pi_str (pv 0)) (blkOk_by (own := [("sign", 1)]) (N := ["value", "sign"]) (sc := defScope sis_text) (by decide +kernel)) (fun _ _ _ _ _ => (pg_name (i := 1) scis_text.nd rfl (by first | exact Or.inl rfl | exact Or.inr rfl))) (fun _ _ _ _ _ => pts_nil) (fun _ _ _ _ _ => (pe_call Ois_letter hr rfl mis_letter kis_letter bis_letter .nil pass0 (pa_cons (pv 1) pa_nil)))) pa_nil)))))), ?_⟩
  refine ⟨_, rfl, _, _, _, _, _, rfl, .ty _, hv.ty, kit_ty (kit_str d), _, rfl, iteNB (fun h1 => ?_) (fun h1 => ?_)⟩
  · cases d <;> first | exact q | cases h1
  · cases hv <;> first | cases h1 | skip
    rename_i x hx
    refine ⟨_, rfl, _, rfl, line1000 hx, _, _, rfl, rfl, _, rfl, ?_⟩
    by_cases h : x.length ≤ 400
    · refine iteNo (by omega) ?_
      have e : isTx (.str x) = x.cps.toList.all isA := by
        show (decide (x.length ≤ 400) && _) = _
        rw [decide_eq_true h, Bool.true_and]
      rw [e] at q
      refine ⟨_, rfl, _, rfl, fun D nD => lc_it walk_str (fun i H' => H' = upd H D (.lst (((x.cps.toList.take i).map isA).map V.bl))) rfl (fun _ _ _ _ => trivial) ?_ ?_⟩
      · rintro i y H1 H2 hi rfl ⟨rfl, c, hc, rfl⟩
        have hm : x.cps.toList[i]? = some c := by simpa using hc
        refine ⟨rfl, _, rfl, c, rfl, _, upd_same, ?_, ?_⟩
        · rw [List.length_map, List.length_map, List.length_take]
          exact Nat.lt_of_lt_of_le (by have hi2 : i < x.length := hi; omega : min i x.cps.toList.length < 1000) (by decide)
        · rw [upd_upd, List.take_succ, hm, List.map_append, List.map_append]
          rfl
      · rintro H1 rfl
        refine ⟨D, _, rfl, SqL.of upd_same, D, _, H, rfl, nD, ?_⟩
        rw [show (((x.cps.toList.take x.cps.size).map isA).all id) = x.cps.toList.all isA by
          rw [List.take_of_length_le (by simp), List.all_map]
          rfl]
        exact q
    · have e : isTx (.str x) = false := by
        show (decide (x.length ≤ 400) && _) = _
        rw [decide_eq_false h, Bool.false_and]
      rw [e] at q
      exact iteYes (by omega) q
theorem of_0 : Str.ofString "0" = ⟨#[48]⟩ := by decide +kernel
theorem of_9 : Str.ofString "9" = ⟨#[57]⟩ := by decide +kernel
def spis_digit (_ : PySem.W.Frag) (_ _ : Addr) : Sp := fun vs H Q _ => ∃ c : Nat, vs = [.str ⟨#[c]⟩] ∧ Q (.bl (isD c)) H
theorem okis_digit (D : Def K mg "is_digit" sis_digit ["sign"]) (B : Bs mg) (Glb : Glo mg) (WK : WebK K mg C) (EXBadText : ExcF P w K mg base "line" "BadText" CE) (EXe : PySem.W.exmOne K (.ref CE) (.ref CE) = some true) (kL : PySem.W.kitOne K (.ref C) (.type "list") = some false) (PX : PErr K mg CE CP) :
    Good P w K mg base "is_digit" sis_digit ["sign"] 1 (spis_digit K C CE) := by
  refine D.good fun f fd F => ?_
  refine F.ok scis_digit (fun vs H Q E h => ?_) (fun cdv A outer s H vs Q E hr h => ?_)
  · obtain ⟨c, rfl, q⟩ := h
    first | rfl | (rcases h with ⟨_, _, rfl, _⟩ | ⟨_, rfl, _⟩ <;> rfl)
  obtain ⟨c, rfl, q⟩ := h
  refine ⟨_, (pss_one (ps_ret (pe_chain op_le_str op_le_str pe_str (pv 0) pe_str))), ?_⟩
  refine ⟨_, rfl, _, _, rfl, rfl, _, rfl, ?_⟩
  rw [of_0]
  by_cases h : 48 ≤ c
  · refine iteNot (fun z => by have := lt_one.mp z; omega) ⟨_, _, rfl, rfl, ?_⟩
    rw [of_9]
    have e : isD c = !decide ((⟨#[57]⟩ : Str).cps.toList < (⟨#[c]⟩ : Str).cps.toList) := by
      unfold isD
      rw [decide_eq_true h, Bool.true_and]
      by_cases k : c ≤ 57
      · rw [decide_eq_true k, decide_eq_false (fun z => by have := lt_one.mp z; omega)]
        rfl
      · rw [decide_eq_false k, decide_eq_true (lt_one.mpr (by omega))]
        rfl
    rw [e] at q
    exact q
  · have e : isD c = false := by
      unfold isD
      rw [decide_eq_false h, Bool.false_and]
    rw [e] at q
    exact iteNot' (lt_one.mpr (by omega)) q
def spcount_of (_ : PySem.W.Frag) (_ _ : Addr) : Sp := fun vs H Q _ => ∃ x : Str, vs = [.str x, .int 4] ∧ x.length ≤ 1000 ∧ Q (ofN (cntN (TL.tl x))) H
theorem okcount_of (D : Def K mg "count_of" scount_of ["signs", "most"]) (B : Bs mg) (Glb : Glo mg) (WK : WebK K mg C) (EXBadText : ExcF P w K mg base "line" "BadText" CE) (EXe : PySem.W.exmOne K (.ref CE) (.ref CE) = some true) (kL : PySem.W.kitOne K (.ref C) (.type "list") = some false) (PX : PErr K mg CE CP)
    (his_between : Good P w K mg base "is_between" sis_between ["value", "least", "most"] 2 (spis_between K C CE))
    (his_digit : Good P w K mg base "is_digit" sis_digit ["sign"] 1 (spis_digit K C CE)) :
    Good P w K mg base "count_of" scount_of ["signs", "most"] 3 (spcount_of K C CE) := by
  refine D.good fun f fd F => ?_
  obtain ⟨fis_between, dis_between, Ois_between, mis_between, kis_between, bis_between, Fis_between⟩ := his_between
  obtain ⟨fis_digit, dis_digit, Ois_digit, mis_digit, kis_digit, bis_digit, Fis_digit⟩ := his_digit
  refine F.ok sccount_of (fun vs H Q E h => ?_) (fun cdv A outer s H vs Q E hr h => ?_)
  · obtain ⟨x, rfl, hx, q⟩ := h
    first | rfl | (rcases h with ⟨_, _, rfl, _⟩ | ⟨_, rfl, _⟩ <;> rfl)
  obtain ⟨x, rfl, hx, q⟩ := h
  refine ⟨_, (pss_cons (ps_if (PW.pt (pw_or (pt_not (pt_val (pe_call Ois_between hr rfl mis_between kis_between bis_between .nil pass0 (pa_cons (pe_callB call_len_str (by rfl) B.len (by decide +kernel) (pa_cons (pv 0) pa_nil)) (pa_cons pe_int (pa_cons (pv 1) pa_nil)))))) (pw_or1 (PW.pt (pw_and (pt_cmpR op_eq (pe_ix ix_str (pv 0) pe_int (fun _ _ => rfl)) pe_str (nomark _)) (pw_and1 (pt_cmpR op_ne (pv 0) pe_str (nomark _))))))))
    (pss_one (ps_ret pe_non)) pss_nil)
  (pss_one (ps_ret (pe_ifExp (pt_val (pe_drop (pe_callB (cr_all rfl) (by rfl) B.all (by decide +kernel) (pa_cons (pe_lc (own := [("sign", 2)]) (g := gName 2) (by rfl) sccount_of.nd (pi_str (pv 0)) (blkOk_by (own := [("sign", 2)]) (N := ["signs", "most", "sign"]) (sc := defScope scount_of) (by decide +kernel)) (fun _ _ _ _ _ => (pg_name (i := 2) sccount_of.nd rfl (by first | exact Or.inl rfl | exact Or.inr rfl))) (fun _ _ _ _ _ => pts_nil) (fun _ _ _ _ _ => (pe_call Ois_digit (hr.mono (by decide)) rfl mis_digit kis_digit bis_digit .nil pass0 (pa_cons (pv 2) pa_nil)))) pa_nil)))) (pe_callTy call_int_str (by rfl) B.int (by decide +kernel) (pa_cons (pv 0) pa_nil)) pe_non)))), ?_⟩
  have hll := TL.len_tl x
  have no : (¬ (1 ≤ (TL.tl x).length ∧ (TL.tl x).length ≤ 4 ∧ ¬ ((TL.tl x).head? = some 48 ∧ TL.tl x ≠ [48]) ∧ digB (TL.tl x) = true)) → Q .non H := fun z => by
    unfold cntN at q
    rw [if_neg z] at q
    exact q
  refine ⟨_, rfl, _, rfl, line1000 hx, _, rfl, _, _, 1, 4, rfl, .int _, _, rfl, iteNB (fun h1 => ?_) (fun h1 => ?_)⟩
  · have h1 : (decide ((1 : Int) ≤ ((x.length : Nat) : Int)) && decide (((x.length : Nat) : Int) ≤ 4)) = false := h1
    refine no fun z => ?_
    rw [decide_eq_true (by omega), decide_eq_true (by omega)] at h1
    cases h1
  have h1 : (decide ((1 : Int) ≤ ((x.length : Nat) : Int)) && decide (((x.length : Nat) : Int) ≤ 4)) = true := h1
  simp only [Bool.and_eq_true, decide_eq_true_eq] at h1
  obtain ⟨c, r, ec⟩ : ∃ c r, TL.tl x = c :: r := by
    cases e : TL.tl x with
    | nil => rw [e] at hll; simp at hll; omega
    | cons c r => exact ⟨c, r, rfl⟩
  refine ⟨_, rfl, _, _, c, rfl, rfl, line1000 hx, (by show atI (TL.tl x) 0 = _; rw [ec]; exact atI_nat (j := 0) rfl), rfl, _, rfl, ?_⟩
  have fin : ¬ (c = 48 ∧ TL.tl x ≠ [48]) → Q (ofN (if digB (TL.tl x) = true then some (NumText.digitsVal (TL.tl x)) else none)) H := fun z => by
    unfold cntN at q
    rw [ec] at q hll z ⊢
    by_cases hd : digB (c :: r) = true
    · rw [if_pos ⟨by omega, by omega, fun y => z ⟨Option.some.inj y.1, y.2⟩, hd⟩] at q
      rw [if_pos hd]
      exact q
    · rw [if_neg fun y => hd y.2.2.2] at q
      rw [if_neg hd]
      exact q
  have one : (V.str ⟨#[c]⟩ = V.str (Str.ofString "0")) ↔ c = 48 := by
    rw [of_0]
    exact ⟨fun z => by injection z with z; injection z with z; injection z with z; injection z, fun z => by rw [z]⟩
  suffices go : ¬ (c = 48 ∧ TL.tl x ≠ [48]) → _ by
    by_cases h48 : c = 48
    · refine iteYes (one.mpr h48) ⟨_, rfl, rfl, _, rfl, ?_⟩
      by_cases hz : x = Str.ofString "0"
      · have : TL.tl x = [48] := by rw [hz]; decide +kernel
        refine iteNS (by rw [hz]) (go fun z => z.2 this)
      · refine iteNot (fun z => hz (V.str.inj z)) (no fun z => z.2.2.1 ⟨by rw [ec, h48]; rfl, fun y => hz (TL.ext_tl (by rw [y]; decide +kernel))⟩)
    · exact iteNo (fun z => h48 (one.mp z)) (go fun z => h48 z.1)
  intro hc
  have q := fin hc
  refine ⟨_, rfl, _, rfl, fun D nD => lc_it walk_str (fun i H' => H' = upd H D (.lst (((x.cps.toList.take i).map isD).map V.bl))) rfl (fun _ _ _ _ => trivial) ?_ ?_⟩
  · rintro i y H1 H2 hi rfl ⟨rfl, c, hc, rfl⟩
    have hm : x.cps.toList[i]? = some c := by simpa using hc
    refine ⟨rfl, _, rfl, c, rfl, _, upd_same, ?_, ?_⟩
    · rw [List.length_map, List.length_map, List.length_take]
      exact Nat.lt_of_lt_of_le (by have hi2 : i < x.length := hi; omega : min i x.cps.toList.length < 1000) (by decide)
    · rw [upd_upd, List.take_succ, hm, List.map_append, List.map_append]
      rfl
  · rintro H1 rfl
    refine ⟨D, _, rfl, SqL.of upd_same, D, _, H, rfl, nD, ?_⟩
    rw [show (((x.cps.toList.take x.cps.size).map isD).all id) = digB (TL.tl x) by
      rw [List.take_of_length_le (by simp), List.all_map]
      rfl]
    refine ⟨_, rfl, iteB (fun hd => ?_) (fun hd => ?_)⟩
    · rw [if_pos hd] at q
      refine ⟨_, rfl, x, _, rfl, int_can ⟨digB_iff.mp hd, by rw [ec]; simp, ?_⟩ (by omega), by omega, q⟩
      by_cases h48 : c = 48
      · exact .inr (Decidable.byContradiction fun z => hc ⟨h48, z⟩)
      · exact .inl (by rw [ec]; exact fun z => h48 (Option.some.inj z))
    · rw [if_neg (by rw [hd]; exact Bool.false_ne_true)] at q
      exact q
end
end My
set_option maxHeartbeats 4000000
namespace My
open PySem L2 PyProof.Rows
/-- readings: a list of pairs in the heap -/
def SIAt (H : Hp) (t : Addr) (e : Str × Int) : Prop := H t = some (.tup [.str e.1, .int e.2])
def RdAt (H : Hp) (l : Addr) (L : List (Str × Int)) : Prop := ∃ ts : List Addr, H l = some (.lst (ts.map V.ref)) ∧ Paired (SIAt H) ts L
theorem RdAt.same {H H' : Hp} {l : Addr} {L : List (Str × Int)} (h : RdAt H l L) (s : Same H H') : RdAt H' l L := by
  obtain ⟨ts, h1, h2⟩ := h
  exact ⟨ts, s _ _ h1, paired_mono (fun p e hp => s _ _ hp) h2⟩
theorem ref_at {ts : List Addr} {i : Nat} {v : V} (h : (ts.map V.ref)[i]? = some v) : ∃ p, ts[i]? = some p ∧ v = .ref p := by
  rw [List.getElem?_map] at h
  cases e : ts[i]? with
  | none => rw [e] at h; cases h
  | some p => rw [e] at h; exact ⟨p, rfl, (Option.some.inj h).symm⟩
theorem str_at {xs : List Str} {i : Nat} {v : V} (h : (xs.map V.str)[i]? = some v) : ∃ x, xs[i]? = some x ∧ v = .str x := by
  rw [List.getElem?_map] at h
  cases e : xs[i]? with
  | none => rw [e] at h; cases h
  | some p => rw [e] at h; exact ⟨p, rfl, (Option.some.inj h).symm⟩
/-- numbers put together -/
def sumT : List (Str × Int) → List (Str × Int) → List (Str × Int)
  | D, [] => D
  | D, e :: r => sumT (addT D e.1 e.2) r
theorem sumT_app (L M : List (Str × Int)) : ∀ D, sumT D (L ++ M) = sumT (sumT D L) M := by
  induction L with
  | nil => intro D; rfl
  | cons e r ih => intro D; exact ih _
theorem sumT_nodup (L : List (Str × Int)) : ∀ {D : List (Str × Int)}, (D.map Prod.fst).Nodup → ((sumT D L).map Prod.fst).Nodup := by
  induction L with
  | nil => intro D h; exact h
  | cons e r ih => intro D h; exact ih (addT_nodup h)
theorem sumT_len (L : List (Str × Int)) : ∀ D, (sumT D L).length ≤ D.length + L.length := by
  induction L with
  | nil => intro D; exact Nat.le_refl _
  | cons e r ih =>
    intro D
    have h1 := ih (addT D e.1 e.2)
    have h2 := addT_len e.1 e.2 D
    show (sumT (addT D e.1 e.2) r).length ≤ D.length + (r.length + 1)
    omega
theorem si_at {H : Hp} {ts : List Addr} {L : List (Str × Int)} (hP : Paired (SIAt H) ts L) {i : Nat} {v : V} (h : (ts.map V.ref)[i]? = some v) : ∃ p e, v = .ref p ∧ L[i]? = some e ∧ SIAt H p e := by
  obtain ⟨p, hp, rfl⟩ := ref_at h
  obtain ⟨e, he, hpe⟩ := paired_get hP hp
  exact ⟨p, e, rfl, he, hpe⟩
theorem sumT_snoc (D L : List (Str × Int)) (e : Str × Int) : sumT D (L ++ [e]) = addT (sumT D L) e.1 e.2 := by
  rw [sumT_app]
  rfl
theorem take_snoc {α : Type} {L : List α} {i : Nat} {e : α} (h : L[i]? = some e) : L.take (i + 1) = L.take i ++ [e] := by rw [List.take_succ, h]; rfl
abbrev told (D : List (Str × Int)) : List (Str × Int) := D.mergeSort (PySem.W.dataLe false encSI)
theorem iteNS {c : Prop} [Decidable c] {A B : Prop} (h : c) (b : B) : if (!decide c) = true then A else B := iteNot' h b
def lf (s : Nat) (tl : Addr) : List (Str × V) := putF "_told" (.ref tl) (putF "_size" (.int (s : Int)) [])
theorem lf_S (s : Nat) (tl : Addr) : (lf s tl).lookup ("_size" : Str) = some (.int (s : Int)) := by
  unfold lf
  rw [lookup_putF, if_neg (by decide +kernel), lookup_putF, if_pos rfl]
theorem lf_T (s : Nat) (tl : Addr) : (lf s tl).lookup ("_told" : Str) = some (.ref tl) := by
  unfold lf
  rw [lookup_putF, if_pos rfl]
theorem lf_no (s : Nat) (tl : Addr) {m : Str} (h1 : ¬ m = "_told") (h2 : ¬ m = "_size") : (lf s tl).lookup m = none := by
  unfold lf
  rw [lookup_putF, if_neg h1, lookup_putF, if_neg h2]
  all_goals rfl
theorem putF_len (f : Str) (v : V) : ∀ l : List (Str × V), (putF f v l).length ≤ l.length + 1
  | [] => by simp [putF]
  | (g, x) :: r => by
    have := putF_len f v r
    unfold putF
    split
    · simp
    · simp; omega
/-- a lot: its told readings M stand in the list at tl -/
def LotAt (C a tl : Addr) (s : Nat) (M : List (Str × Int)) (H : Hp) : Prop := ∃ dx, H a = some (.ins C dx (lf s tl)) ∧ RdAt H tl M
theorem LotAt.same {C a tl : Addr} {s : Nat} {M : List (Str × Int)} {H H' : Hp} (h : LotAt C a tl s M H) (k : Same H H') : LotAt C a tl s M H' := by
  obtain ⟨dx, h1, h2⟩ := h
  exact ⟨dx, k _ _ h1, h2.same k⟩
/-- readings in a list or in a tuple -/
def RdS (H : Hp) (l : Addr) (L : List (Str × Int)) : Prop := ∃ ts : List Addr, (H l = some (.lst (ts.map V.ref)) ∨ H l = some (.tup (ts.map V.ref))) ∧ Paired (SIAt H) ts L
theorem RdS.same {H H' : Hp} {l : Addr} {L : List (Str × Int)} (h : RdS H l L) (s : Same H H') : RdS H' l L := by
  obtain ⟨ts, h1, h2⟩ := h
  exact ⟨ts, h1.imp (s _ _) (s _ _), paired_mono (fun p e hp => s _ _ hp) h2⟩
theorem isTx_is {H : Hp} {v : V} {d : PyData} (h : Vd H v d) (k : isTx d = true) : ∃ x, v = .str x ∧ d = .str x ∧ isTx (.str x) = true := by
  cases h <;> first | cases k | skip
  rename_i x hx
  exact ⟨x, rfl, rfl, k⟩
theorem isTm_is {H : Hp} {v : V} {d : PyData} (h : Vd H v d) (k : isTm d = true) : ∃ n : Int, v = .int n ∧ d = .int n ∧ 1 ≤ n ∧ n ≤ 20 := by
  cases h <;> first | cases k | skip
  rename_i n
  have k : (decide (1 ≤ n) && decide (n ≤ 20)) = true := k
  simp only [Bool.and_eq_true, decide_eq_true_eq] at k
  exact ⟨n, rfl, rfl, k.1, k.2⟩
theorem isOne_is {H : Hp} {v : V} {d : PyData} (h : Vd H v d) (k : isOne d = true) : ∃ p, ∃ e : Str × Int, v = .ref p ∧ SIAt H p e ∧ isTx (.str e.1) = true ∧ 1 ≤ e.2 ∧ e.2 ≤ 20 ∧ d = .tuple [.str e.1, .int e.2] := by
  cases h <;> first | cases k | skip
  rename_i p vs es h1 h2
  cases h2 with
  | nil => cases k
  | cons a h2 =>
    cases h2 with
    | nil => cases k
    | cons b h2 =>
      cases h2 with
      | cons _ _ => cases k
      | nil =>
        have k : (isTx _ && isTm _) = true := k
        rw [Bool.and_eq_true] at k
        obtain ⟨x, rfl, rfl, hx⟩ := isTx_is a k.1
        obtain ⟨n, rfl, rfl, hn1, hn2⟩ := isTm_is b k.2
        exact ⟨p, (x, n), rfl, h1, hx, hn1, hn2, rfl⟩
theorem ones_is {H : Hp} : ∀ {vs : List V} {es : List PyData}, VdAll H vs es → es.all isOne = true → ∃ (ts : List Addr) (L : List (Str × Int)), vs = ts.map V.ref ∧ Paired (SIAt H) ts L ∧ ∀ e ∈ L, isTx (.str e.1) = true ∧ 1 ≤ e.2 ∧ e.2 ≤ 20
  | _, _, .nil, _ => ⟨[], [], rfl, .nil, fun e h => (nomatch h)⟩
  | _, _, .cons h k, z => by
    rw [List.all_cons, Bool.and_eq_true] at z
    obtain ⟨p, e, rfl, h1, h2, h3, h4, _⟩ := isOne_is h z.1
    obtain ⟨ts, L, rfl, k1, k2⟩ := ones_is k z.2
    refine ⟨p :: ts, e :: L, rfl, .cons h1 k1, fun f hf => ?_⟩
    rcases List.mem_cons.mp hf with rfl | hf
    · exact ⟨h2, h3, h4⟩
    · exact k2 f hf
/-- what a value tells that is readings -/
theorem areR_is {H : Hp} {v : V} {d : PyData} (h : Vd H v d) (k : areR d = true) : ∃ l L, v = .ref l ∧ RdS H l L ∧ L.length ≤ 60 ∧ ∀ e ∈ L, isTx (.str e.1) = true ∧ 1 ≤ e.2 ∧ e.2 ≤ 20 := by
  cases h <;> first | cases k | skip
  all_goals
    rename_i p vs es h1 h2
    have k : (decide (es.length ≤ 60) && es.all isOne) = true := k
    simp only [Bool.and_eq_true, decide_eq_true_eq] at k
    obtain ⟨ts, L, rfl, k1, k2⟩ := ones_is h2 k.2
    have hl := h2.len
    rw [List.length_map, paired_len k1] at hl
    refine ⟨p, L, rfl, ⟨ts, ?_, k1⟩, by omega, k2⟩
  · exact .inl h1
  · exact .inr h1
theorem listed_is {H : Hp} {v : V} {d : PyData} (h : Vd H v d) (k : (isL d || isT d) = true) : ∃ p vs es, v = .ref p ∧ (H p = some (.lst vs) ∨ H p = some (.tup vs)) ∧ VdAll H vs es ∧ areR d = (decide (es.length ≤ 60) && es.all isOne) := by
  cases h with
  | lst h1 h2 => exact ⟨_, _, _, rfl, .inl h1, h2, rfl⟩
  | tup h1 h2 => exact ⟨_, _, _, rfl, .inr h1, h2, rfl⟩
  | _ => cases k
theorem all_no {es : List PyData} {i : Nat} {d : PyData} (h : es[i]? = some d) (k : isOne d = false) : es.all isOne = false := by
  cases e : es.all isOne with
  | false => rfl
  | true =>
    have := List.all_eq_true.mp e d (List.mem_of_getElem? h)
    rw [k] at this
    cases this
section
variable {P : Program} {w : World} {K : PySem.W.Frag} {mg : Str → Option Value} {base : Heap} {C CE CP : Addr}
def sp_times_together (_ : PySem.W.Frag) (_ _ : Addr) : Sp := fun vs H Q _ => ∃ l L, vs = [.ref l] ∧ RdS H l L ∧ L.length ≤ 1000 ∧ ∀ H' d, Same H H' → H d = none → H' d = some (.dK (dT (sumT [] L))) → Q (.ref d) H'
theorem ok_times_together (D : Def K mg "_times_together" s_times_together ["readings"]) (B : Bs mg) (Glb : Glo mg) (WK : WebK K mg C) (EXBadText : ExcF P w K mg base "line" "BadText" CE) (EXe : PySem.W.exmOne K (.ref CE) (.ref CE) = some true) (kL : PySem.W.kitOne K (.ref C) (.type "list") = some false) (PX : PErr K mg CE CP) :
    Good P w K mg base "_times_together" s_times_together ["readings"] 1 (sp_times_together K C CE) := by
  refine D.good fun f fd F => ?_
  refine F.ok sc_times_together (fun vs H Q E h => ?_) (fun cdv A outer s H vs Q E hr h => ?_)
  · obtain ⟨l, L, rfl, ⟨ts, hl, hP⟩, hlen, q⟩ := h
    first | rfl | (rcases h with ⟨_, _, rfl, _⟩ | ⟨_, rfl, _⟩ <;> rfl)
  obtain ⟨l, L, rfl, ⟨ts, hl, hP⟩, hlen, q⟩ := h
  refine ⟨_, (pss_cons (ps_set (i := 1) sc_times_together.nd rfl (by first | exact Or.inl rfl | exact Or.inr rfl) pe_dnewK)
  (pss_cons (ps_for PassesOwn.never rfl (pi_or (pi_list (pv 0)) (pi_tup (pv 0))) (pg_tup rfl (pgs_cons (pg_name (i := 2) sc_times_together.nd rfl (by first | exact Or.inl rfl | exact Or.inr rfl)) (pgs_cons (pg_name (i := 3) sc_times_together.nd rfl (by first | exact Or.inl rfl | exact Or.inr rfl)) pgs_nil)))
    (pss_one (ps_dput (hu_of hr) (pv 1) (pv 2) (pe_op op_add (pe_dget2 (hu_of hr) (pv 1) (pv 2) pe_int ⟨rfl, rfl, rfl, rfl⟩) (pv 3)) rfl)))
  (pss_one (ps_ret (pv 1))))), ?_⟩
  intro d nd
  rcases hl with hl | hl
  case' inl => refine .inl ⟨_, rfl, l, rfl, ⟨_, SqL.of (same_new nd _ _ _ hl)⟩, for_list (K := K) (a := l) (xs := ts.map V.ref) (fun i σ H' => ∃ v2 v3 : Option V, σ = [some (.ref l), some (.ref d), v2, v3] ∧ Same H H' ∧ H' d = some (.dK (dT (sumT [] (L.take i))))) ⟨none, none, rfl, same_new nd _, upd_same⟩ (fun i σ H' _ ⟨_, _, _, hS', _⟩ => SqL.of (hS' _ _ hl)) ?_ ?_⟩
  case' inr => refine .inr ⟨_, rfl, l, rfl, ⟨_, SqT.of (same_new nd _ _ _ hl)⟩, for_tup (K := K) (a := l) (xs := ts.map V.ref) (fun i σ H' => ∃ v2 v3 : Option V, σ = [some (.ref l), some (.ref d), v2, v3] ∧ Same H H' ∧ H' d = some (.dK (dT (sumT [] (L.take i))))) ⟨none, none, rfl, same_new nd _, upd_same⟩ (fun i σ H' _ ⟨_, _, _, hS', _⟩ => SqT.of (hS' _ _ hl)) ?_ ?_⟩
  all_goals first
    | (rintro i x σ H1 hx ⟨v2, v3, rfl, hS, hd⟩
       obtain ⟨p, e, rfl, he, hpe⟩ := si_at hP hx
       have hp1 : H1 p = some (.tup [.str e.1, .int e.2]) := hS _ _ hpe
       refine ⟨p, _, rfl, SqT.of hp1, rfl, _, _, rfl, _, _, rfl, rfl, ?_⟩
       have hget : DGet H1 d (.str e.1) (valV (dT (sumT [] (L.take i))) (Sum.inr e.1 : Key)) := DGet.k (k := Sum.inr e.1) hd
       have hlt : (dT (sumT [] (L.take i))).length < sizeLine := by
         have h1 := sumT_len (L.take i) []
         rw [List.length_take] at h1
         rw [List.length_map]
         exact Nat.lt_of_le_of_lt (by simp at h1; omega : (sumT [] (L.take i)).length ≤ 1000) (by decide)
       refine ⟨_, rfl, d, rfl, .inl ⟨_, .inl hd⟩, _, rfl, _, hget, _, rfl, ?_⟩
       rw [dT_getD]
       refine ⟨_, _, rfl, rfl, _, rfl, _, rfl, d, _, rfl, DPut.k (k := Sum.inr e.1) hd hlt, ?_⟩
       rw [dT_put (sumT_nodup _ (by simp))]
       refine ⟨_, _, rfl, same_upd hS nd, ?_⟩
       rw [upd_same, take_snoc he, sumT_snoc])
    | (rintro σ H1 ⟨v2, v3, rfl, hS, hd⟩
       rw [List.length_map, paired_len hP, List.take_length] at hd
       exact ⟨_, rfl, q H1 d hS nd hd⟩)
def spare_readings (_ : PySem.W.Frag) (_ _ : Addr) : Sp := fun vs H Q _ => ∃ v d, vs = [v] ∧ Vd H v d ∧ ∀ H', Same H H' → Q (.bl (areR d)) H'
theorem okare_readings (D : Def K mg "are_readings" sare_readings ["value"]) (B : Bs mg) (Glb : Glo mg) (WK : WebK K mg C) (EXBadText : ExcF P w K mg base "line" "BadText" CE) (EXe : PySem.W.exmOne K (.ref CE) (.ref CE) = some true) (kL : PySem.W.kitOne K (.ref C) (.type "list") = some false) (PX : PErr K mg CE CP)
    (his_listed : Good P w K mg base "is_listed" sis_listed ["value"] 1 (spis_listed K C CE))
    (his_text : Good P w K mg base "is_text" sis_text ["value"] 2 (spis_text K C CE))
    (his_times : Good P w K mg base "is_times" sis_times ["value"] 3 (spis_times K C CE)) :
    Good P w K mg base "are_readings" sare_readings ["value"] 4 (spare_readings K C CE) := by
  refine D.good fun f fd F => ?_
  obtain ⟨fis_listed, dis_listed, Ois_listed, mis_listed, kis_listed, bis_listed, Fis_listed⟩ := his_listed
  obtain ⟨fis_text, dis_text, Ois_text, mis_text, kis_text, bis_text, Fis_text⟩ := his_text
  obtain ⟨fis_times, dis_times, Ois_times, mis_times, kis_times, bis_times, Fis_times⟩ := his_times
  refine F.ok scare_readings (fun vs H Q E h => ?_) (fun cdv A outer s H vs Q E hr h => ?_)
  · obtain ⟨v, d, rfl, hv, q⟩ := h
    first | rfl | (rcases h with ⟨_, _, rfl, _⟩ | ⟨_, rfl, _⟩ <;> rfl)
  obtain ⟨v, d, rfl, hv, q⟩ := h
  refine ⟨_, (pss_cons (ps_if (PW.pt (pw_or (pt_not (pt_val (pe_call Ois_listed (hr.mono (by decide)) rfl mis_listed kis_listed bis_listed .nil pass0 (pa_cons (pv 0) pa_nil)))) (pw_or1 (pt_cmpR op_gt (pe_callB call_len_seq (by rfl) B.len (by decide +kernel) (pa_cons (pv 0) pa_nil)) (pe_globI Glb.MOST_READINGS) (nomark _)))))
    (pss_one (ps_ret pe_bl)) pss_nil)
  (pss_cons (ps_for PassesOwn.never rfl (pi_or (pi_list (pv 0)) (pi_tup (pv 0))) (pg_name (i := 1) scare_readings.nd rfl (by first | exact Or.inl rfl | exact Or.inr rfl))
    (pss_cons (ps_if (PW.pt (pw_or (pt_not (pt_val (pe_callB call_isi (by rfl) B.isinstance (by decide +kernel) (pa_cons (pv 1) (pa_cons (pe_bltn (v := .ty "tuple") (by rfl) B.tuple (by decide +kernel) rfl) pa_nil))))) (pw_or1 (pt_cmpR op_ne (pe_callB call_len_seq (by rfl) B.len (by decide +kernel) (pa_cons (pv 1) pa_nil)) pe_int (nomark _)))))
    (pss_one (ps_ret pe_bl)) pss_nil)
  (pss_one (ps_if (PW.pt (pw_or (pt_not (pt_val (pe_call Ois_text (hr.mono (by decide)) rfl mis_text kis_text bis_text .nil pass0 (pa_cons (pe_ix ix_tup (pv 1) pe_int (fun _ _ => rfl)) pa_nil)))) (pw_or1 (pt_not (pt_val (pe_call Ois_times hr rfl mis_times kis_times bis_times .nil pass0 (pa_cons (pe_ix ix_tup (pv 1) pe_int (fun _ _ => rfl)) pa_nil)))))))
    (pss_one (ps_ret pe_bl)) pss_nil))))
  (pss_one (ps_ret pe_bl)))), ?_⟩
  refine ⟨_, rfl, v, d, rfl, hv, fun H1 hS1 => ⟨_, rfl, iteNB (fun h1 => ?_) fun h1 => ?_⟩⟩
  · have q := q H1 hS1
    cases d <;> first | exact q | cases h1
  obtain ⟨p, vs, es, rfl, hl, hes, er⟩ := listed_is hv h1
  rw [er] at q
  have hlen := hes.len
  have hl1 := hl.imp (hS1 _ _) (hS1 _ _)
  refine ⟨_, rfl, _, _, rfl, hl1.imp SqL.of SqT.of, _, _, rfl, rfl, _, rfl, ?_⟩
  by_cases h60 : es.length ≤ 60
  case neg =>
    have q := q H1 hS1
    rw [decide_eq_false h60, Bool.false_and] at q
    exact iteYes (by rw [hlen]; omega) q
  rw [decide_eq_true h60, Bool.true_and] at q
  refine iteNo (by rw [hlen]; omega) ?_
  rcases hl1 with hl1 | hl1
  case' inl => refine .inl ⟨_, rfl, p, rfl, ⟨_, SqL.of hl1⟩, for_list (K := K) (a := p) (xs := vs) (fun i σ H' => Same H1 H' ∧ (es.take i).all isOne = true ∧ ∃ v, σ = [some (.ref p), v]) ⟨fun b u e => e, rfl, none, rfl⟩ (fun i σ H' _ ⟨hS', _⟩ => SqL.of (hS' _ _ hl1)) ?_ ?_⟩
  case' inr => refine .inr ⟨_, rfl, p, rfl, ⟨_, SqT.of hl1⟩, for_tup (K := K) (a := p) (xs := vs) (fun i σ H' => Same H1 H' ∧ (es.take i).all isOne = true ∧ ∃ v, σ = [some (.ref p), v]) ⟨fun b u e => e, rfl, none, rfl⟩ (fun i σ H' _ ⟨hS', _⟩ => SqT.of (hS' _ _ hl1)) ?_ ?_⟩
  all_goals first
    | (rintro i x σ H2 hx ⟨hS2, hall, v, rfl⟩
       have hS12 := hS1.trans hS2
       obtain ⟨di, hdi, hvi⟩ := hes.at hx
       have hvi := hvi.same hS12
       have no : isOne di = false → Q (.bl false) H2 := fun z => by
         have := q H2 hS12
         rw [all_no hdi z] at this
         exact this
       refine ⟨_, rfl, _, _, _, _, _, rfl, .ty _, hvi.ty, kit_ty (kit_tup di), _, rfl, iteNB (fun k => no (by cases di <;> first | rfl | cases k)) (fun k => ?_)⟩
       cases hvi <;> first | cases k | skip
       rename_i t us ds ht hus
       have hul := hus.len
       refine ⟨_, rfl, _, _, rfl, .inr (SqT.of ht), rfl, _, rfl, ?_⟩
       by_cases h2 : us.length = 2
       · refine iteNS (by rw [h2]; rfl) ?_
         obtain ⟨u0, u1, rfl⟩ : ∃ u0 u1, us = [u0, u1] := by
           match us, h2 with
           | [a, b], _ => exact ⟨a, b, rfl⟩
         cases hus with
         | cons a hus =>
           cases hus with
           | cons b hus =>
             cases hus
             rename_i d0 d1
             refine ⟨_, rfl, _, _, _, u0, rfl, rfl, SqT.of ht, rfl, _, _, rfl, a, _, rfl, iteNB (fun k0 => no ?_) (fun k0 => ?_)⟩
             · show (isTx d0 && isTm d1) = false
               rw [k0, Bool.false_and]
             · refine ⟨_, rfl, _, _, _, u1, rfl, rfl, SqT.of ht, rfl, _, _, rfl, b, _, rfl, iteNB (fun k1 => no ?_) (fun k1 => ?_)⟩
               · show (isTx d0 && isTm d1) = false
                 rw [k1, Bool.and_false]
               · refine ⟨hS2, ?_, _, rfl⟩
                 rw [List.take_succ, hdi, List.all_append, hall]
                 show (true && (isOne (.tuple [d0, d1]) && true)) = true
                 show (true && ((isTx d0 && isTm d1) && true)) = true
                 rw [k0, k1]
                 rfl
       · refine iteNot (fun z => h2 ?_) (no ?_)
         · have := int_eq.mp z
           omega
         · cases ds with
           | nil => rfl
           | cons a ds =>
             cases ds with
             | nil => rfl
             | cons b ds =>
               cases ds with
               | nil => exact absurd (by rw [hul]; rfl) h2
               | cons c ds => rfl)
    | (rintro σ H2 ⟨hS2, hall, v, rfl⟩
       rw [hlen, List.take_length] at hall
       have := q H2 (hS1.trans hS2)
       rw [hall] at this
       exact this)
end
end My
set_option maxHeartbeats 4000000
namespace My
open PySem L2 PyProof.Rows
section
variable {P : Program} {w : World} {K : PySem.W.Frag} {mg : Str → Option Value} {base : Heap} {C CE CP : Addr}
def spLot___init__ (_ : PySem.W.Frag) (C CE : Addr) : Sp := fun vs H Q _ => ∃ a dx s v d, vs = [.ref a, .int ((s : Nat) : Int), v] ∧ 2 ≤ s ∧ s ≤ 8 ∧ Vd H v d ∧ H a = some (.ins C dx []) ∧
  (∀ l L, v = .ref l → RdS H l L → areR d = true → ∀ H' tl, H tl = none → Kept a H H' → LotAt C a tl s (told (sumT [] L)) H' → Q .non H') ∧ areR d = true
theorem okLot___init__ (D : DefI K C "__init__" "Lot.__init__" sLot___init__ ["self", "size", "readings"]) (B : Bs mg) (Glb : Glo mg) (WK : WebK K mg C) (EXBadText : ExcF P w K mg base "line" "BadText" CE) (EXe : PySem.W.exmOne K (.ref CE) (.ref CE) = some true) (kL : PySem.W.kitOne K (.ref C) (.type "list") = some false) (PX : PErr K mg CE CP)
    (hneed_size : Good P w K mg base "need_size" sneed_size ["size"] 4 (spneed_size K C CE))
    (hare_readings : Good P w K mg base "are_readings" sare_readings ["value"] 4 (spare_readings K C CE))
    (h_times_together : Good P w K mg base "_times_together" s_times_together ["readings"] 1 (sp_times_together K C CE)) :
    GoodJ P w K mg base C "__init__" "Lot.__init__" sLot___init__ ["self", "size", "readings"] 5 (spLot___init__ K C CE) := by
  refine D.goodJ fun f fd F => ?_
  obtain ⟨fneed_size, dneed_size, Oneed_size, mneed_size, kneed_size, bneed_size, Fneed_size⟩ := hneed_size
  obtain ⟨fare_readings, dare_readings, Oare_readings, mare_readings, kare_readings, bare_readings, Fare_readings⟩ := hare_readings
  obtain ⟨f_times_together, d_times_together, O_times_together, m_times_together, k_times_together, b_times_together, F_times_together⟩ := h_times_together
  refine F.ok scLot___init__ (fun vs H Q E h => ?_) (fun cdv A outer s H vs Q E hr h => ?_)
  · obtain ⟨a, dx, s, v, d, rfl, hs1, hs2, hv, ha, q, qE⟩ := h
    first | rfl | (rcases h with ⟨_, _, rfl, _⟩ | ⟨_, rfl, _⟩ <;> rfl)
  obtain ⟨a, dx, s, v, d, rfl, hs1, hs2, hv, ha, q, qE⟩ := h
  refine ⟨_, (pss_cons (ps_expr (pe_call Oneed_size hr rfl mneed_size kneed_size bneed_size .nil pass0 (pa_cons (pv 1) pa_nil)))
  (pss_cons (ps_if (pt_not (pt_val (pe_call Oare_readings hr rfl mare_readings kare_readings bare_readings .nil pass0 (pa_cons (pv 2) pa_nil))))
    (pss_one ps_never) pss_nil)
  (pss_cons (ps_fld (pv 0) (pv 1) rfl)
  (pss_one (ps_fld (pv 0) (pe_callB (cr_sortItK rfl hr.units) (by rfl) B.sorted (by decide +kernel) (pa_cons (pe_bm0 PySem.F.plainAttrs_dict PySem.F.slot_dict_items PySem.F.type_dict_items mt_itemsK (pe_call O_times_together (hr.mono (by decide)) rfl m_times_together k_times_together b_times_together .nil pass0 (pa_cons (pv 2) pa_nil))) pa_nil)) rfl))))), ?_⟩
  refine ⟨_, rfl, (s : Int), rfl, by omega, by omega, ?_⟩
  refine ⟨_, rfl, v, d, rfl, hv, fun H1 hS1 => ⟨_, rfl, iteNB (fun k => ?_) fun k => ?_⟩⟩
  · rw [qE] at k
    cases k
  · obtain ⟨l, L, rfl, hR, hlen, hok⟩ := areR_is hv k
    have q := q l L rfl hR k
    have ha1 := hS1 _ _ ha
    refine ⟨_, rfl, _, rfl, a, C, dx, [], rfl, ha1, WK.cl, WK.nS, (by decide), ?_⟩
    have hk2 : Kept a H (upd H1 a (.ins C dx (putF "_size" (.int (s : Int)) []))) := fun b o e n => by rw [upd_ne n]; exact hS1 _ _ e
    have ha2 : upd H1 a (.ins C dx (putF "_size" (.int (s : Int)) [])) a = some (.ins C dx (putF "_size" (.int (s : Int)) [])) := upd_same
    generalize upd H1 a (.ins C dx (putF "_size" (.int (s : Int)) [])) = H2 at hk2 ha2
    have ntup : ∀ p e, SIAt H p e → p ≠ a := fun p e hp => ne_of hp ha (by intro z; cases z)
    have hR2 : RdS H2 l L := by
      obtain ⟨ts, h1, h2⟩ := hR
      exact ⟨ts, h1.imp (fun h1 => hk2 _ _ h1 (ne_of h1 ha (by intro z; cases z))) (fun h1 => hk2 _ _ h1 (ne_of h1 ha (by intro z; cases z))), paired_mono (fun p e hp => hk2 _ _ hp (ntup p e hp)) h2⟩
    refine ⟨_, rfl, l, L, rfl, hR2, by omega, fun H3 d hS3 nd hd => ⟨.inr (.inr (.inl ⟨rfl, .inl ⟨_, hd⟩⟩)), d, _, rfl, rfl, hd, fun p0 np0 => ?_⟩⟩
    have hd2 : upd H3 p0 (DX.itemsO p0 d) d = some (.dK (dT (sumT [] L))) := same_new np0 _ _ _ hd
    refine ⟨p0, d, sumT [] L, rfl, upd_same, hd2, ?_, fun H4 tl us hS4 ntl htl hU => ?_⟩
    · have h1 := sumT_len L []
      simp at h1
      omega
    have hS24 : Same H2 H4 := fun b o e => hS4 _ _ (same_new np0 _ _ _ (hS3 _ _ e))
    have ha4 := hS24 _ _ ha2
    have ntl2 : H2 tl = none := hS3.free ((same_new (o := DX.itemsO p0 d) np0).free ntl)
    have ntla : tl ≠ a := fun z => by rw [z, ha2] at ntl2; cases ntl2
    refine ⟨_, rfl, a, C, dx, _, rfl, ha4, WK.cl, WK.nT, Nat.lt_of_le_of_lt (putF_len _ _ _) (by decide), ?_⟩
    refine q _ tl ?_ (fun b o e n => by rw [upd_ne n]; exact hS24 _ _ (hk2 _ _ e n)) ⟨dx, upd_same, us, by rw [upd_ne ntla]; exact htl, paired_mono (fun p e hp => ?_) hU⟩
    · cases z : H tl with
      | none => rfl
      | some o =>
        rw [hk2 _ _ z ntla] at ntl2
        cases ntl2
    · have npa : p ≠ a := ne_of hp ha4 (by intro z; cases z)
      show upd _ _ _ p = _
      rw [upd_ne npa]
      exact hp
def spLot_readings (_ : PySem.W.Frag) (C _ : Addr) : Sp := fun vs H Q _ => ∃ a tl s M, vs = [.ref a] ∧ LotAt C a tl s M H ∧ ∀ H' l, H l = none → Same H H' → RdAt H' l M → Q (.ref l) H'
theorem okLot_readings (D : DefM K C "readings" "Lot.readings" sLot_readings ["self"]) (B : Bs mg) (Glb : Glo mg) (WK : WebK K mg C) (EXBadText : ExcF P w K mg base "line" "BadText" CE) (EXe : PySem.W.exmOne K (.ref CE) (.ref CE) = some true) (kL : PySem.W.kitOne K (.ref C) (.type "list") = some false) (PX : PErr K mg CE CP) :
    GoodM P w K mg base C "readings" "Lot.readings" sLot_readings ["self"] 1 (spLot_readings K C CE) := by
  refine D.good fun f fd F => ?_
  refine F.ok scLot_readings (fun vs H Q E h => ?_) (fun cdv A outer s H vs Q E hr h => ?_)
  · obtain ⟨a, tl, s, M, rfl, ⟨dx, h1, ts, ht, hP⟩, q⟩ := h
    first | rfl | (rcases h with ⟨_, _, rfl, _⟩ | ⟨_, rfl, _⟩ <;> rfl)
  obtain ⟨a, tl, s, M, rfl, ⟨dx, h1, ts, ht, hP⟩, q⟩ := h
  refine ⟨_, (pss_one (ps_ret (pe_callTy call_list_of (by rfl) B.list (by decide +kernel) (pa_cons (pe_fld (pv 0) rfl) pa_nil)))), ?_⟩
  exact ⟨_, rfl, a, C, dx, _, _, rfl, h1, WK.cl, WK.nT, lf_T _ _, _, _, rfl, .inl (SqL.of ht), fun l nl => q _ l nl (same_new nl _) ⟨ts, upd_same, paired_mono (fun p e hp => same_new nl _ _ _ hp) hP⟩⟩
def spLot_size (_ : PySem.W.Frag) (C _ : Addr) : Sp := fun vs H Q _ => ∃ a tl s M, vs = [.ref a] ∧ LotAt C a tl s M H ∧ Q (.int ((s : Nat) : Int)) H
theorem okLot_size (D : DefP K C "size" "Lot.size" sLot_size ["self"]) (B : Bs mg) (Glb : Glo mg) (WK : WebK K mg C) (EXBadText : ExcF P w K mg base "line" "BadText" CE) (EXe : PySem.W.exmOne K (.ref CE) (.ref CE) = some true) (kL : PySem.W.kitOne K (.ref C) (.type "list") = some false) (PX : PErr K mg CE CP) :
    GoodP P w K mg base C "size" "Lot.size" sLot_size ["self"] 1 (spLot_size K C CE) := by
  refine D.good fun f fd F => ?_
  refine F.ok scLot_size (fun vs H Q E h => ?_) (fun cdv A outer s H vs Q E hr h => ?_)
  · obtain ⟨a, tl, s, M, rfl, ⟨dx, h1, h2⟩, q⟩ := h
    first | rfl | (rcases h with ⟨_, _, rfl, _⟩ | ⟨_, rfl, _⟩ <;> rfl)
  obtain ⟨a, tl, s, M, rfl, ⟨dx, h1, h2⟩, q⟩ := h
  refine ⟨_, (pss_one (ps_ret (pe_fld (pv 0) rfl))), ?_⟩
  exact ⟨_, rfl, a, C, dx, _, _, rfl, h1, WK.cl, WK.nS, lf_S _ _, q⟩
def spneed_lot (_ : PySem.W.Frag) (C _ : Addr) : Sp := fun vs H Q _ => ∃ a tl s M, vs = [.ref a] ∧ LotAt C a tl s M H ∧ Q .non H
theorem okneed_lot (D : Def K mg "need_lot" sneed_lot ["lot"]) (B : Bs mg) (Glb : Glo mg) (WK : WebK K mg C) (EXBadText : ExcF P w K mg base "line" "BadText" CE) (EXe : PySem.W.exmOne K (.ref CE) (.ref CE) = some true) (kL : PySem.W.kitOne K (.ref C) (.type "list") = some false) (PX : PErr K mg CE CP) :
    Good P w K mg base "need_lot" sneed_lot ["lot"] 3 (spneed_lot K C CE) := by
  refine D.good fun f fd F => ?_
  refine F.ok scneed_lot (fun vs H Q E h => ?_) (fun cdv A outer s H vs Q E hr h => ?_)
  · obtain ⟨a, tl, s, M, rfl, ⟨dx, h1, h2⟩, q⟩ := h
    first | rfl | (rcases h with ⟨_, _, rfl, _⟩ | ⟨_, rfl, _⟩ <;> rfl)
  obtain ⟨a, tl, s, M, rfl, ⟨dx, h1, h2⟩, q⟩ := h
  refine ⟨_, (pss_one (ps_if (pt_not (pt_val (pe_callB call_isi (by rfl) B.isinstance (by decide +kernel) (pa_cons (pv 0) (pa_cons (pe_glob (v := .ref C) (by rfl) WK.mgC rfl) pa_nil)))))
    (pss_one ps_never) pss_nil)), ?_⟩
  exact ⟨_, rfl, _, _, _, _, true, rfl, .own C, .base (.ins h1 WK.cl WK.i1 WK.i2 WK.i3 WK.i4), WK.i5, _, rfl, iteF q⟩
end
end My
set_option maxHeartbeats 4000000
namespace My
open PySem L2 PyProof.Rows
theorem line400 {n : Nat} (h : n ≤ 400) : n ≤ sizeLine := Nat.le_trans h (by decide)
theorem RdAt.len {H : Hp} {l : Addr} {L : List (Str × Int)} (h : RdAt H l L) : ∃ xs, H l = some (.lst xs) ∧ xs.length = L.length := by
  obtain ⟨ts, h1, h2⟩ := h
  exact ⟨_, h1, by rw [List.length_map]; exact paired_len h2⟩
/-- a text -/
structure OkT (x : Str) : Prop where
  len : x.length ≤ 400
  let_ : ∀ c ∈ x.cps.toList, 97 ≤ c ∧ c ≤ 122
def PotOk (x y : Int) : Prop := 0 ≤ x ∧ 0 ≤ y ∧ y < 2147483590
def PotAt (H : Hp) (a : Addr) : Prop := ∃ x y : Int, H a = some (.lst [.int x, .int y]) ∧ PotOk x y
theorem PotAt.new {H : Hp} {a p : Addr} {o : HO} (h : PotAt H a) (np : H p = none) : PotAt (upd H p o) a := by
  obtain ⟨x, y, e, h⟩ := h
  exact ⟨x, y, by rw [upd_ne (ne_of_none e np)]; exact e, h⟩
theorem PotAt.put {H : Hp} {a p : Addr} {o : HO} (h : PotAt H a) (np : p ≠ a) : PotAt (upd H p o) a := by
  obtain ⟨x, y, e, h⟩ := h
  exact ⟨x, y, by rw [upd_ne np.symm]; exact e, h⟩
theorem PotAt.same {H H' : Hp} {a : Addr} (h : PotAt H a) (s : Same H H') : PotAt H' a := by
  obtain ⟨x, y, e, h⟩ := h
  exact ⟨x, y, s _ _ e, h⟩
theorem PotAt.ne {H : Hp} {a p : Addr} (h : PotAt H a) (np : H p = none) : p ≠ a := by
  obtain ⟨x, y, e, h⟩ := h
  exact (ne_of_none e np).symm
theorem PotAt.ntup {H : Hp} {a p : Addr} {xs : List V} (h : PotAt H a) (hp : H p = some (.tup xs)) : p ≠ a := by
  obtain ⟨x, y, e, h⟩ := h
  exact ne_of hp e (by intro q; cases q)
theorem Kept.new {H H' : Hp} {a p : Addr} {o : HO} (h : Kept a H H') (np : H' p = none) : Kept a H (upd H' p o) := h.trans (Same.kept (same_new np o))
theorem Kept.put {H H' : Hp} {a p : Addr} {o : HO} (h : Kept a H H') (np : H p = none) : Kept a H (upd H' p o) := fun b u e n => by
  rw [upd_ne (ne_of_none e np)]
  exact h b u e n
theorem RdAt.new {H : Hp} {l p : Addr} {L : List (Str × Int)} {o : HO} (h : RdAt H l L) (np : H p = none) : RdAt (upd H p o) l L := h.same (same_new np o)
theorem RdAt.kept {H H' : Hp} {a l : Addr} {L : List (Str × Int)} (h : RdAt H l L) (k : Kept a H H') (hp : PotAt H a) (hn : l ≠ a) : RdAt H' l L := by
  obtain ⟨ts, h1, h2⟩ := h
  exact ⟨ts, k _ _ h1 hn, paired_mono (fun p e hq => k _ _ hq (hp.ntup hq)) h2⟩
theorem RdAt.nil {H : Hp} {p : Addr} : RdAt (upd H p (.lst [])) p [] := ⟨[], upd_same, .nil⟩
theorem paired_end {α β : Type} {F : α → β → Prop} {a : α} {b : β} : ∀ {l1 : List α} {l2 : List β}, Paired F l1 l2 → F a b → Paired F (l1 ++ [a]) (l2 ++ [b])
  | _, _, .nil, h => .cons h .nil
  | _, _, .cons r t, h => .cons r (paired_end t h)
theorem RdAt.push {H : Hp} {p tp : Addr} {L : List (Str × Int)} {x : Str} {n : Int} (h : RdAt H p L) (nt : H tp = none) :
    ∃ xs, (upd H tp (.tup [.str x, .int n])) p = some (.lst xs) ∧ xs.length = L.length ∧ RdAt (upd (upd H tp (.tup [.str x, .int n])) p (.lst (xs ++ [.ref tp]))) p (L ++ [(x, n)]) := by
  obtain ⟨ts, h1, h2⟩ := h
  have npt : p ≠ tp := ne_of_none h1 nt
  refine ⟨ts.map V.ref, by rw [upd_ne npt]; exact h1, by rw [List.length_map]; exact paired_len h2, ts ++ [tp], by rw [upd_same, List.map_append]; rfl, paired_end (paired_mono (fun q e hq => ?_) h2) ?_⟩
  · have nqp : q ≠ p := ne_of hq h1 (by intro z; cases z)
    show upd _ _ _ q = _
    rw [upd_ne nqp, upd_ne (ne_of_none hq nt)]
    exact hq
  · show upd _ _ _ tp = _
    rw [upd_ne npt.symm, upd_same]
/-- a text of the law's own -/
structure OkL (x : Str) : Prop where
  ok : OkT x
  few : ∀ c ∈ x.cps.toList, c ≤ 99
theorem okT_nil : OkL (Str.ofString "") := ⟨⟨by decide +kernel, by decide +kernel⟩, by decide +kernel⟩
theorem str_app_len (x y : Str) : (x ++ y : Str).length = x.length + y.length := Array.size_append
theorem okT_app {x y : Str} (h : OkL x) (k : OkL y) (hl : x.length + y.length ≤ 400) : OkL (x ++ y) := by
  have mem : ∀ c ∈ (x ++ y : Str).cps.toList, c ∈ x.cps.toList ∨ c ∈ y.cps.toList := fun c hc => by
    have : c ∈ x.cps.toList ++ y.cps.toList := by
      rw [← Array.toList_append]
      exact hc
    exact List.mem_append.mp this
  refine ⟨⟨by rw [str_app_len]; exact hl, fun c hc => ?_⟩, fun c hc => ?_⟩
  · exact (mem c hc).elim (h.ok.let_ c) (k.ok.let_ c)
  · exact (mem c hc).elim (h.few c) (k.few c)
theorem okT_one {v : V} (h : v ∈ [V.str (Str.ofString "a"), V.str (Str.ofString "b"), V.str (Str.ofString "a"), V.str (Str.ofString "c")]) : ∃ x, v = .str x ∧ OkL x ∧ x.length = 1 := by
  simp only [List.mem_cons, List.not_mem_nil, or_false] at h
  rcases h with rfl | rfl | rfl | rfl
  · exact ⟨_, rfl, ⟨⟨by decide +kernel, by decide +kernel⟩, by decide +kernel⟩, by decide +kernel⟩
  · exact ⟨_, rfl, ⟨⟨by decide +kernel, by decide +kernel⟩, by decide +kernel⟩, by decide +kernel⟩
  · exact ⟨_, rfl, ⟨⟨by decide +kernel, by decide +kernel⟩, by decide +kernel⟩, by decide +kernel⟩
  · exact ⟨_, rfl, ⟨⟨by decide +kernel, by decide +kernel⟩, by decide +kernel⟩, by decide +kernel⟩
section
variable {P : Program} {w : World} {K : PySem.W.Frag} {mg : Str → Option Value} {base : Heap} {C CE CP : Addr}
def sp_law_pot (K : PySem.W.Frag) (_ _ : Addr) : Sp := fun vs H Q _ => ∃ a, ∃ ns : List Int, vs = [.ref a, .int 0] ∧ SqL K H a (ns.map V.int) ∧ ∀ p H', PotAt H' p → Same H H' → H p = none → Q (.ref p) H'
theorem ok_law_pot (D : Def K mg "_law_pot" s_law_pot ["_law_script", "_law_k"]) (B : Bs mg) (Glb : Glo mg) (WK : WebK K mg C) (EXBadText : ExcF P w K mg base "line" "BadText" CE) (EXe : PySem.W.exmOne K (.ref CE) (.ref CE) = some true) (kL : PySem.W.kitOne K (.ref C) (.type "list") = some false) (PX : PErr K mg CE CP) :
    Good P w K mg base "_law_pot" s_law_pot ["_law_script", "_law_k"] 1 (sp_law_pot K C CE) := by
  refine D.good fun f fd F => ?_
  refine F.ok sc_law_pot (fun vs H Q E h => ?_) (fun cdv A outer s H vs Q E hr h => ?_)
  · obtain ⟨a, ns, rfl, hS, q⟩ := h
    first | rfl | (rcases h with ⟨_, _, rfl, _⟩ | ⟨_, rfl, _⟩ <;> rfl)
  obtain ⟨a, ns, rfl, hS, q⟩ := h
  refine ⟨_, (pss_cons (ps_set (i := 2) sc_law_pot.nd rfl (by first | exact Or.inl rfl | exact Or.inr rfl) (pe_ifExp (pt_cmpR op_lt (pv 1) (pe_callB call_len_seq (by rfl) B.len (by decide +kernel) (pa_cons (pv 0) pa_nil)) (nomark _)) (pe_callB call_abs (by rfl) B.abs (by decide +kernel) (pa_cons (pe_ix ix_list (pv 0) (pv 1) (fun _ _ => rfl)) pa_nil)) (pe_op op_add (pe_op op_mul pe_int (pv 1)) pe_int)))
  (pss_one (ps_ret (pe_lst (pa_cons (pe_callB (call_max2 rfl) (by rfl) B.max (by decide +kernel) (pa_cons pe_int (pa_cons (pe_op op_sub (pv 2) (pe_op op_pow pe_int pe_int)) pa_nil))) (pa_cons (pe_op op_add (pe_op op_mod (pe_callTy call_int1 (by rfl) B.int (by decide +kernel) (pa_cons (pe_op op_add (pe_op op_add (pe_op op_mul (pe_op op_mod (pe_callTy call_int1 (by rfl) B.int (by decide +kernel) (pa_cons (pv 2) pa_nil)) pe_int) pe_int) (pe_op op_mul pe_int (pv 1))) pe_int) pa_nil)) pe_int) pe_int) pa_nil)))))), ?_⟩
  refine ⟨_, rfl, _, rfl, _, _, rfl, .inl hS, _, _, rfl, rfl, _, rfl, ?_⟩
  refine ite2 (fun c1 => ?pos) (fun c1 => ?neg)
  case' pos =>
    obtain ⟨n, rest, rfl⟩ : ∃ n rest, ns = n :: rest := by
      cases ns with
      | nil => exact absurd (of_decide_eq_true c1) (by decide)
      | cons n rest => exact ⟨n, rest, rfl⟩
    refine ⟨_, rfl, _, rfl, _, _, _, .int n, rfl, rfl, hS, atI_nat (j := 0) rfl, _, rfl, ?_⟩
    have hz0 : (0 : Int) ≤ (if n < 0 then -n else n) := by split <;> omega
  case' neg =>
    refine ⟨_, rfl, _, _, rfl, rfl, .inl ⟨by decide, by decide⟩, _, _, rfl, rfl, ?_⟩
    have hz0 : (0 : Int) ≤ (1063 * 0 + 827) := by decide
  all_goals
    refine ⟨_, rfl, _, _, rfl, rfl, ⟨by decide, by decide, by decide⟩, _, _, rfl, rfl, _, _, rfl, _, rfl, .inl ⟨_, rfl, _, _, rfl, rfl, (by show (0 : Int) < 2147483543; decide), _, _, rfl, rfl, .inl ⟨?_, ?_⟩, _, rfl, _, _, rfl, rfl, .inl ⟨by decide, by decide⟩, _, _, rfl, rfl, _, _, rfl, rfl, .inl ⟨_, rfl, _, _, rfl, rfl, (by show (0 : Int) < 2147483549; decide), _, _, rfl, rfl, (by show 2 ≤ sizeLine; decide), fun p np => q p _ ⟨_, _, upd_same, ?_, ?_, ?_⟩ (same_new np _) np⟩⟩⟩
    · omega
    · omega
    · split <;> omega
    · omega
    · omega
def sp_law_draw (_ : PySem.W.Frag) (_ _ : Addr) : Sp := fun vs H Q _ => ∃ a n, vs = [.ref a, .int ((n : Nat) : Int)] ∧ PotAt H a ∧ 0 < n ∧ n ≤ 1000 ∧ ∀ (d : Nat) H', d < n → Kept a H H' → PotAt H' a → Q (.int (d : Int)) H'
theorem ok_law_draw (D : Def K mg "_law_draw" s_law_draw ["_law_pot_here", "_law_size"]) (B : Bs mg) (Glb : Glo mg) (WK : WebK K mg C) (EXBadText : ExcF P w K mg base "line" "BadText" CE) (EXe : PySem.W.exmOne K (.ref CE) (.ref CE) = some true) (kL : PySem.W.kitOne K (.ref C) (.type "list") = some false) (PX : PErr K mg CE CP) :
    Good P w K mg base "_law_draw" s_law_draw ["_law_pot_here", "_law_size"] 1 (sp_law_draw K C CE) := by
  refine D.good fun f fd F => ?_
  refine F.ok sc_law_draw (fun vs H Q E h => ?_) (fun cdv A outer s H vs Q E hr h => ?_)
  · obtain ⟨a, n, rfl, ⟨x, y, ha, hx, hy, hy2⟩, hn, hn2, q⟩ := h
    first | rfl | (rcases h with ⟨_, _, rfl, _⟩ | ⟨_, rfl, _⟩ <;> rfl)
  obtain ⟨a, n, rfl, ⟨x, y, ha, hx, hy, hy2⟩, hn, hn2, q⟩ := h
  refine ⟨_, (pss_cons (ps_if (pt_cmpR op_gt (pe_ix ix_list (pv 0) pe_int (fun _ _ => rfl)) pe_int (nomark _))
    (pss_cons (ps_asg (pe_callB call_divmod (by rfl) B.divmod (by decide +kernel) (pa_cons (pe_ix ix_list (pv 0) pe_int (fun _ _ => rfl)) (pa_cons (pv 1) pa_nil))) (pg_tup rfl (pgs_cons (pg_sub (pv 0) pe_int set_list) (pgs_cons (pg_name (i := 2) sc_law_draw.nd rfl (by first | exact Or.inl rfl | exact Or.inr rfl)) pgs_nil))))
  (pss_one (ps_ret (pv 2)))) pss_nil)
  (pss_cons (ps_asg (pe_op op_mod (pe_callTy call_int1 (by rfl) B.int (by decide +kernel) (pa_cons (pe_op op_add (pe_op op_mul (pe_ix ix_list (pv 0) pe_int (fun _ _ => rfl)) pe_int) pe_int) pa_nil)) pe_int) (pg_sub (pv 0) pe_int set_list))
  (pss_one (ps_ret (pe_op op_mod (pe_callTy call_int1 (by rfl) B.int (by decide +kernel) (pa_cons (pe_op op_fdiv (pe_op op_mod (pe_callTy call_int1 (by rfl) B.int (by decide +kernel) (pa_cons (pe_op op_mul (pe_ix ix_list (pv 0) pe_int (fun _ _ => rfl)) (pe_ix ix_list (pv 0) pe_int (fun _ _ => rfl))) pa_nil)) pe_int) pe_int) pa_nil)) (pv 1)))))), ?_⟩
  refine ⟨_, rfl, _, _, _, .int x, rfl, rfl, SqL.of ha, rfl, _, _, rfl, rfl, _, rfl, ?_⟩
  refine ite2 (fun c1 => ?_) (fun c1 => ?_)
  · have hpos : (0 : Int) < x := of_decide_eq_true c1
    refine ⟨_, rfl, _, _, _, .int x, rfl, rfl, SqL.of ha, rfl, _, rfl, _, _, rfl, ⟨by omega, by omega⟩, fun p np => ?_⟩
    have hpa : a ≠ p := ne_of_none ha np
    have ha' : (upd H p (.tup [.int (x / (n : Int)), .int (x % (n : Int))])) a = some (.lst [.int x, .int y]) := by
      rw [upd_ne hpa]
      exact ha
    have ed : (((x % (n : Int)).toNat : Nat) : Int) = x % (n : Int) := Int.toNat_of_nonneg (Int.emod_nonneg _ (by omega))
    have el := Int.emod_lt_of_pos x (show (0 : Int) < (n : Int) by omega)
    refine ⟨_, _, rfl, SqT.of upd_same, rfl, _, _, rfl, _, rfl, _, _, _, 0, rfl, rfl, ha', rfl, _, _, rfl, rfl, ?_⟩
    refine ⟨_, rfl, ?_⟩
    have := q (x % (n : Int)).toNat (upd (upd H p (.tup [.int (x / (n : Int)), .int (x % (n : Int))])) a (.lst [.int (x / (n : Int)), .int y])) (by omega) (fun b o e nb => by rw [upd_ne nb, upd_ne (ne_of_none e np)]; exact e)
      ⟨_, _, upd_same, Int.ediv_nonneg hx (by omega), hy, hy2⟩
    rw [ed] at this
    exact this
  · refine ⟨_, rfl, _, _, _, .int y, rfl, rfl, SqL.of ha, rfl, _, _, rfl, rfl, .inl ⟨by omega, by omega⟩, _, _, rfl, rfl, .inl ⟨_, rfl, _, _, rfl, rfl, (by show (0 : Int) < 2147483549; decide), _, rfl, _, _, _, 1, rfl, rfl, ha, rfl, ?_⟩⟩
    have hz0 : (0 : Int) ≤ (y * 40853 + 31321) % 2147483549 := by omega
    have hz1 : (y * 40853 + 31321) % 2147483549 < (2147483549 : Int) := by omega
    refine ⟨_, rfl, _, _, _, .int ((y * 40853 + 31321) % 2147483549), rfl, rfl, SqL.of upd_same, rfl, _, rfl, _, _, _, .int ((y * 40853 + 31321) % 2147483549), rfl, rfl, SqL.of upd_same, rfl, _, _, rfl, rfl, .inl ⟨by omega, by omega⟩, .inl ⟨_, rfl, _, _, rfl, rfl, (by show (0 : Int) < 2147483543; decide), _, _, rfl, rfl, ⟨by decide, by decide⟩, .inl ⟨_, rfl, _, rfl, _, _, rfl, rfl, (by show (0 : Int) < (n : Int); omega), ?_⟩⟩⟩
    have fin : ∀ z : Int, 0 ≤ z → z < 2147483549 → Q (V.int (z * z % 2147483543 / 23 % (n : Int))) (upd H a (.lst [.int x, .int z])) := fun z hz0 hz1 => by
      have ed : (((z * z % 2147483543 / 23 % (n : Int)).toNat : Nat) : Int) = z * z % 2147483543 / 23 % (n : Int) := Int.toNat_of_nonneg (Int.emod_nonneg _ (by omega))
      have el := Int.emod_lt_of_pos (z * z % 2147483543 / 23) (show (0 : Int) < (n : Int) by omega)
      have := q (z * z % 2147483543 / 23 % (n : Int)).toNat (upd H a (.lst [.int x, .int z])) (by omega) (fun b o e nb => by rw [upd_ne nb]; exact e) ⟨_, _, upd_same, hx, hz0, by omega⟩
      rw [ed] at this
      exact this
    exact fin _ hz0 hz1
def sp_law_pick (K : PySem.W.Frag) (_ _ : Addr) : Sp := fun vs H Q _ => ∃ a l, ∃ xs : List V, vs = [.ref a, .ref l] ∧ H l = some (.lst xs) ∧ l ≠ a ∧ 0 < xs.length ∧ xs.length ≤ 1000 ∧ PotAt H a ∧ ∀ v H', v ∈ xs → Kept a H H' → PotAt H' a → Q v H'
theorem ok_law_pick (D : Def K mg "_law_pick" s_law_pick ["_law_pot_here", "_law_some"]) (B : Bs mg) (Glb : Glo mg) (WK : WebK K mg C) (EXBadText : ExcF P w K mg base "line" "BadText" CE) (EXe : PySem.W.exmOne K (.ref CE) (.ref CE) = some true) (kL : PySem.W.kitOne K (.ref C) (.type "list") = some false) (PX : PErr K mg CE CP)
    (h_law_draw : Good P w K mg base "_law_draw" s_law_draw ["_law_pot_here", "_law_size"] 1 (sp_law_draw K C CE)) :
    Good P w K mg base "_law_pick" s_law_pick ["_law_pot_here", "_law_some"] 2 (sp_law_pick K C CE) := by
  refine D.good fun f fd F => ?_
  obtain ⟨f_law_draw, d_law_draw, O_law_draw, m_law_draw, k_law_draw, b_law_draw, F_law_draw⟩ := h_law_draw
  refine F.ok sc_law_pick (fun vs H Q E h => ?_) (fun cdv A outer s H vs Q E hr h => ?_)
  · obtain ⟨a, l, xs, rfl, hl, hla, h0, hlen, hp, q⟩ := h
    first | rfl | (rcases h with ⟨_, _, rfl, _⟩ | ⟨_, rfl, _⟩ <;> rfl)
  obtain ⟨a, l, xs, rfl, hl, hla, h0, hlen, hp, q⟩ := h
  refine ⟨_, (pss_one (ps_ret (pe_ix ix_list (pv 1) (pe_call O_law_draw hr rfl m_law_draw k_law_draw b_law_draw .nil pass0 (pa_cons (pv 0) (pa_cons (pe_callB call_len_seq (by rfl) B.len (by decide +kernel) (pa_cons (pv 1) pa_nil)) pa_nil))) (fun _ _ => rfl)))), ?_⟩
  refine ⟨_, rfl, _, rfl, _, rfl, _, _, rfl, .inl (SqL.of hl), a, xs.length, rfl, hp, h0, hlen, fun d H' hd hk hp' => ?_⟩
  exact ⟨_, _, _, _, rfl, rfl, SqL.of (hk l _ hl hla), atI_nat (List.getElem?_eq_getElem hd), q _ H' (List.getElem_mem hd) hk hp'⟩
def sp_law_text (_ : PySem.W.Frag) (_ _ : Addr) : Sp := fun vs H Q _ => ∃ a m, vs = [.ref a, .int ((m : Nat) : Int)] ∧ PotAt H a ∧ m ≤ 10 ∧ ∀ x H', OkL x → x.length ≤ m → Kept a H H' → PotAt H' a → Q (.str x) H'
theorem ok_law_text (D : Def K mg "_law_text" s_law_text ["_law_pot_here", "_law_most"]) (B : Bs mg) (Glb : Glo mg) (WK : WebK K mg C) (EXBadText : ExcF P w K mg base "line" "BadText" CE) (EXe : PySem.W.exmOne K (.ref CE) (.ref CE) = some true) (kL : PySem.W.kitOne K (.ref C) (.type "list") = some false) (PX : PErr K mg CE CP)
    (h_law_draw : Good P w K mg base "_law_draw" s_law_draw ["_law_pot_here", "_law_size"] 1 (sp_law_draw K C CE))
    (h_law_pick : Good P w K mg base "_law_pick" s_law_pick ["_law_pot_here", "_law_some"] 2 (sp_law_pick K C CE)) :
    Good P w K mg base "_law_text" s_law_text ["_law_pot_here", "_law_most"] 3 (sp_law_text K C CE) := by
  refine D.good fun f fd F => ?_
  obtain ⟨f_law_draw, d_law_draw, O_law_draw, m_law_draw, k_law_draw, b_law_draw, F_law_draw⟩ := h_law_draw
  obtain ⟨f_law_pick, d_law_pick, O_law_pick, m_law_pick, k_law_pick, b_law_pick, F_law_pick⟩ := h_law_pick
  refine F.ok sc_law_text (fun vs H Q E h => ?_) (fun cdv A outer s H vs Q E hr h => ?_)
  · obtain ⟨a, m, rfl, hp, hm, q⟩ := h
    first | rfl | (rcases h with ⟨_, _, rfl, _⟩ | ⟨_, rfl, _⟩ <;> rfl)
  obtain ⟨a, m, rfl, hp, hm, q⟩ := h
  refine ⟨_, (pss_cons (ps_set (i := 2) sc_law_text.nd rfl (by first | exact Or.inl rfl | exact Or.inr rfl) pe_str)
  (pss_cons (ps_for PassesOwn.never rfl (pi_range1 (by rfl) B.range (pa_cons (pe_call O_law_draw (hr.mono (by decide)) rfl m_law_draw k_law_draw b_law_draw .nil pass0 (pa_cons (pv 0) (pa_cons (pe_op op_add (pv 1) pe_int) pa_nil))) pa_nil)) (pg_name (i := 3) sc_law_text.nd rfl (by first | exact Or.inl rfl | exact Or.inr rfl))
    (pss_one (ps_set (i := 2) sc_law_text.nd rfl (by first | exact Or.inl rfl | exact Or.inr rfl) (pe_op op_add_str (pv 2) (pe_call O_law_pick hr rfl m_law_pick k_law_pick b_law_pick .nil pass0 (pa_cons (pv 0) (pa_cons (pe_lst (pa_cons pe_str (pa_cons pe_str (pa_cons pe_str (pa_cons pe_str pa_nil))))) pa_nil)))))))
  (pss_one (ps_ret (pv 2))))), ?_⟩
  refine ⟨_, rfl, _, rfl, _, _, rfl, rfl, a, m + 1, rfl, hp, by omega, by omega, fun d H1 hd hk1 hp1 => ⟨_, rfl, by omega, by omega, ?_⟩⟩
  refine for_range (lo := 0) (n := d) (fun i σ H' => ∃ (v : Option V) (x : Str), σ = [some (.ref a), some (.int (m : Int)), some (.str x), v] ∧ x.length = i ∧ OkL x ∧ Kept a H H' ∧ PotAt H' a) ?_ ?_ ?_
  · exact ⟨none, _, rfl, by decide +kernel, okT_nil, hk1, hp1⟩
  · rintro i σ H2 hi ⟨v, x, rfl, hlen, hx, hk, hpp⟩
    refine ⟨_, rfl, _, rfl, (by show 4 ≤ sizeLine; decide), fun p np => ?_⟩
    have hpl : upd H2 p (.lst [V.str (Str.ofString "a"), V.str (Str.ofString "b"), V.str (Str.ofString "a"), V.str (Str.ofString "c")]) p = some (.lst [V.str (Str.ofString "a"), V.str (Str.ofString "b"), V.str (Str.ofString "a"), V.str (Str.ofString "c")]) := upd_same
    refine ⟨a, p, _, rfl, hpl, hpp.ne np, by simp, by simp, hpp.new np, fun y H3 hy hk3 hp3 => ?_⟩
    obtain ⟨z, rfl, hz, hz1⟩ := okT_one hy
    refine ⟨_, _, rfl, rfl, ?_, ?_⟩
    · rw [hlen, hz1]
      exact Nat.le_trans (by omega : i + 1 ≤ 400) (by decide)
    · exact ⟨_, x ++ z, rfl, by rw [str_app_len, hlen, hz1], okT_app hx hz (by omega), (hk.new np).trans hk3, hp3⟩
  · rintro σ H2 ⟨v, x, rfl, hlen, hx, hk, hpp⟩
    exact ⟨_, rfl, q x H2 hx (by omega) hk hpp⟩
def sp_law_readings (_ : PySem.W.Frag) (_ _ : Addr) : Sp := fun vs H Q _ => ∃ a m, vs = [.ref a, .int ((m : Nat) : Int)] ∧ PotAt H a ∧ m ≤ 10 ∧ ∀ l L H', L.length = m → (∀ e ∈ L, OkL e.1 ∧ e.1.length ≤ 5 ∧ 1 ≤ e.2 ∧ e.2 ≤ 20) → Kept a H H' → PotAt H' a → H l = none → RdAt H' l L → Q (.ref l) H'
theorem ok_law_readings (D : Def K mg "_law_readings" s_law_readings ["_law_pot_here", "_law_many"]) (B : Bs mg) (Glb : Glo mg) (WK : WebK K mg C) (EXBadText : ExcF P w K mg base "line" "BadText" CE) (EXe : PySem.W.exmOne K (.ref CE) (.ref CE) = some true) (kL : PySem.W.kitOne K (.ref C) (.type "list") = some false) (PX : PErr K mg CE CP)
    (h_law_text : Good P w K mg base "_law_text" s_law_text ["_law_pot_here", "_law_most"] 3 (sp_law_text K C CE))
    (h_law_draw : Good P w K mg base "_law_draw" s_law_draw ["_law_pot_here", "_law_size"] 1 (sp_law_draw K C CE)) :
    Good P w K mg base "_law_readings" s_law_readings ["_law_pot_here", "_law_many"] 4 (sp_law_readings K C CE) := by
  refine D.good fun f fd F => ?_
  obtain ⟨f_law_text, d_law_text, O_law_text, m_law_text, k_law_text, b_law_text, F_law_text⟩ := h_law_text
  obtain ⟨f_law_draw, d_law_draw, O_law_draw, m_law_draw, k_law_draw, b_law_draw, F_law_draw⟩ := h_law_draw
  refine F.ok sc_law_readings (fun vs H Q E h => ?_) (fun cdv A outer s H vs Q E hr h => ?_)
  · obtain ⟨a, m, rfl, hp, hm, q⟩ := h
    first | rfl | (rcases h with ⟨_, _, rfl, _⟩ | ⟨_, rfl, _⟩ <;> rfl)
  obtain ⟨a, m, rfl, hp, hm, q⟩ := h
  refine ⟨_, (pss_cons (ps_set (i := 2) sc_law_readings.nd rfl (by first | exact Or.inl rfl | exact Or.inr rfl) (pe_lst pa_nil))
  (pss_cons (ps_for PassesOwn.never rfl (pi_range1 (by rfl) B.range (pa_cons (pv 1) pa_nil)) (pg_name (i := 3) sc_law_readings.nd rfl (by first | exact Or.inl rfl | exact Or.inr rfl))
    (pss_one (ps_expr (pe_bm PySem.F.plainAttrs_list PySem.F.slot_list_append PySem.F.type_list_append mt_append (pv 2) (pa_cons (pe_tup (pa_cons (pe_call O_law_text hr rfl m_law_text k_law_text b_law_text .nil pass0 (pa_cons (pv 0) (pa_cons pe_int pa_nil))) (pa_cons (pe_op op_add pe_int (pe_call O_law_draw (hr.mono (by decide)) rfl m_law_draw k_law_draw b_law_draw .nil pass0 (pa_cons (pv 0) (pa_cons pe_int pa_nil)))) pa_nil))) pa_nil)))))
  (pss_one (ps_ret (pv 2))))), ?_⟩
  refine ⟨Nat.zero_le _, fun l nl => ?_⟩
  have hla : l ≠ a := hp.ne nl
  refine ⟨_, rfl, _, rfl, by omega, by omega, ?_⟩
  refine for_range (lo := 0) (n := m) (fun i σ H' => ∃ (v : Option V) (L : List (Str × Int)), σ = [some (.ref a), some (.int (m : Int)), some (.ref l), v] ∧ L.length = i ∧ (∀ e ∈ L, OkL e.1 ∧ e.1.length ≤ 5 ∧ 1 ≤ e.2 ∧ e.2 ≤ 20) ∧ Kept a H H' ∧ PotAt H' a ∧ RdAt H' l L) ?_ ?_ ?_
  · exact ⟨none, [], rfl, rfl, by simp, Same.kept (same_new nl _), hp.new nl, RdAt.nil⟩
  · rintro i σ H2 hi ⟨v, L, rfl, hlen, hL, hk, hpp, hT⟩
    obtain ⟨xs0, hxs0, _⟩ := hT.len
    refine ⟨_, rfl, .inl ⟨rfl, _, SqL.of hxs0⟩, _, rfl, a, 5, rfl, hpp, by decide, fun x H3 hx hx5 hk3 hp3 => ⟨_, rfl, a, 20, rfl, hp3, by decide, by decide, fun d H4 hd hk4 hp4 => ⟨_, _, rfl, rfl, (by show 2 ≤ sizeLine; decide), fun tp ntp => ?_⟩⟩⟩
    have hT4 := (hT.kept hk3 hpp hla).kept hk4 hp3 hla
    obtain ⟨xs, g1, g2, g3⟩ := hT4.push (x := x) (n := 1 + (d : Int)) ntp
    refine ⟨l, _, _, rfl, rfl, g1, by rw [g2, hlen]; exact Nat.lt_of_le_of_lt (by omega : i ≤ 100) (by decide), ?_⟩
    refine ⟨_, L ++ [(x, 1 + (d : Int))], rfl, by rw [List.length_append, hlen]; rfl, fun e he => ?_, (((hk.trans hk3).trans hk4).new ntp).put nl, (hp4.new ntp).put hla, g3⟩
    rcases List.mem_append.mp he with h | h
    · exact hL e h
    · rw [List.mem_singleton.mp h]
      exact ⟨hx, hx5, by show 1 ≤ 1 + (d : Int); omega, by show 1 + (d : Int) ≤ 20; omega⟩
  · rintro σ H2 ⟨v, L, rfl, hlen, hL, hk, hpp, hT⟩
    exact ⟨_, rfl, q l L H2 hlen hL hk hpp nl hT⟩
def sp_law_times (_ : PySem.W.Frag) (_ _ : Addr) : Sp := fun vs H Q _ => ∃ l L, vs = [.ref l] ∧ RdS H l L ∧ L.length ≤ 1000 ∧ ∀ H' d, Same H H' → H d = none → H' d = some (.dK (dT (sumT [] L))) → Q (.ref d) H'
theorem ok_law_times (D : Def K mg "_law_times" s_law_times ["_law_readings_here"]) (B : Bs mg) (Glb : Glo mg) (WK : WebK K mg C) (EXBadText : ExcF P w K mg base "line" "BadText" CE) (EXe : PySem.W.exmOne K (.ref CE) (.ref CE) = some true) (kL : PySem.W.kitOne K (.ref C) (.type "list") = some false) (PX : PErr K mg CE CP) :
    Good P w K mg base "_law_times" s_law_times ["_law_readings_here"] 1 (sp_law_times K C CE) := by
  refine D.good fun f fd F => ?_
  refine F.ok sc_law_times (fun vs H Q E h => ?_) (fun cdv A outer s H vs Q E hr h => ?_)
  · obtain ⟨l, L, rfl, ⟨ts, hl, hP⟩, hlen, q⟩ := h
    first | rfl | (rcases h with ⟨_, _, rfl, _⟩ | ⟨_, rfl, _⟩ <;> rfl)
  obtain ⟨l, L, rfl, ⟨ts, hl, hP⟩, hlen, q⟩ := h
  refine ⟨_, (pss_cons (ps_set (i := 1) sc_law_times.nd rfl (by first | exact Or.inl rfl | exact Or.inr rfl) pe_dnewK)
  (pss_cons (ps_for PassesOwn.never rfl (pi_or (pi_list (pv 0)) (pi_tup (pv 0))) (pg_tup rfl (pgs_cons (pg_name (i := 2) sc_law_times.nd rfl (by first | exact Or.inl rfl | exact Or.inr rfl)) (pgs_cons (pg_name (i := 3) sc_law_times.nd rfl (by first | exact Or.inl rfl | exact Or.inr rfl)) pgs_nil)))
    (pss_one (ps_dput (hu_of hr) (pv 1) (pv 2) (pe_op op_add (pe_dget2 (hu_of hr) (pv 1) (pv 2) pe_int ⟨rfl, rfl, rfl, rfl⟩) (pv 3)) rfl)))
  (pss_one (ps_ret (pv 1))))), ?_⟩
  intro d nd
  rcases hl with hl | hl
  case' inl => refine .inl ⟨_, rfl, l, rfl, ⟨_, SqL.of (same_new nd _ _ _ hl)⟩, for_list (K := K) (a := l) (xs := ts.map V.ref) (fun i σ H' => ∃ v2 v3 : Option V, σ = [some (.ref l), some (.ref d), v2, v3] ∧ Same H H' ∧ H' d = some (.dK (dT (sumT [] (L.take i))))) ⟨none, none, rfl, same_new nd _, upd_same⟩ (fun i σ H' _ ⟨_, _, _, hS', _⟩ => SqL.of (hS' _ _ hl)) ?_ ?_⟩
  case' inr => refine .inr ⟨_, rfl, l, rfl, ⟨_, SqT.of (same_new nd _ _ _ hl)⟩, for_tup (K := K) (a := l) (xs := ts.map V.ref) (fun i σ H' => ∃ v2 v3 : Option V, σ = [some (.ref l), some (.ref d), v2, v3] ∧ Same H H' ∧ H' d = some (.dK (dT (sumT [] (L.take i))))) ⟨none, none, rfl, same_new nd _, upd_same⟩ (fun i σ H' _ ⟨_, _, _, hS', _⟩ => SqT.of (hS' _ _ hl)) ?_ ?_⟩
  all_goals first
    | (rintro i x σ H1 hx ⟨v2, v3, rfl, hS, hd⟩
       obtain ⟨p, e, rfl, he, hpe⟩ := si_at hP hx
       have hp1 : H1 p = some (.tup [.str e.1, .int e.2]) := hS _ _ hpe
       refine ⟨p, _, rfl, SqT.of hp1, rfl, _, _, rfl, _, _, rfl, rfl, ?_⟩
       have hget : DGet H1 d (.str e.1) (valV (dT (sumT [] (L.take i))) (Sum.inr e.1 : Key)) := DGet.k (k := Sum.inr e.1) hd
       have hlt : (dT (sumT [] (L.take i))).length < sizeLine := by
         have h1 := sumT_len (L.take i) []
         rw [List.length_take] at h1
         rw [List.length_map]
         exact Nat.lt_of_le_of_lt (by simp at h1; omega : (sumT [] (L.take i)).length ≤ 1000) (by decide)
       refine ⟨_, rfl, d, rfl, .inl ⟨_, .inl hd⟩, _, rfl, _, hget, _, rfl, ?_⟩
       rw [dT_getD]
       refine ⟨_, _, rfl, rfl, _, rfl, _, rfl, d, _, rfl, DPut.k (k := Sum.inr e.1) hd hlt, ?_⟩
       rw [dT_put (sumT_nodup _ (by simp))]
       refine ⟨_, _, rfl, same_upd hS nd, ?_⟩
       rw [upd_same, take_snoc he, sumT_snoc])
    | (rintro σ H1 ⟨v2, v3, rfl, hS, hd⟩
       rw [List.length_map, paired_len hP, List.take_length] at hd
       exact ⟨_, rfl, q H1 d hS nd hd⟩)
end
end My
set_option maxHeartbeats 4000000
namespace My
open PySem L2 PyProof.Rows
theorem told_map (L : List (Str × Int)) : (L.map encSI).mergeSort (PySem.W.dataLe false id) = (told L).map encSI :=
  (List.map_mergeSort (f := encSI) (r := PySem.W.dataLe false encSI) (s := PySem.W.dataLe false id) (l := L) (fun a _ b _ => rfl)).symm
theorem sorted_rd {H : Hp} {ts : List Addr} {L : List (Str × Int)} (hP : Paired (SIAt H) ts L) : ∀ {zs : List V} {M : List (Str × Int)}, Paired (fun (z : V) (d : PyData) => ∃ j : Nat, (ts.map V.ref)[j]? = some z ∧ (L.map encSI)[j]? = some d) zs (M.map encSI) → ∃ us : List Addr, zs = us.map V.ref ∧ Paired (SIAt H) us M
  | _, [], .nil => ⟨[], rfl, .nil⟩
  | _, m :: M, .cons h t => by
    obtain ⟨us, rfl, hu⟩ := sorted_rd hP t
    obtain ⟨j, h1, h2⟩ := h
    obtain ⟨p, e, rfl, he, hpe⟩ := si_at hP h1
    rw [List.getElem?_map, he] at h2
    have h3 := Option.some.inj h2
    injection h3 with h4
    injection h4 with h5 h6
    injection h5 with h5
    injection h6 with h6 _
    injection h6 with h6
    have em : e = m := Prod.ext h5 h6
    subst em
    exact ⟨p :: us, rfl, .cons hpe hu⟩
theorem dp_si {K : PySem.W.Frag} {H : Hp} : ∀ {ts : List Addr} {L : List (Str × Int)}, Paired (SIAt H) ts L → DpAll K H (ts.map V.ref) (L.map encSI)
  | _, _, .nil => .nil
  | _, _, .cons h r => .cons (.tup (SqT.of h) (.cons (.str _) (.cons (.int _) .nil))) (dp_si r)
theorem told_len (L : List (Str × Int)) : (told L).length = L.length := (List.mergeSort_perm L _).length_eq
theorem told_mem {L : List (Str × Int)} {e : Str × Int} : e ∈ told L ↔ e ∈ L := (List.mergeSort_perm L _).mem_iff
theorem paired_ent {H : Hp} : ∀ {ts : List Addr} {D : List (Str × Int)}, Paired (fun (t : Addr) (q : Key × V) => H t = some (.tup [kV q.1, q.2])) ts (dT D) → Paired (SIAt H) ts D
  | _, [], .nil => .nil
  | _, e :: r, .cons h t => .cons h (paired_ent t)
theorem ent_paired {K : PySem.W.Frag} {H : Hp} : ∀ {ts : List Addr} {D : List (Str × Int)}, Paired (SIAt H) ts D → Paired (fun (p : Addr) (kv : Key × V) => SqT K H p [kV kv.1, kv.2]) ts (dT D)
  | _, [], .nil => .nil
  | _, e :: r, .cons h t => .cons (SqT.of h) (ent_paired t)
theorem merge_new : ∀ (L acc : List (Str × Int)), ((acc ++ L).map Prod.fst).Nodup → mergeK (dT acc) (dT L) = dT (acc ++ L)
  | [], acc, _ => by rw [List.append_nil]; rfl
  | e :: r, acc, hn => by
    have hx : e.1 ∉ acc.map Prod.fst := fun z => by
      rw [List.map_append, List.nodup_append] at hn
      exact hn.2.2 e.1 z e.1 (by simp) rfl
    have hv : valV (dT acc) (Sum.inr e.1 : Key) = none := by
      rw [dT_val]
      have : acc.find? (fun f => decide (f.1 = e.1)) = none := List.find?_eq_none.mpr fun f hf => by
        simp only [decide_eq_true_eq]
        intro z
        exact hx (List.mem_map.mpr ⟨f, hf, z⟩)
      rw [this]
      rfl
    have hp : putK (dT acc) (Sum.inr e.1 : Key) (.int e.2) = dT (acc ++ [e]) := by
      rw [putK_new _ hv]
      unfold dT
      rw [List.map_append]
      rfl
    show mergeK (putK (dT acc) (Sum.inr e.1 : Key) (.int e.2)) (dT r) = _
    rw [hp, merge_new r (acc ++ [e]) (by rw [List.append_assoc]; exact hn), List.append_assoc]
    rfl
theorem take_map {α β : Type} {f : α → β} {L : List α} {j : Nat} {x : α} (h : L[j]? = some x) : (L.map f).take (j + 1) = (L.map f).take j ++ [f x] := take_snoc (by rw [List.getElem?_map, h]; rfl)
/-- the dict's texts in sequence, each with its number -/
def inSeq (D : List (Str × Int)) : List (Str × Int) := ((D.map Prod.fst).mergeSort leS).map fun x => (x, getT D x)
theorem getT_mem {D : List (Str × Int)} (hn : (D.map Prod.fst).Nodup) {e : Str × Int} (h : e ∈ D) : getT D e.1 = e.2 := by
  induction D with
  | nil => cases h
  | cons f r ih =>
    have hn' := List.nodup_cons.mp (by simpa using hn : (f.1 :: r.map Prod.fst).Nodup)
    rcases List.mem_cons.mp h with z | z
    · subst z
      simp [getT]
    · have hne : ¬ f.1 = e.1 := fun q => hn'.1 (by rw [q]; exact List.mem_map.mpr ⟨e, z, rfl⟩)
      have s2 : getT (f :: r) e.1 = getT r e.1 := by simp [getT, List.find?_cons, hne]
      rw [s2]
      exact ih hn'.2 z
theorem inSeq_told {D : List (Str × Int)} (hn : (D.map Prod.fst).Nodup) : Told (inSeq D) := by
  unfold Told inSeq
  rw [List.pairwise_map]
  exact texts_of hn
theorem mem_inSeq {D : List (Str × Int)} (hn : (D.map Prod.fst).Nodup) (e : Str × Int) : e ∈ inSeq D ↔ e ∈ D := by
  unfold inSeq
  rw [List.mem_map]
  constructor
  · rintro ⟨x, hx, rfl⟩
    obtain ⟨f, hf, rfl⟩ := List.mem_map.mp ((List.mergeSort_perm _ leS).mem_iff.mp hx)
    rw [getT_mem hn hf]
    exact hf
  · intro h
    exact ⟨e.1, (List.mergeSort_perm _ leS).mem_iff.mpr (List.mem_map.mpr ⟨e, h, rfl⟩), by rw [getT_mem hn h]⟩
theorem told_inSeq {D : List (Str × Int)} (hn : (D.map Prod.fst).Nodup) : told D = inSeq D :=
  (told_of hn).unique (inSeq_told hn) fun e => told_mem.trans (mem_inSeq hn e).symm
/-- lots of the same numbers are told alike -/
theorem told_same {D E : List (Str × Int)} (hn : (D.map Prod.fst).Nodup) (kn : (E.map Prod.fst).Nodup) (h : ∀ e, e ∈ D ↔ e ∈ E) : told D = told E :=
  (told_of hn).unique (told_of kn) fun e => told_mem.trans ((h e).trans told_mem.symm)
theorem mem_get {D : List (Str × Int)} (hn : (D.map Prod.fst).Nodup) (e : Str × Int) : e ∈ D ↔ e.1 ∈ D.map Prod.fst ∧ getT D e.1 = e.2 := by
  constructor
  · intro h
    exact ⟨List.mem_map.mpr ⟨e, h, rfl⟩, getT_mem hn h⟩
  · rintro ⟨h1, h2⟩
    obtain ⟨f, hf, e1⟩ := List.mem_map.mp h1
    have e2 := getT_mem hn hf
    rw [e1, h2] at e2
    have : f = e := Prod.ext e1 e2.symm
    rw [← this]
    exact hf
theorem told_get {D E : List (Str × Int)} (hn : (D.map Prod.fst).Nodup) (kn : (E.map Prod.fst).Nodup) (h : ∀ x, x ∈ D.map Prod.fst ↔ x ∈ E.map Prod.fst) (k : ∀ x, getT D x = getT E x) : told D = told E :=
  told_same hn kn fun e => by rw [mem_get hn, mem_get kn, h, k]
/-- lists of pairs compared -/
theorem okT_str {x : Str} (h : OkT x) : PyData.strOk x = true := by
  unfold PyData.strOk
  rw [Array.all_eq_true']
  intro c hc
  have := h.let_ c (by simpa using hc)
  simp
  omega
theorem layAll_si : ∀ {L : List (Str × Int)}, (∀ e ∈ L, OkT e.1) → PyData.canLayAll0 (L.map encSI) = true
  | [], _ => rfl
  | e :: r, h => by
    show (PyData.canLay0 (encSI e) && PyData.canLayAll0 (r.map encSI)) = true
    rw [layAll_si fun f hf => h f (List.mem_cons_of_mem _ hf)]
    have hx := okT_str (h e List.mem_cons_self)
    simp only [encSI, PyData.canLay0, PyData.canLayAll0, Bool.and_true]
    exact hx
theorem depthAll_si (e : Str × Int) : ∀ r : List (Str × Int), PyData.depthAll ((e :: r).map encSI) = 1
  | [] => rfl
  | f :: r => by
    show max (PyData.depth (encSI e)) (PyData.depthAll ((f :: r).map encSI)) = 1
    rw [depthAll_si f r]
    rfl
theorem shaped_si : ∀ {L : List (Str × Int)}, (∀ e ∈ L, OkT e.1) → SeqAt.shaped (.list (L.map encSI)) = true
  | [], _ => shaped_iz []
  | e :: r, h => by
    unfold SeqAt.shaped
    have h1 : PyData.canLay0 (.list ((e :: r).map encSI)) = true := by
      unfold PyData.canLay0
      exact layAll_si h
    have h2 : PyData.depth (.list ((e :: r).map encSI)) = 2 := by
      unfold PyData.depth
      rw [depthAll_si]
    rw [h1, h2]
    rfl
theorem dp_rd {K : PySem.W.Frag} {H : Hp} {l : Addr} {L : List (Str × Int)} (h : RdAt H l L) : Dp K H (.ref l) (.list (L.map encSI)) := by
  obtain ⟨ts, h1, h2⟩ := h
  exact .lst (SqL.of h1) (dp_si h2)
theorem dT_some {x : Str} {D : List (Str × Int)} (h : x ∈ D.map Prod.fst) : valV (dT D) (Sum.inr x : Key) = some (.int (getT D x)) := by
  rw [dT_val]
  unfold getT
  cases e : D.find? fun e => decide (e.1 = x) with
  | none =>
    obtain ⟨f, hf, rfl⟩ := List.mem_map.mp h
    have := List.find?_eq_none.mp e f hf
    simp at this
  | some f => rfl
theorem keys_V (D : List (Str × Int)) : (dT D).map (fun kv => kV kv.1) = (D.map Prod.fst).map V.str := by
  unfold dT
  rw [List.map_map, List.map_map]
  rfl
theorem dp_strs {K : PySem.W.Frag} {H : Hp} : ∀ L : List Str, DpAll K H (L.map V.str) (L.map PyData.str)
  | [] => .nil
  | x :: r => .cons (.str x) (dp_strs r)
theorem strs_alike (L : List Str) : PySem.W.AllAlike (L.map PyData.str) := by
  intro d hd d' hd'
  obtain ⟨e, _, rfl⟩ := List.mem_map.mp hd
  obtain ⟨e', _, rfl⟩ := List.mem_map.mp hd'
  rfl
theorem strs_sortable (L : List Str) : PySem.W.Sortable (L.map PyData.str) := .others (enc := PyData.str) fun b => ⟨fun z => (by cases z), fun xs z => (by cases z)⟩
theorem strs_map (L : List Str) : (L.map PyData.str).mergeSort (PySem.W.dataLe false id) = (L.mergeSort leS).map PyData.str :=
  (List.map_mergeSort (f := PyData.str) (r := leS) (s := PySem.W.dataLe false id) (l := L) (fun a _ b _ => by rw [← dataLe_s]; rfl)).symm
theorem sorted_strs {L : List Str} : ∀ {zs : List V} {M : List Str}, Paired (fun (z : V) (d : PyData) => ∃ j : Nat, (L.map V.str)[j]? = some z ∧ (L.map PyData.str)[j]? = some d) zs (M.map PyData.str) → zs = M.map V.str
  | _, [], .nil => rfl
  | _, m :: M, .cons h t => by
    have := sorted_strs t
    obtain ⟨j, h1, h2⟩ := h
    obtain ⟨x, hx, rfl⟩ := str_at h1
    rw [List.getElem?_map, hx] at h2
    injection Option.some.inj h2 with h3
    rw [this, h3]
    rfl
section
variable {P : Program} {w : World} {K : PySem.W.Frag} {mg : Str → Option Value} {base : Heap} {C CE CP : Addr}
def sp_law_sorted (_ : PySem.W.Frag) (_ _ : Addr) : Sp := fun vs H Q _ => ∃ d D, vs = [.ref d] ∧ H d = some (.dK (dT D)) ∧ (D.map Prod.fst).Nodup ∧ D.length ≤ 90000 ∧ ∀ H' l, H l = none → Same H H' → RdAt H' l (told D) → Q (.ref l) H'
theorem ok_law_sorted (D : Def K mg "_law_sorted" s_law_sorted ["_law_told_here"]) (B : Bs mg) (Glb : Glo mg) (WK : WebK K mg C) (EXBadText : ExcF P w K mg base "line" "BadText" CE) (EXe : PySem.W.exmOne K (.ref CE) (.ref CE) = some true) (kL : PySem.W.kitOne K (.ref C) (.type "list") = some false) (PX : PErr K mg CE CP) :
    Good P w K mg base "_law_sorted" s_law_sorted ["_law_told_here"] 1 (sp_law_sorted K C CE) := by
  refine D.good fun f fd F => ?_
  refine F.ok sc_law_sorted (fun vs H Q E h => ?_) (fun cdv A outer s H vs Q E hr h => ?_)
  · obtain ⟨d, D, rfl, hd, hn, hlen, q⟩ := h
    first | rfl | (rcases h with ⟨_, _, rfl, _⟩ | ⟨_, rfl, _⟩ <;> rfl)
  obtain ⟨d, D, rfl, hd, hn, hlen, q⟩ := h
  refine ⟨_, (pss_one (ps_ret (pe_lc (own := [("_law_one", 1)]) (g := gName 1) (by rfl) sc_law_sorted.nd (pi_list (pe_callB (cr_sortD hr.units) (by rfl) B.sorted (by decide +kernel) (pa_cons (pe_callTy (call_listD rfl) (by rfl) B.list (by decide +kernel) (pa_cons (pv 0) pa_nil)) pa_nil))) (blkOk_by (own := [("_law_one", 1)]) (N := ["_law_told_here", "_law_one"]) (sc := defScope s_law_sorted) (by decide +kernel)) (fun _ _ _ _ _ => (pg_name (i := 1) sc_law_sorted.nd rfl (by first | exact Or.inl rfl | exact Or.inr rfl))) (fun _ _ _ _ _ => pts_nil) (fun _ _ _ _ _ => (pe_tup (pa_cons (pv 1) (pa_cons (pe_dget (hu_of hr) (pv 0) (pv 1) (by exact fun _ _ => rfl)) pa_nil))))))), ?_⟩
  refine ⟨_, rfl, d, dT D, rfl, .inl hd, fun kp nkp => ?_⟩
  rw [keys_V]
  refine ⟨kp, _, (D.map Prod.fst).map PyData.str, rfl, SqL.of upd_same, dp_strs _, strs_alike _, strs_sortable _, fun e he => ?_, by rw [List.length_map, List.length_map]; omega, fun zs p hz np => ?_⟩
  · obtain ⟨x, _, rfl⟩ := List.mem_map.mp he
    show (0 : Nat) ≤ 8
    decide
  rw [strs_map] at hz
  have ez := sorted_strs hz
  subst ez
  have hS1 : Same H (upd (upd H kp (.lst ((D.map Prod.fst).map V.str))) p (.lst (((D.map Prod.fst).mergeSort leS).map V.str))) := fun b o e => same_new np _ _ _ (same_new nkp _ _ _ e)
  have hp1 : (upd (upd H kp (.lst ((D.map Prod.fst).map V.str))) p (.lst (((D.map Prod.fst).mergeSort leS).map V.str))) p = some (.lst (((D.map Prod.fst).mergeSort leS).map V.str)) := upd_same
  generalize upd (upd H kp (.lst ((D.map Prod.fst).map V.str))) p (.lst (((D.map Prod.fst).mergeSort leS).map V.str)) = H1 at hS1 hp1
  have hml : ((D.map Prod.fst).mergeSort leS).length = D.length := by rw [(List.mergeSort_perm _ _).length_eq, List.length_map]
  refine ⟨p, rfl, ⟨_, SqL.of hp1⟩, fun R nR => ?_⟩
  refine lc_list (K := K) (a := p) (xs := ((D.map Prod.fst).mergeSort leS).map V.str) (fun i H' => Same H1 H' ∧ RdAt H' R ((inSeq D).take i)) ⟨same_new nR _, RdAt.nil⟩ (fun i H' _ ⟨hS', _⟩ => SqL.of (hS' _ _ hp1)) ?_ ?_
  · rintro i v H2 hv ⟨hS2, us, hR, hU⟩
    obtain ⟨x, hx, rfl⟩ := str_at hv
    have hxm : x ∈ D.map Prod.fst := (List.mergeSort_perm _ _).mem_iff.mp (List.mem_of_getElem? hx)
    have hil : i < D.length := by rw [← hml]; exact (List.getElem?_eq_some_iff.mp hx).1
    have hd2 := hS2 _ _ (hS1 _ _ hd)
    have hg : DGet H2 d (.str x) (some (.int (getT D x))) := by
      rw [← dT_some hxm]
      exact DGet.k (k := Sum.inr x) hd2
    refine ⟨rfl, _, rfl, _, rfl, _, rfl, d, _, rfl, hg, (by show 2 ≤ sizeLine; decide), fun tp ntp => ?_⟩
    have hRd : RdAt H2 R ((inSeq D).take i) := ⟨us, hR, hU⟩
    obtain ⟨xs, g1, g2, g3⟩ := hRd.push (x := x) (n := getT D x) ntp
    refine ⟨_, g1, ?_, same_upd (fun b o e => same_new ntp _ _ _ (hS2 _ _ e)) nR, ?_⟩
    · rw [g2, List.length_take]
      exact Nat.lt_of_le_of_lt (by omega : _ ≤ 90000) (by decide)
    · rw [show (inSeq D).take (i + 1) = (inSeq D).take i ++ [(x, getT D x)] from take_map hx]
      exact g3
  · rintro H2 ⟨hS2, hR⟩
    rw [List.length_map] at hR
    rw [show (inSeq D).take ((D.map Prod.fst).mergeSort leS).length = inSeq D from List.take_of_length_le (by unfold inSeq; rw [List.length_map]; exact Nat.le_refl _), ← told_inSeq hn] at hR
    exact q H2 R (hS1.free nR) (hS1.trans hS2) hR
end
end My
set_option maxHeartbeats 4000000
namespace My
open PySem L2 PyProof.Rows
theorem okT_of {x : Str} (h : isTx (.str x) = true) : OkT x := by
  have h : (decide (x.length ≤ 400) && x.cps.toList.all isA) = true := h
  simp only [Bool.and_eq_true, decide_eq_true_eq, List.all_eq_true] at h
  refine ⟨h.1, fun c hc => ?_⟩
  have := h.2 c hc
  unfold isA at this
  simpa only [Bool.and_eq_true, decide_eq_true_eq] using this
theorem letters_is (c : Nat) : c ∈ (Str.ofString "abcdefghijklmnopqrstuvwxyz").cps.toList ↔ isA c = true := by
  have e : (Str.ofString "abcdefghijklmnopqrstuvwxyz").cps.toList = List.range' 97 26 := by decide +kernel
  rw [e, List.mem_range'_1]
  unfold isA
  simp only [Bool.and_eq_true, decide_eq_true_eq]
  omega
section
variable {P : Program} {w : World} {K : PySem.W.Frag} {mg : Str → Option Value} {base : Heap} {C CE CP : Addr}
def sp_law_letters (_ : PySem.W.Frag) (_ _ : Addr) : Sp := fun vs H Q _ => ∃ x, vs = [.str x] ∧ x.length ≤ 1000 ∧ ∀ H', Same H H' → Q (.bl (x.cps.toList.all isA)) H'
theorem ok_law_letters (D : Def K mg "_law_letters" s_law_letters ["_law_word"]) (B : Bs mg) (Glb : Glo mg) (WK : WebK K mg C) (EXBadText : ExcF P w K mg base "line" "BadText" CE) (EXe : PySem.W.exmOne K (.ref CE) (.ref CE) = some true) (kL : PySem.W.kitOne K (.ref C) (.type "list") = some false) (PX : PErr K mg CE CP) :
    Good P w K mg base "_law_letters" s_law_letters ["_law_word"] 1 (sp_law_letters K C CE) := by
  refine D.good fun f fd F => ?_
  refine F.ok sc_law_letters (fun vs H Q E h => ?_) (fun cdv A outer s H vs Q E hr h => ?_)
  · obtain ⟨x, rfl, hx, q⟩ := h
    first | rfl | (rcases h with ⟨_, _, rfl, _⟩ | ⟨_, rfl, _⟩ <;> rfl)
  obtain ⟨x, rfl, hx, q⟩ := h
  refine ⟨_, (pss_one (ps_ret (pe_cmpR (op_eqN hr.units) (pe_lc (own := [("_law_sign", 1)]) (g := gName 1) (by rfl) sc_law_letters.nd (pi_str (pv 0)) (blkOk_by (own := [("_law_sign", 1)]) (N := ["_law_word", "_law_sign"]) (sc := defScope s_law_letters) (by decide +kernel)) (fun _ _ _ _ _ => (pg_name (i := 1) sc_law_letters.nd rfl (by first | exact Or.inl rfl | exact Or.inr rfl))) (fun _ _ _ _ _ => (pts_one (pt_cmpR op_notIn_str (pv 1) pe_str (by rfl)))) (fun _ _ _ _ _ => (pv 1))) (pe_lst pa_nil) (nomark _)))), ?_⟩
  refine ⟨_, rfl, _, rfl, fun D nD => lc_it walk_str (fun i H' => H' = upd H D (.lst (((x.cps.toList.take i).filter fun c => !isA c).map fun c => .str ⟨#[c]⟩))) rfl (fun _ _ _ _ => trivial) ?_ ?_⟩
  · rintro i y H1 H2 hi rfl ⟨rfl, c, hc, rfl⟩
    have hm : x.cps.toList[i]? = some c := by simpa using hc
    refine ⟨rfl, _, rfl, _, _, rfl, rfl, _, rfl, ?_⟩
    have eo : (!!(Builtin.Str.occurrences (Str.ofString "abcdefghijklmnopqrstuvwxyz") ⟨#[c]⟩ 0 (Str.ofString "abcdefghijklmnopqrstuvwxyz").length 1).isEmpty) = !isA c := by
      rw [StrLaws.found_one]
      cases e : isA c with
      | true => rw [decide_eq_true ((letters_is c).mpr e)]
      | false => rw [decide_eq_false fun z => by rw [(letters_is c).mp z] at e; cases e]
    rw [eo]
    rw [List.take_succ, hm, List.filter_append, List.map_append]
    have hlt : ((x.cps.toList.take i).filter fun c => !isA c).length ≤ 1000 := by
      have := List.length_filter_le (fun c => !isA c) (x.cps.toList.take i)
      rw [List.length_take] at this
      have h2 : i < x.length := hi
      omega
    cases e : isA c with
    | true =>
      refine iteF ?_
      show _ = upd H D (.lst (_ ++ (List.filter (fun c => !isA c) [c]).map _))
      rw [List.filter_cons, e]
      simp
    | false =>
      refine iteT ⟨_, rfl, _, upd_same, by rw [List.length_map]; exact Nat.lt_of_le_of_lt hlt (by decide), ?_⟩
      rw [upd_upd]
      show _ = upd H D (.lst (_ ++ (List.filter (fun c => !isA c) [c]).map _))
      rw [List.filter_cons, e]
      rfl
  · rintro H1 rfl
    have et : x.cps.toList.take x.cps.size = x.cps.toList := List.take_of_length_le (by simp)
    rw [show (x.cps.toList.take x.cps.size) = x.cps.toList from et]
    refine ⟨Nat.zero_le _, fun e0 ne0 => ⟨D, e0, _, rfl, rfl, SqL.of (same_new ne0 _ _ _ upd_same), SqL.of upd_same, fun z => ?_, fun z => ?_⟩⟩
    · have ea : x.cps.toList.all isA = true := by
        rw [List.all_eq_true]
        intro c hc
        have z := List.filter_eq_nil_iff.mp (List.map_eq_nil_iff.mp z) c hc
        simpa using z
      rw [← ea]
      exact q _ ((same_new nD _).trans (same_new ne0 _))
    · have ea : x.cps.toList.all isA = false := by
        cases e : x.cps.toList.all isA with
        | false => rfl
        | true =>
          refine absurd (List.map_eq_nil_iff.mpr (List.filter_eq_nil_iff.mpr fun c hc => ?_)) z
          rw [List.all_eq_true.mp e c hc]
          simp
      rw [← ea]
      exact q _ ((same_new nD _).trans (same_new ne0 _))
end
end My
namespace My
open PySem L2 PyProof.Rows
theorem eqv_e (e f : Str × Int) : PyData.eqv (encSI e) (encSI f) = decide (e = f) := by
  obtain ⟨x, n⟩ := e
  obtain ⟨y, m⟩ := f
  by_cases h : x = y
  · subst h
    by_cases k : n = m
    · subst k
      simp [encSI, PyData.eqv, PyData.eqvAll]
    · simp [encSI, PyData.eqv, PyData.eqvAll, k]
  · simp [encSI, PyData.eqv, PyData.eqvAll, h]
theorem eqvAll_si : ∀ M N : List (Str × Int), PyData.eqvAll (M.map encSI) (N.map encSI) = decide (M = N)
  | [], [] => rfl
  | [], _ :: _ => rfl
  | _ :: _, [] => rfl
  | e :: M, f :: N => by
    have ih := eqvAll_si M N
    show PyData.eqvAll (encSI e :: M.map encSI) (encSI f :: N.map encSI) = _
    rw [PyData.eqvAll, eqv_e, ih]
    by_cases h : e = f
    · subst h
      by_cases k : M = N
      · subst k; simp
      · simp [k]
    · simp [h]
theorem eqv_si (M N : List (Str × Int)) : PyData.eqv (.list (M.map encSI)) (.list (N.map encSI)) = decide (M = N) := by
  rw [PyData.eqv]
  exact eqvAll_si M N
section
variable {P : Program} {w : World} {K : PySem.W.Frag} {mg : Str → Option Value} {base : Heap} {C CE CP : Addr}
def spLot___eq__ (_ : PySem.W.Frag) (C _ : Addr) : Sp := fun vs H Q _ => ∃ a tl s M b, vs = [.ref a, .ref b] ∧ LotAt C a tl s M H ∧
  (∃ tb r N, LotAt C b tb r N H ∧ (∀ e ∈ M, OkT e.1) ∧ (∀ e ∈ N, OkT e.1) ∧ Q (.bl (decide (s = r ∧ M = N))) H)
theorem okLot___eq__ (D : DefM K C "__eq__" "Lot.__eq__" sLot___eq__ ["self", "other"]) (B : Bs mg) (Glb : Glo mg) (WK : WebK K mg C) (EXBadText : ExcF P w K mg base "line" "BadText" CE) (EXe : PySem.W.exmOne K (.ref CE) (.ref CE) = some true) (kL : PySem.W.kitOne K (.ref C) (.type "list") = some false) (PX : PErr K mg CE CP) :
    GoodM P w K mg base C "__eq__" "Lot.__eq__" sLot___eq__ ["self", "other"] 1 (spLot___eq__ K C CE) := by
  refine D.good fun f fd F => ?_
  refine F.ok scLot___eq__ (fun vs H Q E h => ?_) (fun cdv A outer s H vs Q E hr h => ?_)
  · obtain ⟨a, tl, s, M, b, rfl, hA, hB⟩ := h
    first | rfl | (rcases h with ⟨_, _, rfl, _⟩ | ⟨_, rfl, _⟩ <;> rfl)
  obtain ⟨a, tl, s, M, b, rfl, hA, hB⟩ := h
  refine ⟨_, (pss_one (ps_ret (pe_and (pe_callB call_isi (by rfl) B.isinstance (by decide +kernel) (pa_cons (pv 1) (pa_cons (pe_glob (v := .ref C) (by rfl) WK.mgC rfl) pa_nil))) (pe_and (pe_cmpR op_eq (pe_fld (pv 0) rfl) (pe_fld (pv 1) rfl) (nomark _)) (pe_one (pe_cmpR (op_eqD hr.units) (pe_fld (pv 0) rfl) (pe_fld (pv 1) rfl) (nomark _))))))), ?_⟩
  obtain ⟨dx, h1, h2⟩ := id hA
  obtain ⟨tb, r, N, hB, hM, hN, q⟩ := hB
  · obtain ⟨dy, k1, k2⟩ := id hB
    refine ⟨_, rfl, _, _, _, _, true, rfl, .own C, .base (.ins k1 WK.cl WK.i1 WK.i2 WK.i3 WK.i4), WK.i5, _, rfl, iteT ?_⟩
    refine ⟨_, rfl, a, C, dx, _, _, rfl, h1, WK.cl, WK.nS, lf_S _ _, _, rfl, b, C, dy, _, _, rfl, k1, WK.cl, WK.nS, lf_S _ _, rfl, _, rfl, ?_⟩
    by_cases c : s = r
    · refine iteYes (int_eq.mpr (by rw [c])) ?_
      refine ⟨_, rfl, a, C, dx, _, _, rfl, h1, WK.cl, WK.nT, lf_T _ _, _, rfl, b, C, dy, _, _, rfl, k1, WK.cl, WK.nT, lf_T _ _, _, _, dp_rd h2, dp_rd k2, shaped_si hM, shaped_si hN, ?_⟩
      rw [eqv_si]
      have e : decide (s = r ∧ M = N) = decide (M = N) := by simp [c]
      rw [e] at q
      exact q
    · refine iteNo (fun z => c (by have := int_eq.mp z; omega)) ?_
      have e : decide (s = r ∧ M = N) = false := by simp [c]
      rw [e] at q
      exact q
end
end My
set_option maxHeartbeats 4000000
namespace My
open PySem L2 PyProof.Rows
theorem line1002 {n : Nat} (h : n ≤ 1000) : n + 2 ≤ sizeLine := Nat.le_trans (by omega : n + 2 ≤ 1002) (by decide)
def dN : Option Nat → PyData
  | some n => .int ((n : Nat) : Int)
  | none => .none
theorem vd_ofN {H : Hp} : ∀ o : Option Nat, Vd H (ofN o) (dN o)
  | some n => .int _
  | none => .non
def inN (lo hi : Nat) (o : Option Nat) : Option Nat := o.bind fun n => if lo ≤ n ∧ n ≤ hi then some n else none
theorem btw_dN (lo hi : Nat) : ∀ o : Option Nat, (match dN o with | .int n => decide (((lo : Nat) : Int) ≤ n) && decide (n ≤ ((hi : Nat) : Int)) | _ => false) = (inN lo hi o).isSome
  | none => rfl
  | some n => by
    show (decide (((lo : Nat) : Int) ≤ ((n : Nat) : Int)) && decide (((n : Nat) : Int) ≤ ((hi : Nat) : Int))) = (if lo ≤ n ∧ n ≤ hi then some n else none).isSome
    by_cases h : lo ≤ n
    · by_cases k : n ≤ hi
      · rw [decide_eq_true (by omega), decide_eq_true (by omega), if_pos ⟨h, k⟩]; rfl
      · rw [decide_eq_false (p := (((n : Nat) : Int) ≤ _)) (by omega), if_neg (fun z => k z.2), Bool.and_false]; rfl
    · rw [decide_eq_false (by omega), if_neg (fun z => h z.1), Bool.false_and]; rfl
theorem inN_some {lo hi : Nat} {o : Option Nat} {n : Nat} (h : inN lo hi o = some n) : o = some n := by
  cases o with
  | none => cases h
  | some m =>
    have h : (if lo ≤ m ∧ m ≤ hi then some m else none) = some n := h
    split at h
    · exact h
    · cases h
theorem paired_at {α β : Type} {F : α → β → Prop} : ∀ {l1 : List α} {l2 : List β} {i : Nat} {b : β}, Paired F l1 l2 → l2[i]? = some b → ∃ a, l1[i]? = some a ∧ F a b
  | _, _, _, _, .nil, h => by simp at h
  | _, _, 0, _, .cons r _, h => ⟨_, rfl, by cases h; exact r⟩
  | _, _, i + 1, _, .cons _ t, h => by
    obtain ⟨b, h1, h2⟩ := paired_at (i := i) t (by simpa using h)
    exact ⟨b, by simpa using h1, h2⟩
theorem atI_back {α : Type} {xs : List α} {v : α} (h : xs[xs.length - 1]? = some v) : atI xs (-1) = some v := by
  obtain ⟨ys, rfl⟩ : ∃ ys, xs = ys ++ [v] := by
    rw [← List.getLast?_eq_getElem?] at h
    exact List.getLast?_eq_some_iff.mp h
  exact atI_last _ _
section
variable {P : Program} {w : World} {K : PySem.W.Frag} {mg : Str → Option Value} {base : Heap} {C CE CP : Addr}
def sp_size_of (_ : PySem.W.Frag) (_ _ : Addr) : Sp := fun vs H Q _ => ∃ l : Str, vs = [.str l] ∧ l.length ≤ 1000 ∧ ∀ H', Same H H' → Q (ofN (sizeL l)) H'
theorem ok_size_of (D : Def K mg "_size_of" s_size_of ["line"]) (B : Bs mg) (Glb : Glo mg) (WK : WebK K mg C) (EXBadText : ExcF P w K mg base "line" "BadText" CE) (EXe : PySem.W.exmOne K (.ref CE) (.ref CE) = some true) (kL : PySem.W.kitOne K (.ref C) (.type "list") = some false) (PX : PErr K mg CE CP)
    (hcount_of : Good P w K mg base "count_of" scount_of ["signs", "most"] 3 (spcount_of K C CE))
    (his_size : Good P w K mg base "is_size" sis_size ["value"] 3 (spis_size K C CE)) :
    Good P w K mg base "_size_of" s_size_of ["line"] 4 (sp_size_of K C CE) := by
  refine D.good fun f fd F => ?_
  obtain ⟨fcount_of, dcount_of, Ocount_of, mcount_of, kcount_of, bcount_of, Fcount_of⟩ := hcount_of
  obtain ⟨fis_size, dis_size, Ois_size, mis_size, kis_size, bis_size, Fis_size⟩ := his_size
  refine F.ok sc_size_of (fun vs H Q E h => ?_) (fun cdv A outer s H vs Q E hr h => ?_)
  · obtain ⟨l, rfl, hl, q⟩ := h
    first | rfl | (rcases h with ⟨_, _, rfl, _⟩ | ⟨_, rfl, _⟩ <;> rfl)
  obtain ⟨l, rfl, hl, q⟩ := h
  refine ⟨_, (pss_cons (ps_set (i := 1) sc_size_of.nd rfl (by first | exact Or.inl rfl | exact Or.inr rfl) (pe_split (pv 0) pe_str))
  (pss_cons (ps_if (PW.pt (pw_or (pt_cmpR op_ne (pe_callB call_len_seq (by rfl) B.len (by decide +kernel) (pa_cons (pv 1) pa_nil)) pe_int (nomark _)) (pw_or1 (pt_cmpR op_ne (pe_ix ix_list (pv 1) pe_int (fun _ _ => rfl)) pe_str (nomark _)))))
    (pss_one (ps_ret pe_non)) pss_nil)
  (pss_cons (ps_set (i := 2) sc_size_of.nd rfl (by first | exact Or.inl rfl | exact Or.inr rfl) (pe_call Ocount_of hr rfl mcount_of kcount_of bcount_of .nil pass0 (pa_cons (pe_ix ix_list (pv 1) pe_int (fun _ _ => rfl)) (pa_cons (pe_globI Glb.MOST_DIGITS) pa_nil))))
  (pss_one (ps_ret (pe_ifExp (pt_val (pe_call Ois_size hr rfl mis_size kis_size bis_size .nil pass0 (pa_cons (pv 2) pa_nil))) (pv 2) pe_non)))))), ?_⟩
  refine ⟨_, rfl, ⟨_, rfl⟩, _, _, rfl, rfl, (by decide +kernel), line1002 hl, fun p np => ?_⟩
  have S1 := same_new np (.lst ((Txt.split l (Str.ofString " ")).map V.str))
  have hp : upd H p (.lst ((Txt.split l (Str.ofString " ")).map V.str)) p = some (.lst ((wordsOf l).map V.str)) := upd_same
  generalize upd H p (.lst ((Txt.split l (Str.ofString " ")).map V.str)) = H1 at S1 hp
  have q := q H1 S1
  have hwl : ∀ x ∈ wordsOf l, x.length ≤ 1000 := fun x hx => Nat.le_trans (word_len hx) hl
  unfold sizeL at q
  generalize wordsOf l = ws at hp q hwl
  refine ⟨_, rfl, _, _, rfl, .inl (SqL.of hp), rfl, _, rfl, ?_⟩
  by_cases h2 : ws.length = 2
  case neg =>
    rw [sizeW_no h2] at q
    exact iteNot (fun z => h2 (by have := int_eq.mp z; rw [List.length_map] at this; omega)) q
  obtain ⟨a, b, rfl⟩ : ∃ a b, ws = [a, b] := by
    match ws, h2 with
    | [a, b], _ => exact ⟨a, b, rfl⟩
  refine iteNS (by rfl) ?_
  refine ⟨_, rfl, _, _, _, .str a, rfl, rfl, SqL.of hp, rfl, rfl, _, rfl, ?_⟩
  by_cases ha : a = sSz
  case neg =>
    rw [show sizeW [a, b] = none from if_neg ha] at q
    exact iteNot (fun z => ha (V.str.inj z)) q
  rw [show sizeW [a, b] = numN (TL.tl b) 2 8 from if_pos ha, ← cnt_num (by omega) (by omega)] at q
  replace q : Q (ofN (inN 2 8 (cntN (TL.tl b)))) H1 := q
  refine iteNS (by rw [ha]) ?_
  refine ⟨_, rfl, _, _, _, .str b, rfl, rfl, SqL.of hp, rfl, b, rfl, hwl b (by simp), ?_⟩
  refine ⟨_, rfl, _, _, rfl, vd_ofN _, _, rfl, iteB (fun h => ?_) (fun h => ?_)⟩
  · have h := (btw_dN 2 8 _).symm.trans h
    obtain ⟨n, e⟩ := Option.isSome_iff_exists.mp h
    rw [e] at q
    refine ⟨_, rfl, ?_⟩
    rw [inN_some e]
    exact q
  · have h := (btw_dN 2 8 _).symm.trans h
    rw [Option.isSome_eq_false_iff, Option.isNone_iff_eq_none] at h
    rw [h] at q
    exact q
def sp_reading_of (_ : PySem.W.Frag) (_ _ : Addr) : Sp := fun vs H Q _ => ∃ l : Str, vs = [.str l] ∧ l.length ≤ 1000 ∧ (readL1 l = none → ∀ H', Same H H' → Q .non H') ∧ (∀ e, readL1 l = some e → ∀ H' p, Same H H' → H p = none → SIAt H' p e → Q (.ref p) H')
theorem ok_reading_of (D : Def K mg "_reading_of" s_reading_of ["line"]) (B : Bs mg) (Glb : Glo mg) (WK : WebK K mg C) (EXBadText : ExcF P w K mg base "line" "BadText" CE) (EXe : PySem.W.exmOne K (.ref CE) (.ref CE) = some true) (kL : PySem.W.kitOne K (.ref C) (.type "list") = some false) (PX : PErr K mg CE CP)
    (hcount_of : Good P w K mg base "count_of" scount_of ["signs", "most"] 3 (spcount_of K C CE))
    (his_between : Good P w K mg base "is_between" sis_between ["value", "least", "most"] 2 (spis_between K C CE))
    (his_text : Good P w K mg base "is_text" sis_text ["value"] 2 (spis_text K C CE)) :
    Good P w K mg base "_reading_of" s_reading_of ["line"] 4 (sp_reading_of K C CE) := by
  refine D.good fun f fd F => ?_
  obtain ⟨fcount_of, dcount_of, Ocount_of, mcount_of, kcount_of, bcount_of, Fcount_of⟩ := hcount_of
  obtain ⟨fis_between, dis_between, Ois_between, mis_between, kis_between, bis_between, Fis_between⟩ := his_between
  obtain ⟨fis_text, dis_text, Ois_text, mis_text, kis_text, bis_text, Fis_text⟩ := his_text
  refine F.ok sc_reading_of (fun vs H Q E h => ?_) (fun cdv A outer s H vs Q E hr h => ?_)
  · obtain ⟨l, rfl, hl, qN, qS⟩ := h
    first | rfl | (rcases h with ⟨_, _, rfl, _⟩ | ⟨_, rfl, _⟩ <;> rfl)
  obtain ⟨l, rfl, hl, qN, qS⟩ := h
  refine ⟨_, (pss_cons (ps_set (i := 1) sc_reading_of.nd rfl (by first | exact Or.inl rfl | exact Or.inr rfl) (pe_split (pv 0) pe_str))
  (pss_cons (ps_if (PW.pt (pw_or (pt_cmpR op_ne (pe_callB call_len_seq (by rfl) B.len (by decide +kernel) (pa_cons (pv 1) pa_nil)) pe_int (nomark _)) (pw_or (pt_cmpR op_ne (pe_ix ix_list (pv 1) pe_int (fun _ _ => rfl)) pe_str (nomark _)) (pw_or1 (pt_cmpR op_eq (pe_ix ix_list (pv 1) pe_int (fun _ _ => rfl)) pe_str (nomark _))))))
    (pss_one (ps_ret pe_non)) pss_nil)
  (pss_cons (ps_set (i := 2) sc_reading_of.nd rfl (by first | exact Or.inl rfl | exact Or.inr rfl) (pe_call Ocount_of hr rfl mcount_of kcount_of bcount_of .nil pass0 (pa_cons (pe_ix ix_list (pv 1) pe_int (fun _ _ => rfl)) (pa_cons (pe_globI Glb.MOST_DIGITS) pa_nil))))
  (pss_cons (ps_set (i := 3) sc_reading_of.nd rfl (by first | exact Or.inl rfl | exact Or.inr rfl) (pe_ifExp (pt_cmpR op_eq (pe_ix ix_list (pv 1) pe_int (fun _ _ => rfl)) (pe_globT Glb.EMPTY) (nomark _)) pe_str (pe_ix ix_list (pv 1) pe_int (fun _ _ => rfl))))
  (pss_cons (ps_if (PW.pt (pw_or (pt_not (pt_val (pe_call Ois_between (hr.mono (by decide)) rfl mis_between kis_between bis_between .nil pass0 (pa_cons (pv 2) (pa_cons pe_int (pa_cons (pe_globI Glb.MOST_TIMES) pa_nil)))))) (pw_or1 (pt_not (pt_val (pe_call Ois_text (hr.mono (by decide)) rfl mis_text kis_text bis_text .nil pass0 (pa_cons (pv 3) pa_nil)))))))
    (pss_one (ps_ret pe_non)) pss_nil)
  (pss_one (ps_ret (pe_tup (pa_cons (pv 3) (pa_cons (pv 2) pa_nil)))))))))), ?_⟩
  refine ⟨_, rfl, ⟨_, rfl⟩, _, _, rfl, rfl, (by decide +kernel), line1002 hl, fun p np => ?_⟩
  have S1 := same_new np (.lst ((Txt.split l (Str.ofString " ")).map V.str))
  have hp : upd H p (.lst ((Txt.split l (Str.ofString " ")).map V.str)) p = some (.lst ((wordsOf l).map V.str)) := upd_same
  generalize upd H p (.lst ((Txt.split l (Str.ofString " ")).map V.str)) = H1 at S1 hp
  have hwl : ∀ x ∈ wordsOf l, x.length ≤ 1000 := fun x hx => Nat.le_trans (word_len hx) hl
  unfold readL1 at qN qS
  generalize wordsOf l = ws at hp qN qS hwl
  refine ⟨_, rfl, _, _, rfl, .inl (SqL.of hp), rfl, _, rfl, ?_⟩
  by_cases h2 : ws.length = 3
  case neg => exact iteNot (fun z => h2 (by have := int_eq.mp z; rw [List.length_map] at this; omega)) (qN (readW_no h2) _ S1)
  obtain ⟨a, b, c, rfl⟩ : ∃ a b c, ws = [a, b, c] := by
    match ws, h2 with
    | [a, b, c], _ => exact ⟨a, b, c, rfl⟩
  refine iteNS (by rfl) ?_
  refine ⟨_, rfl, _, _, _, .str a, rfl, rfl, SqL.of hp, rfl, rfl, _, rfl, ?_⟩
  by_cases ha : a = sRd
  case neg => exact iteNot (fun z => ha (V.str.inj z)) (qN (if_neg fun z => ha z.1) _ S1)
  refine iteNS (by rw [ha]) ?_
  refine ⟨_, rfl, _, _, _, .str c, rfl, rfl, SqL.of hp, rfl, rfl, _, rfl, ?_⟩
  by_cases hc : c = sEm
  · exact iteYes (by rw [hc]) (qN (if_neg fun z => z.2 hc) _ S1)
  refine iteNo (fun z => hc (V.str.inj z)) ?_
  have er : readW [a, b, c] = entL b c := if_pos ⟨ha, hc⟩
  rw [er] at qN qS
  unfold entL at qN qS
  rw [← cnt_num (l := TL.tl b) (lo := 1) (hi := 1200) (by omega) (by omega)] at qN qS
  replace qN : (match inN 1 1200 (cntN (TL.tl b)) with | some n => if txB (wordT c) = true then some (wordT c, (n : Int)) else none | none => none) = none → ∀ H', Same H H' → Q .non H' := qN
  replace qS : ∀ e, (match inN 1 1200 (cntN (TL.tl b)) with | some n => if txB (wordT c) = true then some (wordT c, (n : Int)) else none | none => none) = some e → ∀ H' p, Same H H' → H p = none → SIAt H' p e → Q (.ref p) H' := qS
  refine ⟨_, rfl, _, _, _, .str b, rfl, rfl, SqL.of hp, rfl, b, rfl, hwl b (by simp), ?_⟩
  refine ⟨_, rfl, _, _, _, .str c, rfl, rfl, SqL.of hp, rfl, rfl, _, rfl, ?_⟩
  by_cases hd : c = sDa
  case' pos =>
    refine iteYes (by rw [hd]) ?_
    have ht : wordT c = sEm := by unfold wordT; rw [if_pos hd]
    have htl : (sEm : Str).length ≤ 1000 := by decide +kernel
  case' neg =>
    refine iteNo (fun z => hd (V.str.inj z)) ⟨_, rfl, _, _, _, .str c, rfl, rfl, SqL.of hp, rfl, ?_⟩
    have ht : wordT c = c := by unfold wordT; rw [if_neg hd]
    have htl : c.length ≤ 1000 := hwl c (by simp)
  all_goals
    refine ⟨_, rfl, _, _, 1, 1200, rfl, vd_ofN _, _, rfl, iteNB (fun h => ?_) (fun h => ?_)⟩
    · have h := (btw_dN 1 1200 _).symm.trans h
      rw [Option.isSome_eq_false_iff, Option.isNone_iff_eq_none] at h
      rw [h] at qN
      exact qN rfl _ S1
    · have h := (btw_dN 1 1200 _).symm.trans h
      obtain ⟨n, en⟩ := Option.isSome_iff_exists.mp h
      rw [en, ht] at qN qS
      refine ⟨_, rfl, _, _, rfl, .str _ htl, _, rfl, iteNB (fun h => ?_) (fun h => ?_)⟩
      · exact qN (if_neg (by intro z; exact Bool.false_ne_true (h.symm.trans z))) _ S1
      · refine ⟨_, rfl, _, rfl, (by show 2 ≤ sizeLine; decide), fun tp ntp => ?_⟩
        refine qS _ (if_pos h) _ tp (S1.trans (same_new ntp _)) (S1.free ntp) ?_
        show upd H1 tp _ tp = _
        rw [upd_same, inN_some en]
        rfl
def sp_is_right (_ : PySem.W.Frag) (_ _ : Addr) : Sp := fun vs H Q _ => ∃ (l : Str) (t : Addr) (k : Nat) (L : List (Str × Int)), vs = [.str l, .int ((k : Nat) : Int), .ref t] ∧ l.length ≤ 1000 ∧ RdAt H t L ∧ L.length ≤ 60 ∧ ∀ H', Same H H' → Q (.bl (if k = 0 then (sizeL l).isSome else (nextL L l).isSome)) H'
theorem ok_is_right (D : Def K mg "_is_right" s_is_right ["line", "at", "told"]) (B : Bs mg) (Glb : Glo mg) (WK : WebK K mg C) (EXBadText : ExcF P w K mg base "line" "BadText" CE) (EXe : PySem.W.exmOne K (.ref CE) (.ref CE) = some true) (kL : PySem.W.kitOne K (.ref C) (.type "list") = some false) (PX : PErr K mg CE CP)
    (h_reading_of : Good P w K mg base "_reading_of" s_reading_of ["line"] 4 (sp_reading_of K C CE))
    (h_size_of : Good P w K mg base "_size_of" s_size_of ["line"] 4 (sp_size_of K C CE)) :
    Good P w K mg base "_is_right" s_is_right ["line", "at", "told"] 5 (sp_is_right K C CE) := by
  refine D.good fun f fd F => ?_
  obtain ⟨f_reading_of, d_reading_of, O_reading_of, m_reading_of, k_reading_of, b_reading_of, F_reading_of⟩ := h_reading_of
  obtain ⟨f_size_of, d_size_of, O_size_of, m_size_of, k_size_of, b_size_of, F_size_of⟩ := h_size_of
  refine F.ok sc_is_right (fun vs H Q E h => ?_) (fun cdv A outer s H vs Q E hr h => ?_)
  · obtain ⟨l, t, k, L, rfl, hl, hR, hL, q⟩ := h
    first | rfl | (rcases h with ⟨_, _, rfl, _⟩ | ⟨_, rfl, _⟩ <;> rfl)
  obtain ⟨l, t, k, L, rfl, hl, hR, hL, q⟩ := h
  refine ⟨_, (pss_cons (ps_if (pt_cmpR op_eq (pv 1) pe_int (nomark _))
    (pss_one (ps_ret (pe_cmpR op_notN (pe_call O_size_of hr rfl m_size_of k_size_of b_size_of .nil pass0 (pa_cons (pv 0) pa_nil)) pe_non (nomark _)))) pss_nil)
  (pss_cons (ps_set (i := 3) sc_is_right.nd rfl (by first | exact Or.inl rfl | exact Or.inr rfl) (pe_call O_reading_of hr rfl m_reading_of k_reading_of b_reading_of .nil pass0 (pa_cons (pv 0) pa_nil)))
  (pss_cons (ps_if (PW.pt (pw_or (pt_cmpR op_isN (pv 3) pe_non (nomark _)) (pw_or1 (pt_cmpR op_eq (pe_callB call_len_seq (by rfl) B.len (by decide +kernel) (pa_cons (pv 2) pa_nil)) (pe_globI Glb.MOST_READINGS) (nomark _)))))
    (pss_one (ps_ret pe_bl)) pss_nil)
  (pss_one (ps_ret (pe_or (pe_cmpR (op_eqN hr.units) (pv 2) (pe_lst pa_nil) (nomark _)) (pe_one (pe_cmpR op_lt_str (pe_ix ix_tup (pe_ix ix_list (pv 2) (pe_un un_neg pe_int) (fun _ _ => rfl)) pe_int (fun _ _ => rfl)) (pe_ix ix_tup (pv 3) pe_int (fun _ _ => rfl)) (nomark _))))))))), ?_⟩
  refine ⟨_, rfl, rfl, _, rfl, ?_⟩
  by_cases hk : k = 0
  · simp only [if_pos hk] at q
    refine iteYes (by rw [hk]; rfl) ⟨_, rfl, l, rfl, hl, fun H1 S1 => ?_⟩
    have q := q H1 S1
    refine ⟨rfl, ?_⟩
    cases e : sizeL l with
    | none => rw [e] at q; exact q
    | some n => rw [e] at q; exact q
  · simp only [if_neg hk] at q
    refine iteNo (fun z => hk (by have := int_eq.mp z; omega)) ⟨_, rfl, l, rfl, hl, fun e H1 S1 => ?_, fun e he H1 p S1 np hp => ?_⟩
    · have q := q H1 S1
      unfold nextL at q
      rw [e] at q
      exact ⟨_, rfl, rfl, _, rfl, iteYes rfl q⟩
    · have q := fun H' S' => q H' (S1.trans S')
      unfold nextL at q
      rw [he] at q
      obtain ⟨ts, hT, hP⟩ := hR.same S1
      have hpl := paired_len hP
      refine ⟨_, rfl, rfl, _, rfl, iteNo (fun z => nomatch z) ?_⟩
      refine ⟨_, rfl, _, _, rfl, .inl (SqL.of hT), rfl, _, rfl, ?_⟩
      by_cases h60 : L.length = 60
      · refine iteYes (by rw [List.length_map, hpl, h60]; rfl) ?_
        have q := q H1 (fun b u e => e)
        simp only [if_neg (show ¬ (L.length < 60 ∧ aheadB L e = true) from fun z => by omega)] at q
        exact q
      refine iteNo (fun z => h60 (by have := int_eq.mp z; rw [List.length_map] at this; omega)) ?_
      have q : ∀ H', Same H1 H' → Q (.bl (aheadB L e)) H' := fun H' S' => by
        have q := q H' S'
        cases ea : aheadB L e with
        | true => simp only [if_pos (show L.length < 60 ∧ aheadB L e = true from ⟨by omega, ea⟩)] at q; exact q
        | false => simp only [if_neg (show ¬ (L.length < 60 ∧ aheadB L e = true) from fun z => by rw [ea] at z; cases z.2)] at q; exact q
      refine ⟨_, rfl, Nat.zero_le _, fun e0 ne0 => ⟨t, e0, _, rfl, rfl, SqL.of (same_new ne0 _ _ _ hT), SqL.of upd_same, fun z => ?_, fun z => ?_⟩⟩
      · refine ⟨_, rfl, iteT ?_⟩
        have : L = [] := by
          have := congrArg List.length z
          rw [List.length_map, hpl] at this
          exact List.length_eq_zero_iff.mp this
        have q := q _ (same_new ne0 (.lst []))
        rw [this] at q
        exact q
      · refine ⟨_, rfl, iteF ?_⟩
        have S2 := same_new ne0 (.lst [])
        generalize upd H1 e0 (.lst []) = H2 at S2
        have hT2 := S2 _ _ hT
        obtain ⟨f, hf⟩ : ∃ f, L.getLast? = some f := by
          cases ef : L.getLast? with
          | none => exact absurd (by rw [List.getLast?_eq_none_iff.mp ef] at hpl; rw [List.eq_nil_of_length_eq_zero hpl]; rfl) z
          | some f => exact ⟨f, rfl⟩
        have hfl : L[L.length - 1]? = some f := by rw [← List.getLast?_eq_getElem?]; exact hf
        obtain ⟨pf, hpf, hsf⟩ := paired_at hP hfl
        have hsf2 : H2 pf = some (.tup [.str f.1, .int f.2]) := S2 _ _ hsf
        have hp2 : H2 p = some (.tup [.str e.1, .int e.2]) := S2 _ _ hp
        have q := q H2 S2
        unfold aheadB at q
        rw [hf] at q
        refine ⟨_, rfl, _, rfl, _, _, _, .ref pf, rfl, rfl, SqL.of hT2, atI_back (by rw [List.length_map, hpl, List.getElem?_map, hpf]; rfl), _, _, _, .str f.1, rfl, rfl, SqT.of hsf2, rfl, ?_⟩
        exact ⟨_, rfl, _, _, _, .str e.1, rfl, rfl, SqT.of hp2, rfl, _, _, rfl, rfl, q⟩
end
end My
set_option maxHeartbeats 4000000
namespace My
open PySem L2 PyProof.Rows
theorem lf_eq (s : Nat) (tl : Addr) : lf s tl = ([("_size", V.int (s : Int)), ("_told", V.ref tl)] : List (Str × V)) := by
  show (if ("_size" : Str) = "_told" then [(("_size" : Str), V.ref tl)] else (("_size" : Str), V.int (s : Int)) :: putF "_told" (V.ref tl) []) = ([("_size", V.int (s : Int)), ("_told", V.ref tl)] : List (Str × V))
  rw [if_neg (by decide +kernel)]
  all_goals rfl
theorem lf_put (s : Nat) (tl tm : Addr) : putF "_told" (.ref tm) (lf s tl) = lf s tm := by
  rw [lf_eq, lf_eq]
  show (if ("_size" : Str) = "_told" then _ else (("_size" : Str), V.int (s : Int)) :: (if ("_told" : Str) = "_told" then [(("_told" : Str), V.ref tm)] else _)) = ([("_size", V.int (s : Int)), ("_told", V.ref tm)] : List (Str × V))
  rw [if_neg (by decide +kernel), if_pos rfl]
section
variable {P : Program} {w : World} {K : PySem.W.Frag} {mg : Str → Option Value} {base : Heap} {C CE CP : Addr}
def splot_told (_ : PySem.W.Frag) (C _ : Addr) : Sp := fun vs H Q _ => ∃ s l L, vs = [.int ((s : Nat) : Int), .ref l] ∧ 2 ≤ s ∧ s ≤ 8 ∧ RdAt H l L ∧ L.length ≤ 60 ∧ (∀ e ∈ L, e.2 ≤ 1200) ∧ ∀ H' a tl, H a = none → H tl = none → Same H H' → LotAt C a tl s (told L) H' → Q (.ref a) H'
theorem oklot_told (D : Def K mg "lot_told" slot_told ["size", "told"]) (B : Bs mg) (Glb : Glo mg) (WK : WebK K mg C) (EXBadText : ExcF P w K mg base "line" "BadText" CE) (EXe : PySem.W.exmOne K (.ref CE) (.ref CE) = some true) (kL : PySem.W.kitOne K (.ref C) (.type "list") = some false) (PX : PErr K mg CE CP)
    (hLot___init__ : GoodJ P w K mg base C "__init__" "Lot.__init__" sLot___init__ ["self", "size", "readings"] 5 (spLot___init__ K C CE)) :
    Good P w K mg base "lot_told" slot_told ["size", "told"] 7 (splot_told K C CE) := by
  refine D.good fun f fd F => ?_
  obtain ⟨fLot___init__, dLot___init__, OLot___init__, MK, bLot___init__, FLot___init__⟩ := hLot___init__
  refine F.ok sclot_told (fun vs H Q E h => ?_) (fun cdv A outer s H vs Q E hr h => ?_)
  · obtain ⟨s, l, L, rfl, hs1, hs2, ⟨ts, hl, hP⟩, hlen, hok, q⟩ := h
    first | rfl | (rcases h with ⟨_, _, rfl, _⟩ | ⟨_, rfl, _⟩ <;> rfl)
  obtain ⟨s, l, L, rfl, hs1, hs2, ⟨ts, hl, hP⟩, hlen, hok, q⟩ := h
  refine ⟨_, (pss_cons (ps_if (pt_cmpR op_gt (pe_callB call_len_seq (by rfl) B.len (by decide +kernel) (pa_cons (pv 1) pa_nil)) (pe_globI Glb.MOST_READINGS) (nomark _))
    (pss_one ps_never) pss_nil)
  (pss_cons (ps_for PassesOwn.never rfl (pi_list (pv 1)) (pg_tup rfl (pgs_cons (pg_name (i := 2) sclot_told.nd rfl (by first | exact Or.inl rfl | exact Or.inr rfl)) (pgs_cons (pg_name (i := 3) sclot_told.nd rfl (by first | exact Or.inl rfl | exact Or.inr rfl)) pgs_nil)))
    (pss_one (ps_if (pt_cmpR op_gt (pv 3) (pe_globI Glb.MOST_TIMES) (nomark _))
    (pss_one ps_never) pss_nil)))
  (pss_cons (ps_set (i := 4) sclot_told.nd rfl (by first | exact Or.inl rfl | exact Or.inr rfl) (pe_make MK OLot___init__ (hr.mono (by decide)) rfl WK.mgC bLot___init__ .nil pass0 (pa_cons (pv 0) (pa_cons (pe_lst pa_nil) pa_nil))))
  (pss_cons (ps_fld (pv 4) (pe_callB (cr_sortD hr.units) (by rfl) B.sorted (by decide +kernel) (pa_cons (pv 1) pa_nil)) rfl)
  (pss_one (ps_ret (pv 4))))))), ?_⟩
  have hpl := paired_len hP
  refine ⟨_, rfl, _, _, rfl, .inl (SqL.of hl), _, _, rfl, rfl, _, rfl, iteNo (by rw [List.length_map]; omega) ?_⟩
  refine ⟨_, rfl, l, rfl, ⟨_, SqL.of hl⟩, for_list (K := K) (a := l) (xs := ts.map V.ref) (fun i σ H' => H' = H ∧ ∃ v2 v3 : Option V, σ = [some (.int (s : Int)), some (.ref l), v2, v3, none]) ⟨rfl, none, none, rfl⟩ (fun i σ H' _ ⟨e, _⟩ => by rw [e]; exact SqL.of hl) ?_ ?_⟩
  · rintro i x σ H2 hx ⟨rfl, v2, v3, rfl⟩
    obtain ⟨p, e, rfl, he, hpe⟩ := si_at hP hx
    have := hok e (List.mem_of_getElem? he)
    exact ⟨p, _, rfl, SqT.of hpe, rfl, _, _, rfl, _, _, rfl, rfl, _, rfl, _, _, rfl, rfl, _, rfl, iteNo (by omega) ⟨rfl, _, _, rfl⟩⟩
  rintro σ H2 ⟨rfl, v2, v3, rfl⟩
  refine ⟨_, rfl, Nat.zero_le _, fun el nel => fun x dx nx ndx ndxx => ?_⟩
  have hS2 : Same H2 (upd (upd (upd H2 el (.lst [])) dx (.own x)) x (.ins C dx [])) := fun b o e => by
    have e1 := same_new nel (.lst []) _ _ e
    rw [upd_ne (ne_of_none e1 nx), upd_ne (ne_of_none e1 ndx)]
    exact e1
  have nx0 : H2 x = none := (same_new nel (.lst [])).free nx
  have hel : (upd (upd (upd H2 el (.lst [])) dx (.own x)) x (.ins C dx [])) el = some (.lst ([].map V.ref)) := by
    have e1 : upd H2 el (.lst []) el = some (.lst []) := upd_same
    rw [upd_ne (ne_of_none e1 nx), upd_ne (ne_of_none e1 ndx)]
    exact e1
  refine ⟨x, dx, s, .ref el, .list [], rfl, hs1, hs2, .lst hel .nil, upd_same, fun _ _ _ _ _ H3 tl ntl hk hLot => ⟨rfl, ?_⟩, rfl⟩
  obtain ⟨dx', hx3, _⟩ := hLot
  have hS3 : Same H2 H3 := fun b o e => hk _ _ (hS2 _ _ e) (ne_of_none e nx0)
  have hP3 : Paired (SIAt H3) ts L := paired_mono (fun p e hp => hS3 _ _ hp) hP
  refine ⟨_, rfl, l, _, L.map encSI, rfl, SqL.of (hS3 _ _ hl), dp_si hP3, encSI_alike L, encSI_sortable L, fun d hd => ?_, by rw [List.length_map]; omega, fun zs p hz np => ?_⟩
  · obtain ⟨e, _, rfl⟩ := List.mem_map.mp hd
    show (1 : Nat) ≤ 8
    decide
  rw [told_map] at hz
  obtain ⟨us, rfl, hU⟩ := sorted_rd hP3 hz
  have npx : x ≠ p := ne_of_none hx3 np
  refine ⟨_, rfl, x, C, dx', _, rfl, (by rw [upd_ne npx]; exact hx3), WK.cl, WK.nT, by rw [lf_eq]; show 2 < 1000; decide, ?_⟩
  rw [lf_put]
  refine ⟨_, rfl, q _ x p nx0 (hS3.free np) (fun b o e => ?_) ⟨dx', upd_same, us, by rw [upd_ne npx.symm, upd_same], paired_mono (fun t e ht => ?_) hU⟩⟩
  · rw [upd_ne (ne_of_none e nx0), upd_ne (ne_of_none (hS3 _ _ e) np)]
    exact hS3 _ _ e
  · have ntx : t ≠ x := ne_of ht hx3 (by intro z; cases z)
    show upd _ _ _ t = _
    rw [upd_ne ntx, upd_ne (ne_of_none ht np)]
    exact ht
def splot_of (_ : PySem.W.Frag) (C CE : Addr) : Sp := fun vs H Q E => ∃ v d, vs = [v] ∧ Vd H v d ∧
  (isS d = false → ∀ H1 dd, Same H H1 → H1 dd = none → E (.ref CE) (some dd) (upd H1 dd (.xd [("line", .non)]))) ∧
  (∀ x, v = .str x → (∀ k : Nat, readT x = .inl k → ∀ H1 dd, Same H H1 → H1 dd = none → E (.ref CE) (some dd) (upd H1 dd (.xd [("line", .int (k : Int))]))) ∧
    ∀ s L, readT x = .inr (s, L) → ∀ H' a tl, Same H H' → H a = none → H tl = none → LotAt C a tl s L H' → Q (.ref a) H')
theorem oklot_of (D : Def K mg "lot_of" slot_of ["text"]) (B : Bs mg) (Glb : Glo mg) (WK : WebK K mg C) (EXBadText : ExcF P w K mg base "line" "BadText" CE) (EXe : PySem.W.exmOne K (.ref CE) (.ref CE) = some true) (kL : PySem.W.kitOne K (.ref C) (.type "list") = some false) (PX : PErr K mg CE CP)
    (hlot_told : Good P w K mg base "lot_told" slot_told ["size", "told"] 7 (splot_told K C CE))
    (h_size_of : Good P w K mg base "_size_of" s_size_of ["line"] 4 (sp_size_of K C CE))
    (h_is_right : Good P w K mg base "_is_right" s_is_right ["line", "at", "told"] 5 (sp_is_right K C CE))
    (h_reading_of : Good P w K mg base "_reading_of" s_reading_of ["line"] 4 (sp_reading_of K C CE)) :
    GoodX P w K mg base "lot_of" slot_of ["text"] 8 (splot_of K C CE) := by
  refine D.goodX fun f fd F => ?_
  obtain ⟨flot_told, dlot_told, Olot_told, mlot_told, klot_told, blot_told, Flot_told⟩ := hlot_told
  obtain ⟨f_size_of, d_size_of, O_size_of, m_size_of, k_size_of, b_size_of, F_size_of⟩ := h_size_of
  obtain ⟨f_is_right, d_is_right, O_is_right, m_is_right, k_is_right, b_is_right, F_is_right⟩ := h_is_right
  obtain ⟨f_reading_of, d_reading_of, O_reading_of, m_reading_of, k_reading_of, b_reading_of, F_reading_of⟩ := h_reading_of
  refine F.okX sclot_of (fun vs H Q E h => ?_) (fun cdv A outer s H vs Q E hr h => ?_)
  · obtain ⟨v, d, rfl, hv, qN, qT⟩ := h
    first | rfl | (rcases h with ⟨_, _, rfl, _⟩ | ⟨_, rfl, _⟩ <;> rfl)
  obtain ⟨v, d, rfl, hv, qN, qT⟩ := h
  refine ⟨_, (pss_cons (ps_if (pt_not (pt_val (pe_callB call_isi (by rfl) B.isinstance (by decide +kernel) (pa_cons (pv 0) (pa_cons (pe_bltn (v := .ty "str") (by rfl) B.str (by decide +kernel) rfl) pa_nil)))))
    (pss_one (ps_raise rfl (takes_of rfl rfl rfl rfl) (pmk_fld EXBadText (hr.mono (by decide)) (by rfl) (pa_cons pe_non pa_nil)))) pss_nil)
  (pss_cons (ps_asg (pe_split (pv 0) pe_str) (pg_starL (n := 2) rfl (pgs_star (pg_name (i := 1) sclot_of.nd rfl (by first | exact Or.inl rfl | exact Or.inr rfl)) (pgs_cons (pg_name (i := 2) sclot_of.nd rfl (by first | exact Or.inl rfl | exact Or.inr rfl)) pgs_nil)) (by decide)))
  (pss_cons (ps_set (i := 3) sclot_of.nd rfl (by first | exact Or.inl rfl | exact Or.inr rfl) (pe_lst pa_nil))
  (pss_cons (ps_for (passes_of rfl) rfl (pi_enum (by rfl) B.enumerate (pa_cons (pv 1) pa_nil)) (pg_tup rfl (pgs_cons (pg_name (i := 4) sclot_of.nd rfl (by first | exact Or.inl rfl | exact Or.inr rfl)) (pgs_cons (pg_name (i := 5) sclot_of.nd rfl (by first | exact Or.inl rfl | exact Or.inr rfl)) pgs_nil)))
    (pss_cons (ps_if (pt_not (pt_val (pe_call O_is_right (hr.mono (by decide)) rfl m_is_right k_is_right b_is_right .nil pass0 (pa_cons (pv 5) (pa_cons (pv 4) (pa_cons (pv 3) pa_nil))))))
    (pss_one (ps_raise rfl (takes_of rfl rfl rfl rfl) (pmk_fld EXBadText (hr.mono (by decide)) (by rfl) (pa_cons (pv 4) pa_nil)))) pss_nil)
  (pss_one (ps_if (pt_cmpR op_gt (pv 4) pe_int (nomark _))
    (pss_one (ps_expr (pe_bm PySem.F.plainAttrs_list PySem.F.slot_list_append PySem.F.type_list_append mt_append (pv 3) (pa_cons (pe_call O_reading_of (hr.mono (by decide)) rfl m_reading_of k_reading_of b_reading_of .nil pass0 (pa_cons (pv 5) pa_nil)) pa_nil)))) pss_nil))))
  (pss_cons (ps_if (PW.pt (pw_or (pt_cmpR op_ne (pv 2) pe_str (nomark _)) (pw_or1 (pt_cmpR (op_eqN hr.units) (pv 1) (pe_lst pa_nil) (nomark _)))))
    (pss_one (ps_raise rfl (takes_of rfl rfl rfl rfl) (pmk_fld EXBadText (hr.mono (by decide)) (by rfl) (pa_cons (pe_callB call_len_seq (by rfl) B.len (by decide +kernel) (pa_cons (pv 1) pa_nil)) pa_nil)))) pss_nil)
  (pss_one (ps_ret (pe_call Olot_told hr rfl mlot_told klot_told blot_told .nil pass0 (pa_cons (pe_call O_size_of (hr.mono (by decide)) rfl m_size_of k_size_of b_size_of .nil pass0 (pa_cons (pe_ix ix_list (pv 1) pe_int (fun _ _ => rfl)) pa_nil)) (pa_cons (pv 3) pa_nil)))))))))), ?_⟩
  refine ⟨_, rfl, _, _, _, _, _, rfl, .ty _, hv.ty, kit_ty (kit_str d), _, rfl, iteNB (fun h => ?_) (fun h => ?_)⟩
  · exact mkf fun dd ndd => qN h H dd (fun b u e => e) ndd
  cases hv <;> first | cases h | skip
  rename_i x hx
  obtain ⟨qE, qL⟩ := qT x rfl
  obtain ⟨W, rest, hW⟩ := lines_two x
  rw [readT_WR hW] at qE qL
  have hll : ∀ l ∈ W, l.length ≤ 1000 := fun l hl => Nat.le_trans (line_len (x := x) (by rw [hW]; exact List.mem_append.mpr (.inl hl))) hx
  have hWn : W.length + 1 ≤ 1001 := by
    have h1 := wid_len (linesOf x)
    rw [lines_wid, hW] at h1
    simp at h1
    omega
  refine ⟨_, rfl, ⟨_, rfl⟩, _, _, rfl, rfl, (by decide +kernel), line1002 hx, fun p0 np0 => ?_⟩
  have S1 := same_new np0 (.lst ((Txt.split x (Str.ofString "\n")).map V.str))
  have hp0 : upd H p0 (.lst ((Txt.split x (Str.ofString "\n")).map V.str)) p0 = some (.lst ((linesOf x).map V.str)) := upd_same
  generalize upd H p0 (.lst ((Txt.split x (Str.ofString "\n")).map V.str)) = H1 at S1 hp0
  refine ⟨p0, _, rfl, SqL.of hp0, by rw [List.length_map, hW]; simp, fun p np => ?_⟩
  have e1 : ((linesOf x).map V.str).drop (((linesOf x).map V.str).length + 1 - 2) = [V.str rest] := by
    rw [hW]
    simp
  have e2 : ((linesOf x).map V.str).take (((linesOf x).map V.str).length + 1 - 2) = W.map V.str := by
    rw [hW]
    simp
  rw [e1, e2]
  have S2 := S1.trans (same_new np (.lst (W.map V.str)))
  have hp : upd H1 p (.lst (W.map V.str)) p = some (.lst (W.map V.str)) := upd_same
  generalize upd H1 p (.lst (W.map V.str)) = H2 at S2 hp
  refine ⟨_, _, rfl, _, _, rfl, rfl, Nat.zero_le _, fun wl nwl => ?_⟩
  have S3 := S2.trans (same_new nwl (.lst []))
  have hR : RdAt (upd H2 wl (.lst [])) wl [] := RdAt.nil
  have hp3 := same_new nwl (.lst []) _ _ hp
  have nwl1 := nwl
  generalize upd H2 wl (.lst []) = H3 at S3 hR hp3
  have hwp : wl ≠ p := (ne_of_none hp nwl).symm
  refine ⟨_, rfl, p, _, rfl, SqL.of hp3, ?_⟩
  refine for_it (walk_enum (K := K) (a := p) (xs := W.map V.str)) (fun i σ H' => ∃ (v4 v5 : Option V) (L : List (Str × Int)), σ = [some (.str x), some (.ref p), some (.str rest), some (.ref wl), v4, v5] ∧ Same H H' ∧ H' p = some (.lst (W.map V.str)) ∧ RdAt H' wl L ∧ At_ W i L) ?_ ?_ ?_ ?_
  · exact ⟨none, none, [], rfl, S3, hp3, hR, .inl ⟨rfl, rfl⟩⟩
  · rintro i σ H' hi ⟨v4, v5, L, rfl, _, hp', _⟩
    exact SqL.of hp'
  · rintro i y σ H4 H5 hi ⟨v4, v5, L, rfl, S4, hp4, hR4, hA⟩ ⟨T0, x1, x2, rfl, nT0, rfl, e1, e2⟩
    cases e1
    rw [List.length_map] at hi
    replace e2 : (W.map V.str)[i]? = some x2 := e2
    obtain ⟨l, hl, rfl⟩ := str_at e2
    have hLl := hA.len (by omega)
    obtain ⟨a1, a2, a3⟩ := hA.ok
    have S5 := S4.trans (same_new nT0 (.tup [V.int (i : Int), .str l]))
    have hp5 := same_new nT0 (.tup [V.int (i : Int), .str l]) _ _ hp4
    have hR5 := hR4.same (same_new nT0 (.tup [V.int (i : Int), .str l]))
    have hT5 : upd H4 T0 (.tup [V.int (i : Int), .str l]) T0 = some (.tup [V.int (i : Int), .str l]) := upd_same
    generalize upd H4 T0 (.tup [V.int (i : Int), .str l]) = H5 at S5 hp5 hR5 hT5
    have hll1 := hll l (List.mem_of_getElem? hl)
    refine ⟨T0, _, rfl, SqT.of hT5, rfl, _, _, rfl, _, _, rfl, rfl, ?_⟩
    refine ⟨_, rfl, _, rfl, _, rfl, l, wl, i, L, rfl, hll1, hR5, a3, fun H6 S6 => ⟨_, rfl, iteNB (fun h => ?_) (fun h => ?_)⟩⟩
    · refine ⟨_, rfl, mkf fun dd ndd => qE i ?_ H6 dd (S5.trans S6) ndd⟩
      exact hA.bad hl h
    · have hp6 := S6 _ _ hp5
      have hR6 := hR5.same S6
      have S6' := S5.trans S6
      refine ⟨_, rfl, _, _, rfl, rfl, _, rfl, ?_⟩
      by_cases hi0 : i = 0
      · subst hi0
        refine iteNo (by omega) ?_
        rw [if_pos rfl] at h
        obtain ⟨s, hs⟩ := Option.isSome_iff_exists.mp h
        have hL0 : L = [] := List.eq_nil_of_length_eq_zero (by omega)
        subst hL0
        exact ⟨_, _, [], rfl, S6', hp6, hR6, hA.first hl hs⟩
      · refine iteYes (by omega) ?_
        rw [if_neg hi0] at h
        obtain ⟨e, he⟩ := Option.isSome_iff_exists.mp h
        obtain ⟨ts6, hw6, hP6⟩ := id hR6
        refine ⟨_, rfl, .inl ⟨rfl, _, SqL.of hw6⟩, _, rfl, l, rfl, hll1, fun z => ?_, fun e' he' H7 q S7 nq hq => ?_⟩
        · have hn := (nextL_is he).1
          have hEn := (nextL_is he).2.1
          rw [hn, readL1_lineB hEn] at z
          cases z
        · have hn := (nextL_is he).1
          have hEn := (nextL_is he).2.1
          rw [hn, readL1_lineB hEn] at he'
          cases he'
          have hw7 := S7 _ _ hw6
          have npw : q ≠ wl := (ne_of_none hw6 nq).symm
          refine ⟨wl, _, _, rfl, rfl, hw7, ?_, ?_⟩
          · rw [List.length_map, paired_len hP6]
            exact Nat.lt_of_le_of_lt (by omega : L.length ≤ 60) (by decide)
          · have hwn : H wl = none := S2.free nwl
            have hp7 := S7 _ _ hp6
            refine ⟨_, _, L ++ [e], rfl, same_upd (S6'.trans S7) hwn, ?_, ⟨ts6 ++ [q], ?_, ?_⟩, hA.next (by omega) hl he⟩
            · rw [upd_ne hwp.symm]
              exact hp7
            · rw [upd_same, List.map_append]
              rfl
            · refine paired_end (paired_mono (fun t f ht => ?_) hP6) ?_
              · have nt : t ≠ wl := ne_of ht hw6 (by intro z; cases z)
                show upd _ _ _ t = _
                rw [upd_ne nt]
                exact S7 _ _ ht
              · show upd _ _ _ q = _
                rw [upd_ne npw]
                exact hq
  · rintro σ H4 ⟨v4, v5, L, rfl, S4, hp4, hR4, hA⟩
    rw [List.length_map] at hA
    obtain ⟨a1, a2, a3⟩ := hA.ok
    have qE' : readWR W rest = .inl W.length → ∀ H1 dd, Same H H1 → H1 dd = none → E (.ref CE) (some dd) (upd H1 dd (.xd [("line", .int (((W.map V.str).length : Nat) : Int))])) := fun z => by
      rw [List.length_map]
      exact qE W.length z
    have bad : (rest ≠ sEm ∨ W = []) → readWR W rest = .inl W.length := fun z => by
      rcases hA.done rest with ⟨z1, z2⟩ | ⟨l, r, s, z1, z2, z3⟩
      · rw [z2, z1]; rfl
      · rw [z3, if_neg]
        rcases z with z | z
        · exact z
        · rw [z] at z1; cases z1
    refine ⟨_, rfl, rfl, _, rfl, ?_⟩
    by_cases hr : rest = sEm
    case neg =>
      refine iteNot (fun z => hr (V.str.inj z)) ?_
      exact ⟨_, rfl, _, _, rfl, .inl (SqL.of hp4), mkf fun dd ndd => qE' (bad (.inl hr)) H4 dd S4 ndd⟩
    refine iteNS (by rw [hr]) ?_
    refine ⟨_, rfl, Nat.zero_le _, fun e0 ne0 => ?_⟩
    have S5 := S4.trans (same_new ne0 (.lst []))
    have hp5 := same_new ne0 (.lst []) _ _ hp4
    have hR5 := hR4.same (same_new ne0 (.lst []))
    have he5 : upd H4 e0 (.lst []) e0 = some (.lst []) := upd_same
    generalize upd H4 e0 (.lst []) = H5 at S5 hp5 hR5 he5
    refine ⟨p, e0, _, rfl, rfl, SqL.of hp5, SqL.of he5, fun z => ?_, fun z => ?_⟩
    · refine ⟨_, rfl, iteT ?_⟩
      exact ⟨_, rfl, _, _, rfl, .inl (SqL.of hp5), mkf fun dd ndd => qE' (bad (.inr (List.map_eq_nil_iff.mp z))) H5 dd S5 ndd⟩
    · refine ⟨_, rfl, iteF ?_⟩
      rcases hA.done rest with ⟨z1, _⟩ | ⟨l, r, s, z1, z2, z3⟩
      · exact absurd (by rw [z1]; rfl) z
      rw [if_pos hr] at z3
      obtain ⟨_, hs1, hs2⟩ := sizeL_is z2
      refine ⟨_, rfl, _, _, _, .str l, rfl, rfl, SqL.of hp5, atI_nat (j := 0) (by rw [z1]; rfl), l, rfl, hll l (by rw [z1]; simp), fun H6 S6 => ?_⟩
      rw [z2]
      refine ⟨_, rfl, s, wl, L, rfl, hs1, hs2, hR5.same S6, a3, fun e he => (a1 e he).hi, fun H7 a tl na ntl S7 hLot => ?_⟩
      rw [show told L = L from rise_told a2] at hLot
      have S8 := S5.trans S6
      exact qL s L z3 H7 a tl (S8.trans S7) (S8.free na) (S8.free ntl) hLot
end
end My
set_option maxHeartbeats 4000000
namespace My
open PySem L2 PyProof.Rows
theorem digits_is (c : Nat) : c ∈ (Str.ofString "0123456789").cps.toList ↔ isD c = true := by
  have e : (Str.ofString "0123456789").cps.toList = List.range' 48 10 := by decide +kernel
  rw [e, List.mem_range'_1]
  unfold isD
  simp only [Bool.and_eq_true, decide_eq_true_eq]
  omega
section
variable {P : Program} {w : World} {K : PySem.W.Frag} {mg : Str → Option Value} {base : Heap} {C CE CP : Addr}
def sp_law_number (_ : PySem.W.Frag) (_ _ : Addr) : Sp := fun vs H Q _ => ∃ (x : Str) (lo hi : Nat), vs = [.str x, .int ((lo : Nat) : Int), .int ((hi : Nat) : Int)] ∧ x.length ≤ 1000 ∧ ∀ H', Same H H' → Q (ofN (numN (TL.tl x) lo hi)) H'
theorem ok_law_number (D : Def K mg "_law_number" s_law_number ["_law_word", "_law_least", "_law_most"]) (B : Bs mg) (Glb : Glo mg) (WK : WebK K mg C) (EXBadText : ExcF P w K mg base "line" "BadText" CE) (EXe : PySem.W.exmOne K (.ref CE) (.ref CE) = some true) (kL : PySem.W.kitOne K (.ref C) (.type "list") = some false) (PX : PErr K mg CE CP) :
    Good P w K mg base "_law_number" s_law_number ["_law_word", "_law_least", "_law_most"] 1 (sp_law_number K C CE) := by
  refine D.good fun f fd F => ?_
  refine F.ok sc_law_number (fun vs H Q E h => ?_) (fun cdv A outer s H vs Q E hr h => ?_)
  · obtain ⟨x, lo, hi, rfl, hx, q⟩ := h
    first | rfl | (rcases h with ⟨_, _, rfl, _⟩ | ⟨_, rfl, _⟩ <;> rfl)
  obtain ⟨x, lo, hi, rfl, hx, q⟩ := h
  refine ⟨_, (pss_cons (ps_if (PW.pt (pw_or (pt_cmpR op_eq (pv 0) pe_str (nomark _)) (pw_or (pt_cmpR (op_neN hr.units) (pe_lc (own := [("_law_sign", 3)]) (g := gName 3) (by rfl) sc_law_number.nd (pi_str (pv 0)) (blkOk_by (own := [("_law_sign", 3)]) (N := ["_law_word", "_law_least", "_law_most", "_law_sign"]) (sc := defScope s_law_number) (by decide +kernel)) (fun _ _ _ _ _ => (pg_name (i := 3) sc_law_number.nd rfl (by first | exact Or.inl rfl | exact Or.inr rfl))) (fun _ _ _ _ _ => (pts_one (pt_cmpR op_notIn_str (pv 3) pe_str (by rfl)))) (fun _ _ _ _ _ => (pv 3))) (pe_lst pa_nil) (nomark _)) (pw_or1 (pt_cmpR op_gt (pe_callB call_len_str (by rfl) B.len (by decide +kernel) (pa_cons (pv 0) pa_nil)) pe_int (nomark _))))))
    (pss_one (ps_ret pe_non)) pss_nil)
  (pss_cons (ps_if (PW.pt (pw_or (pt_cmpR op_eq (pe_ix ix_str (pv 0) pe_int (fun _ _ => rfl)) pe_str (nomark _)) (pw_or1 (pt_not (pt_chain op_le op_le (pv 1) (pe_callTy call_int_str (by rfl) B.int (by decide +kernel) (pa_cons (pv 0) pa_nil)) (pv 2))))))
    (pss_one (ps_ret pe_non)) pss_nil)
  (pss_one (ps_ret (pe_callTy call_int_str (by rfl) B.int (by decide +kernel) (pa_cons (pv 0) pa_nil)))))), ?_⟩
  have hll := TL.len_tl x
  have no : (¬ (TL.tl x ≠ [] ∧ digB (TL.tl x) = true ∧ (TL.tl x).length ≤ 9 ∧ (TL.tl x).head? ≠ some 48 ∧ lo ≤ NumText.digitsVal (TL.tl x) ∧ NumText.digitsVal (TL.tl x) ≤ hi)) → ∀ H', Same H H' → Q .non H' := fun z H' S' => by
    have q := q H' S'
    unfold numN at q
    rw [if_neg z] at q
    exact q
  refine ⟨_, rfl, rfl, _, rfl, ?_⟩
  by_cases hx0 : x = sEm
  · refine iteYes (by rw [hx0]) (no (fun z => z.1 (by rw [hx0]; decide +kernel)) _ (fun b u e => e))
  refine iteNo (fun z => hx0 (V.str.inj z)) ?_
  obtain ⟨c, r, ec⟩ : ∃ c r, TL.tl x = c :: r := by
    cases e : TL.tl x with
    | nil => exact absurd (TL.ext_tl (by rw [e]; decide +kernel)) hx0
    | cons c r => exact ⟨c, r, rfl⟩
  refine ⟨_, rfl, _, rfl, fun D nD => lc_it walk_str (fun i H' => H' = upd H D (.lst (((x.cps.toList.take i).filter fun c => !isD c).map fun c => .str ⟨#[c]⟩))) rfl (fun _ _ _ _ => trivial) ?_ ?_⟩
  · rintro i y H1 H2 hi rfl ⟨rfl, c, hc, rfl⟩
    have hm : x.cps.toList[i]? = some c := by simpa using hc
    refine ⟨rfl, _, rfl, _, _, rfl, rfl, _, rfl, ?_⟩
    have eo : (!!(Builtin.Str.occurrences (Str.ofString "0123456789") ⟨#[c]⟩ 0 (Str.ofString "0123456789").length 1).isEmpty) = !isD c := by
      rw [StrLaws.found_one]
      cases e : isD c with
      | true => rw [decide_eq_true ((digits_is c).mpr e)]
      | false => rw [decide_eq_false fun z => by rw [(digits_is c).mp z] at e; cases e]
    rw [eo]
    rw [List.take_succ, hm, List.filter_append, List.map_append]
    have hlt : ((x.cps.toList.take i).filter fun c => !isD c).length ≤ 1000 := by
      have := List.length_filter_le (fun c => !isD c) (x.cps.toList.take i)
      rw [List.length_take] at this
      have h2 : i < x.length := hi
      omega
    cases e : isD c with
    | true =>
      refine iteF ?_
      show _ = upd H D (.lst (_ ++ (List.filter (fun c => !isD c) [c]).map _))
      rw [List.filter_cons, e]
      simp
    | false =>
      refine iteT ⟨_, rfl, _, upd_same, by rw [List.length_map]; exact Nat.lt_of_le_of_lt hlt (by decide), ?_⟩
      rw [upd_upd]
      show _ = upd H D (.lst (_ ++ (List.filter (fun c => !isD c) [c]).map _))
      rw [List.filter_cons, e]
      rfl
  · rintro H1 rfl
    have et : x.cps.toList.take x.cps.size = x.cps.toList := List.take_of_length_le (by simp)
    rw [show (x.cps.toList.take x.cps.size) = x.cps.toList from et]
    have S1 : Same H (upd H D (.lst ((x.cps.toList.filter fun c => !isD c).map fun c => .str ⟨#[c]⟩))) := same_new nD _
    have hD1 : upd H D (.lst ((x.cps.toList.filter fun c => !isD c).map fun c => .str ⟨#[c]⟩)) D = some (.lst ((x.cps.toList.filter fun c => !isD c).map fun c => .str ⟨#[c]⟩)) := upd_same
    generalize upd H D (.lst ((x.cps.toList.filter fun c => !isD c).map fun c => .str ⟨#[c]⟩)) = H1 at S1 hD1
    refine ⟨Nat.zero_le _, fun e0 ne0 => ?_⟩
    have S2 := S1.trans (same_new ne0 (.lst []))
    refine ⟨D, e0, _, rfl, rfl, SqL.of (same_new ne0 _ _ _ hD1), SqL.of upd_same, fun z => ?_, fun z => ?_⟩
    · have ea : digB (TL.tl x) = true := by
        rw [← digB_all, List.all_eq_true]
        intro c hc
        have z := List.filter_eq_nil_iff.mp (List.map_eq_nil_iff.mp z) c hc
        simpa using z
      refine ⟨_, rfl, iteF ?_⟩
      generalize upd H1 e0 (.lst []) = H2 at S2
      refine ⟨_, rfl, _, rfl, line1000 hx, _, _, rfl, rfl, _, rfl, ?_⟩
      by_cases h9 : x.length ≤ 9
      case neg => exact iteYes (by omega) (no (fun z => by have := z.2.2.1; omega) _ S2)
      refine iteNo (by omega) ?_
      refine ⟨_, rfl, _, _, c, rfl, rfl, line1000 hx, (by show atI (TL.tl x) 0 = _; rw [ec]; exact atI_nat (j := 0) rfl), rfl, _, rfl, ?_⟩
      have one : (V.str ⟨#[c]⟩ = V.str (Str.ofString "0")) ↔ c = 48 := by
        rw [of_0]
        exact ⟨fun z => by injection z with z; injection z with z; injection z with z; injection z, fun z => by rw [z]⟩
      by_cases h48 : c = 48
      · exact iteYes (one.mpr h48) (no (fun z => z.2.2.2.1 (by rw [ec, h48]; rfl)) _ S2)
      refine iteNo (fun z => h48 (one.mp z)) ?_
      have hcan : CanN (TL.tl x) := ⟨digB_iff.mp ea, by rw [ec]; simp, .inl (by rw [ec]; exact fun z => h48 (Option.some.inj z))⟩
      have hint := int_can hcan (by omega)
      generalize hdv : NumText.digitsVal (TL.tl x) = dv at no hint
      have yes : lo ≤ dv → dv ≤ hi → Q (.int ((dv : Nat) : Int)) H2 := fun l1 l2 => by
        have q := q H2 S2
        unfold numN at q
        rw [hdv, if_pos ⟨by rw [ec]; simp, ea, by omega, by rw [ec]; exact fun z => h48 (Option.some.inj z), l1, l2⟩] at q
        exact q
      refine ⟨_, rfl, _, rfl, x, _, rfl, hint, by omega, _, _, rfl, rfl, _, rfl, ?_⟩
      by_cases l1 : lo ≤ dv
      case neg => exact iteNo (by omega) ⟨_, rfl, iteT (no (fun z => l1 z.2.2.2.2.1) _ S2)⟩
      refine iteYes (by omega) ⟨_, rfl, _, _, rfl, rfl, _, rfl, ?_⟩
      by_cases l2 : dv ≤ hi
      case neg => exact iteNot (by omega) (no (fun z => l2 z.2.2.2.2.2) _ S2)
      refine iteNot' (by omega) ?_
      exact ⟨_, rfl, x, _, rfl, hint, by omega, yes l1 l2⟩
    · refine ⟨_, rfl, iteT ?_⟩
      refine no (fun y => z ?_) _ S2
      rw [List.map_eq_nil_iff, List.filter_eq_nil_iff]
      intro c hc
      have := List.all_eq_true.mp (show (TL.tl x).all isD = true from y.2.1) c hc
      rw [this]
      simp
end
end My
set_option maxHeartbeats 4000000
namespace My
open PySem L2 PyProof.Rows
theorem cutV_most {xs : List V} (h : 0 < xs.length) : cutV xs none (some (-1)) = xs.take (xs.length - 1) := by
  unfold cutV
  rw [HT.sIx_none]
  have : HT.sIx xs.length xs.length (some (-1)) = xs.length - 1 := by
    show (if (-1 : Int) < 0 then ((-1 : Int) + (xs.length : Int)).toNat else min (-1 : Int).toNat xs.length) = _
    rw [if_pos (by decide)]
    omega
  rw [this]
  rfl
theorem cutV_from {xs : List V} {k : Nat} : cutV xs (some (k : Int)) none = xs.drop k := by
  unfold cutV
  rw [HT.sIx_none, HT.sIx_nat]
  by_cases h : k ≤ xs.length
  · rw [Nat.min_eq_left h, List.take_of_length_le (by rw [List.length_drop]; omega)]
  · rw [Nat.min_eq_right (by omega), List.drop_of_length_le (by omega), List.drop_of_length_le (by omega)]
    simp
def lastV (L : List (Str × Int)) : V := match L.getLast? with
  | none => .non
  | some f => .str f.1
theorem tC_eq {v u : V} {σ : L2.St} {H : Hp} {Q : VK} (e : u = v) (h : tC u σ H Q) : tC v σ H Q := e ▸ h
theorem ahead_last {L : List (Str × Int)} {e : Str × Int} : aheadB L e = match lastV L with | .str y => !decide (¬ (y.cps.toList < e.1.cps.toList)) | _ => true := by
  unfold aheadB lastV
  cases L.getLast? with
  | none => rfl
  | some f =>
    show decide (sLt f.1 e.1) = !decide (¬ sLt f.1 e.1)
    by_cases h : sLt f.1 e.1 <;> simp [h]
theorem lastV_snoc (L : List (Str × Int)) (e : Str × Int) : lastV (L ++ [e]) = .str e.1 := by
  unfold lastV
  rw [List.getLast?_concat]
section
variable {P : Program} {w : World} {K : PySem.W.Frag} {mg : Str → Option Value} {base : Heap} {C CE CP : Addr}
def sp_law_read (_ : PySem.W.Frag) (_ _ : Addr) : Sp := fun vs H Q _ => ∃ x : Str, vs = [.str x] ∧ x.length ≤ 1000 ∧
  (∀ k : Nat, readT x = .inl k → ∀ H' t, Same H H' → H' t = some (.tup [.int (k : Int), .non, .non]) → Q (.ref t) H') ∧
  ∀ s L, readT x = .inr (s, L) → ∀ H' t l, Same H H' → H' t = some (.tup [.non, .int ((s : Nat) : Int), .ref l]) → RdAt H' l L → Q (.ref t) H'
theorem ok_law_read (D : Def K mg "_law_read" s_law_read ["_law_text_here"]) (B : Bs mg) (Glb : Glo mg) (WK : WebK K mg C) (EXBadText : ExcF P w K mg base "line" "BadText" CE) (EXe : PySem.W.exmOne K (.ref CE) (.ref CE) = some true) (kL : PySem.W.kitOne K (.ref C) (.type "list") = some false) (PX : PErr K mg CE CP)
    (h_law_number : Good P w K mg base "_law_number" s_law_number ["_law_word", "_law_least", "_law_most"] 1 (sp_law_number K C CE))
    (h_law_letters : Good P w K mg base "_law_letters" s_law_letters ["_law_word"] 1 (sp_law_letters K C CE)) :
    Good P w K mg base "_law_read" s_law_read ["_law_text_here"] 2 (sp_law_read K C CE) := by
  refine D.good fun f fd F => ?_
  obtain ⟨f_law_number, d_law_number, O_law_number, m_law_number, k_law_number, b_law_number, F_law_number⟩ := h_law_number
  obtain ⟨f_law_letters, d_law_letters, O_law_letters, m_law_letters, k_law_letters, b_law_letters, F_law_letters⟩ := h_law_letters
  refine F.ok sc_law_read (fun vs H Q E h => ?_) (fun cdv A outer s H vs Q E hr h => ?_)
  · obtain ⟨x, rfl, hx, qE, qL⟩ := h
    first | rfl | (rcases h with ⟨_, _, rfl, _⟩ | ⟨_, rfl, _⟩ <;> rfl)
  obtain ⟨x, rfl, hx, qE, qL⟩ := h
  refine ⟨_, (pss_cons (ps_set (i := 1) sc_law_read.nd rfl (by first | exact Or.inl rfl | exact Or.inr rfl) (pe_split (pv 0) pe_str))
  (pss_cons (ps_par3 (i := 2) (j := 3) (l := 4) (by rfl) sc_law_read.nd rfl rfl rfl (by decide) (by decide) (by decide) rfl rfl rfl (pa_cons (pe_slice sl_list (pv 1) po_none (po_some (pe_un un_neg pe_int))) (pa_cons pe_non (pa_cons (pe_lst pa_nil) pa_nil))) (by rfl))
  (pss_cons (ps_if (pt_cmpR (op_eqN hr.units) (pv 2) (pe_lst pa_nil) (nomark _))
    (pss_one (ps_ret (pe_tup (pa_cons pe_int (pa_cons pe_non (pa_cons pe_non pa_nil)))))) pss_nil)
  (pss_cons (ps_set (i := 5) sc_law_read.nd rfl (by first | exact Or.inl rfl | exact Or.inr rfl) (pe_split (pe_ix ix_list (pv 2) pe_int (fun _ _ => rfl)) pe_str))
  (pss_cons (ps_set (i := 6) sc_law_read.nd rfl (by first | exact Or.inl rfl | exact Or.inr rfl) (pe_ifExp (PW.pt (pw_and (pt_cmpR op_eq (pe_callB call_len_seq (by rfl) B.len (by decide +kernel) (pa_cons (pv 5) pa_nil)) pe_int (nomark _)) (pw_and1 (pt_cmpR op_eq (pe_ix ix_list (pv 5) pe_int (fun _ _ => rfl)) pe_str (nomark _))))) (pe_call O_law_number hr rfl m_law_number k_law_number b_law_number .nil pass0 (pa_cons (pe_ix ix_list (pv 5) pe_int (fun _ _ => rfl)) (pa_cons pe_int (pa_cons pe_int pa_nil)))) pe_non))
  (pss_cons (ps_if (pt_cmpR op_isN (pv 6) pe_non (nomark _))
    (pss_one (ps_ret (pe_tup (pa_cons pe_int (pa_cons pe_non (pa_cons pe_non pa_nil)))))) pss_nil)
  (pss_cons (ps_for PassesOwn.never rfl (pi_enum (by rfl) B.enumerate (pa_cons (pe_slice sl_list (pv 2) (po_some pe_int) po_none) pa_nil)) (pg_tup rfl (pgs_cons (pg_name (i := 7) sc_law_read.nd rfl (by first | exact Or.inl rfl | exact Or.inr rfl)) (pgs_cons (pg_name (i := 8) sc_law_read.nd rfl (by first | exact Or.inl rfl | exact Or.inr rfl)) pgs_nil)))
    (pss_cons (ps_set (i := 5) sc_law_read.nd rfl (by first | exact Or.inl rfl | exact Or.inr rfl) (pe_split (pv 8) pe_str))
  (pss_cons (ps_if (PW.pt (pw_or (pt_cmpR op_ne (pe_callB call_len_seq (by rfl) B.len (by decide +kernel) (pa_cons (pv 5) pa_nil)) pe_int (nomark _)) (pw_or (pt_cmpR op_ne (pe_ix ix_list (pv 5) pe_int (fun _ _ => rfl)) pe_str (nomark _)) (pw_or1 (pt_cmpR op_gt (pv 7) pe_int (nomark _))))))
    (pss_one (ps_ret (pe_tup (pa_cons (pe_op op_add (pv 7) pe_int) (pa_cons pe_non (pa_cons pe_non pa_nil)))))) pss_nil)
  (pss_cons (ps_set (i := 9) sc_law_read.nd rfl (by first | exact Or.inl rfl | exact Or.inr rfl) (pe_call O_law_number hr rfl m_law_number k_law_number b_law_number .nil pass0 (pa_cons (pe_ix ix_list (pv 5) pe_int (fun _ _ => rfl)) (pa_cons pe_int (pa_cons pe_int pa_nil)))))
  (pss_cons (ps_set (i := 10) sc_law_read.nd rfl (by first | exact Or.inl rfl | exact Or.inr rfl) (pe_ifExp (pt_cmpR op_eq (pe_ix ix_list (pv 5) pe_int (fun _ _ => rfl)) pe_str (nomark _)) pe_str (pe_ix ix_list (pv 5) pe_int (fun _ _ => rfl))))
  (pss_cons (ps_if (PW.pt (pw_or (pt_cmpR op_isN (pv 9) pe_non (nomark _)) (pw_or (pt_cmpR op_eq (pe_ix ix_list (pv 5) pe_int (fun _ _ => rfl)) pe_str (nomark _)) (pw_or (pt_not (pt_val (pe_call O_law_letters hr rfl m_law_letters k_law_letters b_law_letters .nil pass0 (pa_cons (pv 10) pa_nil)))) (pw_or1 (pt_cmpR op_gt (pe_callB call_len_str (by rfl) B.len (by decide +kernel) (pa_cons (pv 10) pa_nil)) pe_int (nomark _)))))))
    (pss_one (ps_ret (pe_tup (pa_cons (pe_op op_add (pv 7) pe_int) (pa_cons pe_non (pa_cons pe_non pa_nil)))))) pss_nil)
  (pss_cons (ps_if (PW.pt (pw_and (pt_cmpR op_notN (pv 3) pe_non (nomark _)) (pw_and1 (pt_cmpR op_le_str (pv 10) (pv 3) (nomark _)))))
    (pss_one (ps_ret (pe_tup (pa_cons (pe_op op_add (pv 7) pe_int) (pa_cons pe_non (pa_cons pe_non pa_nil)))))) pss_nil)
  (pss_cons (ps_set (i := 3) sc_law_read.nd rfl (by first | exact Or.inl rfl | exact Or.inr rfl) (pv 10))
  (pss_one (ps_expr (pe_bm PySem.F.plainAttrs_list PySem.F.slot_list_append PySem.F.type_list_append mt_append (pv 4) (pa_cons (pe_tup (pa_cons (pv 10) (pa_cons (pv 9) pa_nil))) pa_nil))))))))))))
  (pss_one (ps_ret (pe_ifExp (pt_cmpR op_eq (pe_ix ix_list (pv 1) (pe_un un_neg pe_int) (fun _ _ => rfl)) pe_str (nomark _)) (pe_tup (pa_cons pe_non (pa_cons (pv 6) (pa_cons (pv 4) pa_nil)))) (pe_tup (pa_cons (pe_callB call_len_seq (by rfl) B.len (by decide +kernel) (pa_cons (pv 2) pa_nil)) (pa_cons pe_non (pa_cons pe_non pa_nil)))))))))))))), ?_⟩
  obtain ⟨W, rest, hW⟩ := lines_two x
  rw [readT_WR hW] at qE qL
  have hll : ∀ l ∈ W, l.length ≤ 1000 := fun l hl => Nat.le_trans (line_len (x := x) (by rw [hW]; exact List.mem_append.mpr (.inl hl))) hx
  have hWn : W.length + 1 ≤ 1001 := by
    have h1 := wid_len (linesOf x)
    rw [lines_wid, hW] at h1
    simp at h1
    omega
  refine ⟨_, rfl, ⟨_, rfl⟩, _, _, rfl, rfl, (by decide +kernel), line1002 hx, fun p0 np0 => ?_⟩
  have S1 := same_new np0 (.lst ((Txt.split x (Str.ofString "\n")).map V.str))
  have hp0 : upd H p0 (.lst ((Txt.split x (Str.ofString "\n")).map V.str)) p0 = some (.lst ((linesOf x).map V.str)) := upd_same
  generalize upd H p0 (.lst ((Txt.split x (Str.ofString "\n")).map V.str)) = H1 at S1 hp0
  refine ⟨_, rfl, _, rfl, _, rfl, p0, _, rfl, SqL.of hp0, fun p np => ?_⟩
  have ew : cutV ((linesOf x).map V.str) none (some (-1)) = W.map V.str := by
    rw [cutV_most (by rw [hW]; simp), hW]
    simp
  rw [ew]
  have S2 := S1.trans (same_new np (.lst (W.map V.str)))
  have hp : upd H1 p (.lst (W.map V.str)) p = some (.lst (W.map V.str)) := upd_same
  have hp0 := same_new np (.lst (W.map V.str)) _ _ hp0
  generalize upd H1 p (.lst (W.map V.str)) = H2 at S2 hp hp0
  refine ⟨Nat.zero_le _, fun fl nfl => ?_⟩
  have S3 := S2.trans (same_new nfl (.lst []))
  have hR : RdAt (upd H2 fl (.lst [])) fl [] := RdAt.nil
  have hp3 := same_new nfl (.lst []) _ _ hp
  have hp03 := same_new nfl (.lst []) _ _ hp0
  have hfn : H fl = none := S2.free nfl
  have hfp : fl ≠ p := (ne_of_none hp nfl).symm
  have hfp0 : fl ≠ p0 := (ne_of_none hp0 nfl).symm
  generalize upd H2 fl (.lst []) = H3 at S3 hR hp3 hp03
  refine ⟨_, _, _, rfl, ?_⟩
  refine ⟨_, rfl, Nat.zero_le _, fun e0 ne0 => ?_⟩
  have S4 := S3.trans (same_new ne0 (.lst []))
  have hR4 := hR.same (same_new ne0 (.lst []))
  have hp4 := same_new ne0 (.lst []) _ _ hp3
  have hp04 := same_new ne0 (.lst []) _ _ hp03
  have he4 : upd H3 e0 (.lst []) e0 = some (.lst []) := upd_same
  generalize upd H3 e0 (.lst []) = H4 at S4 hR4 hp4 hp04 he4
  refine ⟨p, e0, _, rfl, rfl, SqL.of hp4, SqL.of he4, fun z => ?_, fun z => ?_⟩
  · have z := List.map_eq_nil_iff.mp z
    subst z
    refine ⟨_, rfl, iteT ⟨(by show 3 ≤ sizeLine; decide), fun t nt => ?_⟩⟩
    exact qE 0 rfl _ t (S4.trans (same_new nt _)) upd_same
  refine ⟨_, rfl, iteF ?_⟩
  obtain ⟨l0, r, rfl⟩ : ∃ l0 r, W = l0 :: r := by
    cases W with
    | nil => exact absurd rfl z
    | cons l0 r => exact ⟨l0, r, rfl⟩
  have hl0 := hll l0 (by simp)
  refine ⟨_, rfl, _, _, _, .str l0, rfl, rfl, SqL.of hp4, atI_nat (j := 0) rfl, ⟨_, rfl⟩, _, _, rfl, rfl, (by decide +kernel), line1002 hl0, fun ws nws => ?_⟩
  have S5 := S4.trans (same_new nws (.lst ((Txt.split l0 (Str.ofString " ")).map V.str)))
  have hws : upd H4 ws (.lst ((Txt.split l0 (Str.ofString " ")).map V.str)) ws = some (.lst ((wordsOf l0).map V.str)) := upd_same
  have hR5 := hR4.same (same_new nws (.lst ((Txt.split l0 (Str.ofString " ")).map V.str)))
  have hp5 := same_new nws (.lst ((Txt.split l0 (Str.ofString " ")).map V.str)) _ _ hp4
  have hp05 := same_new nws (.lst ((Txt.split l0 (Str.ofString " ")).map V.str)) _ _ hp04
  generalize upd H4 ws (.lst ((Txt.split l0 (Str.ofString " ")).map V.str)) = H5 at S5 hws hR5 hp5 hp05
  have hw0 : ∀ y ∈ wordsOf l0, y.length ≤ 1000 := fun y hy => Nat.le_trans (word_len hy) hl0
  have hsz : sizeL l0 = sizeW (wordsOf l0) := rfl
  generalize wordsOf l0 = ws0 at hws hw0 hsz
  refine ⟨_, rfl, _, _, rfl, .inl (SqL.of hws), rfl, _, rfl, ?_⟩
  by_cases h2 : ws0.length = 2
  case neg =>
    rw [sizeW_no h2] at hsz
    refine iteNo (fun z => h2 (by have := int_eq.mp z; rw [List.length_map] at this; omega)) ?_
    exact ⟨_, rfl, rfl, _, rfl, iteYes rfl ⟨(by show 3 ≤ sizeLine; decide), fun t nt => qE 0 (readWR_none hsz) _ t (S5.trans (same_new nt _)) upd_same⟩⟩
  obtain ⟨a, b, rfl⟩ : ∃ a b, ws0 = [a, b] := by
    match ws0, h2 with
    | [a, b], _ => exact ⟨a, b, rfl⟩
  refine iteYes (by rfl) ?_
  refine ⟨_, rfl, _, _, _, .str a, rfl, rfl, SqL.of hws, atI_nat (j := 0) rfl, rfl, _, rfl, ?_⟩
  by_cases ha : a = sSz
  case neg =>
    rw [show sizeW [a, b] = none from if_neg ha] at hsz
    refine iteNo (fun z => ha (V.str.inj z)) ?_
    exact ⟨_, rfl, rfl, _, rfl, iteYes rfl ⟨(by show 3 ≤ sizeLine; decide), fun t nt => qE 0 (readWR_none hsz) _ t (S5.trans (same_new nt _)) upd_same⟩⟩
  rw [show sizeW [a, b] = numN (TL.tl b) 2 8 from if_pos ha] at hsz
  refine iteYes (by rw [ha]) ?_
  refine ⟨_, rfl, _, _, _, .str b, rfl, rfl, SqL.of hws, atI_nat (j := 1) rfl, b, 2, 8, rfl, hw0 b (by simp), fun H6 S6 => ?_⟩
  rw [← hsz]
  have S6' := S5.trans S6
  have hR6 := hR5.same S6
  have hp6 := S6 _ _ hp5
  have hp06 := S6 _ _ hp05
  cases es : sizeL l0 with
  | none => exact ⟨_, rfl, rfl, _, rfl, iteYes rfl ⟨(by show 3 ≤ sizeLine; decide), fun t nt => qE 0 (readWR_none es) _ t (S6'.trans (same_new nt _)) upd_same⟩⟩
  | some s => ?_
  refine ⟨_, rfl, rfl, _, rfl, iteNo (fun z => nomatch z) ?_⟩
  refine ⟨_, rfl, _, rfl, p, _, rfl, SqL.of hp6, fun pr npr => ?_⟩
  have er : cutV ((l0 :: r).map V.str) (some 1) none = r.map V.str := cutV_from (k := 1)
  rw [er]
  have S7 := S6'.trans (same_new npr (.lst (r.map V.str)))
  have hpr : upd H6 pr (.lst (r.map V.str)) pr = some (.lst (r.map V.str)) := upd_same
  have hR7 := hR6.same (same_new npr (.lst (r.map V.str)))
  have hp7 := same_new npr (.lst (r.map V.str)) _ _ hp6
  have hp07 := same_new npr (.lst (r.map V.str)) _ _ hp06
  have hfpr : fl ≠ pr := by
    obtain ⟨ts6, z, _⟩ := hR6
    exact ne_of_none z npr
  generalize upd H6 pr (.lst (r.map V.str)) = H7 at S7 hR7 hp7 hp07 hpr
  have hrl : r.length ≤ 1000 := by
    have : (l0 :: r).length = r.length + 1 := rfl
    omega
  refine ⟨pr, _, rfl, SqL.of hpr, ?_⟩
  refine for_it (walk_enum (K := K) (a := pr) (xs := r.map V.str)) (fun i σ H' => ∃ (v5 v7 v8 v9 v10 : Option V) (L : List (Str × Int)), σ = [some (.str x), some (.ref p0), some (.ref p), some (lastV L), some (.ref fl), v5, some (.int ((s : Nat) : Int)), v7, v8, v9, v10] ∧ Same H H' ∧ H' p0 = some (.lst ((linesOf x).map V.str)) ∧ H' p = some (.lst ((l0 :: r).map V.str)) ∧ H' pr = some (.lst (r.map V.str)) ∧ RdAt H' fl L ∧ linesL [] (r.take i) = .inr L) ?_ ?_ ?_ ?_
  · exact ⟨_, none, none, none, none, [], rfl, S7, hp07, hp7, hpr, hR7, rfl⟩
  · rintro i σ H' hi ⟨_, _, _, _, _, L, rfl, _, _, _, z, _⟩
    exact SqL.of z
  · rintro i y σ H8 H9 hi ⟨v5, v7, v8, v9, v10, L, rfl, S8, hp08, hp8, hpr8, hR8, hL⟩ ⟨T0, x1, x2, rfl, nT0, rfl, e1, e2⟩
    cases e1
    rw [List.length_map] at hi
    replace e2 : (r.map V.str)[i]? = some x2 := e2
    obtain ⟨l, hl, rfl⟩ := str_at e2
    have hLl := lines_len hL (by omega)
    obtain ⟨a1, a2, a3⟩ := linesL_60 hL (by simp) (by simp) (by simp)
    have bad : nextL L l = none → ∀ H' t, Same H H' → H' t = some (.tup [.int ((i : Int) + 1), .non, .non]) → Q (.ref t) H' := fun z H' t z1 z2 => qE (i + 1) (readWR_bad es (lines_bad hL hl z)) H' t z1 z2
    have hll1 : l.length ≤ 1000 := hll l (List.mem_cons_of_mem _ (List.mem_of_getElem? hl))
    have N9 := same_new nT0 (.tup [V.int (i : Int), .str l])
    have hT9 : upd H8 T0 (.tup [V.int (i : Int), .str l]) T0 = some (.tup [V.int (i : Int), .str l]) := upd_same
    generalize upd H8 T0 (.tup [V.int (i : Int), .str l]) = H9 at N9 hT9
    refine ⟨T0, _, rfl, SqT.of hT9, rfl, _, _, rfl, _, _, rfl, rfl, ?_⟩
    refine ⟨_, rfl, ⟨_, rfl⟩, _, _, rfl, rfl, (by decide +kernel), line1002 hll1, fun wq nwq => ?_⟩
    have N10 := N9.trans (same_new nwq (.lst ((Txt.split l (Str.ofString " ")).map V.str)))
    have hwq : upd H9 wq (.lst ((Txt.split l (Str.ofString " ")).map V.str)) wq = some (.lst ((wordsOf l).map V.str)) := upd_same
    generalize upd H9 wq (.lst ((Txt.split l (Str.ofString " ")).map V.str)) = H10 at N10 hwq
    have S10 := S8.trans N10
    have hwl : ∀ y ∈ wordsOf l, y.length ≤ 1000 := fun y hy => Nat.le_trans (word_len hy) hll1
    have hrd : readL1 l = readW (wordsOf l) := rfl
    generalize wordsOf l = wl at hwq hwl hrd
    have none_of : readL1 l = none → nextL L l = none := fun z => by unfold nextL; rw [z]
    refine ⟨_, rfl, _, _, rfl, .inl (SqL.of hwq), rfl, _, rfl, ?_⟩
    by_cases h3 : wl.length = 3
    case neg =>
      rw [readW_no h3] at hrd
      refine iteNot (fun z => h3 (by have := int_eq.mp z; rw [List.length_map] at this; omega)) ?_
      exact ⟨_, rfl, _, _, rfl, rfl, (by show 3 ≤ sizeLine; decide), fun t nt => bad (none_of hrd) _ t (S10.trans (same_new nt _)) upd_same⟩
    obtain ⟨a, b, c, rfl⟩ : ∃ a b c, wl = [a, b, c] := by
      match wl, h3 with
      | [a, b, c], _ => exact ⟨a, b, c, rfl⟩
    refine iteNS (by rfl) ?_
    refine ⟨_, rfl, _, _, _, .str a, rfl, rfl, SqL.of hwq, atI_nat (j := 0) rfl, rfl, _, rfl, ?_⟩
    by_cases ha : a = sRd
    case neg =>
      refine iteNot (fun z => ha (V.str.inj z)) ?_
      exact ⟨_, rfl, _, _, rfl, rfl, (by show 3 ≤ sizeLine; decide), fun t nt => bad (none_of (hrd.trans (if_neg fun z => ha z.1))) _ t (S10.trans (same_new nt _)) upd_same⟩
    refine iteNS (by rw [ha]) ?_
    refine ⟨_, rfl, _, _, rfl, rfl, _, rfl, ?_⟩
    by_cases h60 : i ≤ 59
    case neg =>
      refine iteYes (by omega) ?_
      refine ⟨_, rfl, _, _, rfl, rfl, (by show 3 ≤ sizeLine; decide), fun t nt => bad ?_ _ t (S10.trans (same_new nt _)) upd_same⟩
      cases z : nextL L l with
      | none => rfl
      | some e => have := (nextL_is z).2.2.1; omega
    refine iteNo (by omega) ?_
    refine ⟨_, rfl, _, _, _, .str b, rfl, rfl, SqL.of hwq, atI_nat (j := 1) rfl, b, 1, 1200, rfl, hwl b (by simp), fun H11 N11 => ?_⟩
    have S11 := S10.trans N11
    have hwq11 := N11 _ _ hwq
    refine ⟨_, rfl, _, _, _, .str c, rfl, rfl, SqL.of hwq11, atI_nat (j := 2) rfl, rfl, _, rfl, ?_⟩
    by_cases hd : c = sDa
    case' pos =>
      have ht : wordT c = sEm := by unfold wordT; rw [if_pos hd]
      have htl : (wordT c).length ≤ 1000 := by rw [ht]; decide +kernel
      refine iteYes (by rw [hd]) (tC_eq (u := V.str (wordT c)) (by rw [ht]) ?_)
    case' neg =>
      have ht : wordT c = c := by unfold wordT; rw [if_neg hd]
      have htl : (wordT c).length ≤ 1000 := by rw [ht]; exact hwl c (by simp)
      refine iteNo (fun z => hd (V.str.inj z)) ⟨_, rfl, _, _, _, .str (wordT c), rfl, rfl, SqL.of hwq11, (by rw [ht]; exact atI_nat (j := 2) rfl), ?_⟩
    all_goals
      cases en : numN (TL.tl b) 1 1200 with
      | none =>
        refine ⟨_, rfl, rfl, _, rfl, iteYes rfl ?_⟩
        refine ⟨_, rfl, _, _, rfl, rfl, (by show 3 ≤ sizeLine; decide), fun t nt => bad (none_of ?_) _ t (S11.trans (same_new nt _)) upd_same⟩
        rw [hrd]
        show (if a = sRd ∧ c ≠ sEm then entL b c else none) = none
        split
        · unfold entL; rw [en]
        · rfl
      | some n => ?_
      refine ⟨_, rfl, rfl, _, rfl, iteNo (fun z => nomatch z) ?_⟩
      refine ⟨_, rfl, _, _, _, .str c, rfl, rfl, SqL.of hwq11, atI_nat (j := 2) rfl, rfl, _, rfl, ?_⟩
      by_cases hc : c = sEm
      · refine iteYes (by rw [hc]) ?_
        exact ⟨_, rfl, _, _, rfl, rfl, (by show 3 ≤ sizeLine; decide), fun t nt => bad (none_of (hrd.trans (if_neg fun z => z.2 hc))) _ t (S11.trans (same_new nt _)) upd_same⟩
      refine iteNo (fun z => hc (V.str.inj z)) ?_
      have hrd2 : readL1 l = if txB (wordT c) = true then some (wordT c, (n : Int)) else none := by
        rw [hrd]
        show (if a = sRd ∧ c ≠ sEm then entL b c else none) = _
        rw [if_pos ⟨ha, hc⟩]
        unfold entL
        rw [en]
      refine ⟨_, rfl, _, rfl, htl, fun H12 N12 => ⟨_, rfl, iteNB (fun h => ?_) (fun h => ?_)⟩⟩
      · have S12 := S11.trans N12
        refine ⟨_, rfl, _, _, rfl, rfl, (by show 3 ≤ sizeLine; decide), fun t nt => bad (none_of ?_) _ t (S12.trans (same_new nt _)) upd_same⟩
        rw [hrd2, if_neg]
        unfold txB
        rw [h, Bool.and_false]
        exact Bool.false_ne_true
      have S12 := S11.trans N12
      have N8 := (N10.trans N11).trans N12
      refine ⟨_, rfl, _, rfl, line1000 htl, _, _, rfl, rfl, _, rfl, ?_⟩
      by_cases h400 : (wordT c).length ≤ 400
      case neg =>
        refine iteYes (by omega) ?_
        refine ⟨_, rfl, _, _, rfl, rfl, (by show 3 ≤ sizeLine; decide), fun t nt => bad (none_of ?_) _ t (S12.trans (same_new nt _)) upd_same⟩
        rw [hrd2, if_neg]
        unfold txB
        rw [decide_eq_false h400, Bool.false_and]
        exact Bool.false_ne_true
      refine iteNo (by omega) ?_
      have htx : txB (wordT c) = true := by
        unfold txB
        rw [h, decide_eq_true h400]
        rfl
      rw [if_pos htx] at hrd2
      have hnx : nextL L l = if aheadB L (wordT c, (n : Int)) = true then some (wordT c, (n : Int)) else none := by
        unfold nextL
        rw [hrd2]
        by_cases z : aheadB L (wordT c, (n : Int)) = true
        · simp only [if_pos (show L.length < 60 ∧ aheadB L (wordT c, (n : Int)) = true from ⟨by omega, z⟩), if_pos z]
        · simp only [if_neg (show ¬ (L.length < 60 ∧ aheadB L (wordT c, (n : Int)) = true) from fun y => z y.2), if_neg z]
      by_cases hah : aheadB L (wordT c, (n : Int)) = true
      case neg =>
        rw [if_neg hah] at hnx
        obtain ⟨f, hf⟩ : ∃ f, L.getLast? = some f := by
          cases ef : L.getLast? with
          | none => exact absurd (by unfold aheadB; rw [ef]) hah
          | some f => exact ⟨f, rfl⟩
        have hv : lastV L = .str f.1 := by unfold lastV; rw [hf]
        have hlt : ¬ (f.1.cps.toList < (wordT c).cps.toList) := fun z => hah (by unfold aheadB; rw [hf]; exact decide_eq_true z)
        refine ⟨_, rfl, rfl, _, rfl, iteNot (fun z => by rw [hv] at z; cases z) ?_⟩
        refine ⟨_, rfl, _, rfl, _, _, rfl, hv, _, rfl, iteNot hlt ?_⟩
        exact ⟨_, rfl, _, _, rfl, rfl, (by show 3 ≤ sizeLine; decide), fun t nt => bad hnx _ t (S12.trans (same_new nt _)) upd_same⟩
      rw [if_pos hah] at hnx
      suffices go : _ by
        cases hf : L.getLast? with
        | none =>
          have hv : lastV L = .non := by unfold lastV; rw [hf]
          exact ⟨_, rfl, rfl, _, rfl, iteNot' hv go⟩
        | some f =>
          have hv : lastV L = .str f.1 := by unfold lastV; rw [hf]
          have hlt : f.1.cps.toList < (wordT c).cps.toList := by
            unfold aheadB at hah
            rw [hf] at hah
            exact of_decide_eq_true hah
          exact ⟨_, rfl, rfl, _, rfl, iteNot (fun z => by rw [hv] at z; cases z) ⟨_, rfl, _, rfl, _, _, rfl, hv, _, rfl, iteNot' hlt go⟩⟩
      have hR12 := hR8.same N8
      obtain ⟨ts, hfl, hPt⟩ := id hR12
      refine ⟨_, rfl, _, rfl, .inl ⟨rfl, _, SqL.of hfl⟩, _, rfl, _, rfl, (by show 2 ≤ sizeLine; decide), fun tp ntp => ?_⟩
      obtain ⟨xs, g1, g2, g3⟩ := hR12.push (x := wordT c) (n := (n : Int)) ntp
      refine ⟨fl, _, _, rfl, rfl, g1, by rw [g2]; exact Nat.lt_of_le_of_lt (by omega : L.length ≤ 60) (by decide), ?_⟩
      have hk12 : ∀ b u, H8 b = some u → b ≠ fl → (upd (upd H12 tp (.tup [.str (wordT c), .int (n : Int)])) fl (.lst (xs ++ [.ref tp]))) b = some u := fun b u z nb => by
        rw [upd_ne nb]
        exact same_new ntp _ _ _ (N8 _ _ z)
      refine ⟨some (.ref wq), some (.int (i : Int)), some (.str l), some (.int (n : Int)), some (.str (wordT c)), L ++ [(wordT c, (n : Int))], ?_, same_upd (S12.trans (same_new ntp _)) hfn, hk12 _ _ hp08 hfp0.symm, hk12 _ _ hp8 hfp.symm, hk12 _ _ hpr8 hfpr.symm, g3, lines_ok hL hl hnx⟩
      rw [lastV_snoc]
      rfl
  · rintro σ H8 ⟨v5, v7, v8, v9, v10, L, rfl, S8, hp08, hp8, hpr8, hR8, hL⟩
    rw [List.length_map, List.take_length] at hL
    refine ⟨_, rfl, _, rfl, _, _, _, .str rest, rfl, rfl, SqL.of hp08, atI_back (by rw [hW]; simp), rfl, _, rfl, ?_⟩
    by_cases hr : rest = sEm
    · refine iteYes (by rw [hr]) ⟨_, rfl, _, rfl, (by show 3 ≤ sizeLine; decide), fun t nt => ?_⟩
      refine qL s L ((readWR_ok es hL).trans (if_pos hr)) _ t fl (S8.trans (same_new nt _)) upd_same (hR8.same (same_new nt _))
    · refine iteNo (fun z => hr (V.str.inj z)) ⟨_, rfl, _, _, rfl, .inl (SqL.of hp8), (by show 3 ≤ sizeLine; decide), fun t nt => ?_⟩
      rw [List.length_map]
      exact qE (r.length + 1) ((readWR_ok es hL).trans (if_neg hr)) _ t (S8.trans (same_new nt _)) upd_same
end
end My
set_option maxHeartbeats 4000000
namespace My
open PySem L2 PyProof.Rows
theorem numS_len {n : Int} (h0 : 0 ≤ n) (h1 : n ≤ 9999) : (numS n).length ≤ 4 := by
  rw [TL.len_tl, numS_tl h0]
  exact TL.numL_len (by omega) (by omega)
theorem log_ok {n : Int} (h1 : n.natAbs ≤ 9999) : n.natAbs.log2 < 1920 := by
  by_cases h : n.natAbs = 0
  · rw [h]; decide
  · exact (Nat.log2_lt h).mpr (Nat.lt_of_le_of_lt h1 (Nat.lt_of_lt_of_le (by decide : 9999 < 2 ^ 14) (Nat.pow_le_pow_right (by decide) (by decide))))
theorem empty_app (x : Str) : Str.empty ++ x = x := TL.ext_tl (by rw [TL.tl_append]; rfl)
theorem line600 {n : Nat} (h : n ≤ 600) : n ≤ sizeLine := Nat.le_trans h (by decide)
theorem wordS_len {x : Str} (h : txB x = true) : (wordS x).length ≤ 400 := by
  unfold wordS
  split
  · decide +kernel
  · unfold txB at h
    rw [Bool.and_eq_true] at h
    exact of_decide_eq_true h.1
theorem len_lit (x : String) : (Str.ofString x).length = x.toList.length := by rw [TL.len_tl, TL.tl_ofString, List.length_map]
theorem headS_len {s : Nat} (h : s ≤ 8) : (headS s).length ≤ 10 := by
  unfold headS
  rw [str_app_len, str_app_len]
  have := numS_len (n := (s : Int)) (by omega) (by omega)
  have e1 : (Str.ofString "size ").length = 5 := by decide +kernel
  have e2 : (sNl : Str).length = 1 := by decide +kernel
  omega
theorem lineS_len {e : Str × Int} (h : EntOk e) : (lineS e).length ≤ 411 := by
  unfold lineS
  rw [str_app_len, str_app_len, str_app_len, str_app_len]
  have := h.lo
  have := h.hi
  have := numS_len (n := e.2) (by omega) (by omega)
  have := wordS_len h.tx
  have e1 : (Str.ofString "read ").length = 5 := by decide +kernel
  have e2 : (sNl : Str).length = 1 := by decide +kernel
  have e3 : (sSp : Str).length = 1 := by decide +kernel
  omega
/-- the told lines, joined -/
theorem join_fits {s : Nat} {M : List (Str × Int)} (hs : s ≤ 8) (hm : M.length ≤ 60) (h : ∀ e ∈ M, EntOk e) : ((headS s :: M.map lineS).map (·.length)).sum + (headS s :: M.map lineS).length * (Str.ofString "").length ≤ 16777216 := by
  have e0 : (Str.ofString "").length = 0 := by decide +kernel
  rw [e0, Nat.mul_zero, Nat.add_zero, List.map_cons, List.sum_cons]
  have h1 := headS_len hs
  have h2 : ∀ L : List (Str × Int), (∀ e ∈ L, EntOk e) → ((L.map lineS).map (·.length)).sum ≤ L.length * 411 := by
    intro L
    induction L with
    | nil => intro _; exact Nat.le_refl _
    | cons e r ih =>
      intro h
      have a := lineS_len (h e (by simp))
      have b := ih fun f hf => h f (by simp [hf])
      rw [List.map_cons, List.map_cons, List.sum_cons, List.length_cons]
      omega
  have := h2 M h
  omega
theorem heads (s : Nat) : Str.empty ++ Str.ofString "size " ++ Str.ofString (toString ((s : Nat) : Int)) ++ Str.ofString "\n" = headS s := by
  rw [empty_app]
  rfl
theorem lines_ (n : Int) (t : Str) : Str.empty ++ Str.ofString "read " ++ Str.ofString (toString n) ++ Str.ofString " " ++ wordS t ++ Str.ofString "\n" = lineS (t, n) := by
  rw [empty_app]
  rfl
section
variable {P : Program} {w : World} {K : PySem.W.Frag} {mg : Str → Option Value} {base : Heap} {C CE CP : Addr}
def splot_text (_ : PySem.W.Frag) (C _ : Addr) : Sp := fun vs H Q _ => ∃ a tl s M, vs = [.ref a] ∧ LotAt C a tl s M H ∧ s ≤ 8 ∧ M.length ≤ 60 ∧ (∀ e ∈ M, EntOk e) ∧ ∀ H', Same H H' → Q (.str (textOf s M)) H'
theorem oklot_text (D : Def K mg "lot_text" slot_text ["lot"]) (B : Bs mg) (Glb : Glo mg) (WK : WebK K mg C) (EXBadText : ExcF P w K mg base "line" "BadText" CE) (EXe : PySem.W.exmOne K (.ref CE) (.ref CE) = some true) (kL : PySem.W.kitOne K (.ref C) (.type "list") = some false) (PX : PErr K mg CE CP)
    (hneed_lot : Good P w K mg base "need_lot" sneed_lot ["lot"] 3 (spneed_lot K C CE))
    (hLot_readings : GoodM P w K mg base C "readings" "Lot.readings" sLot_readings ["self"] 1 (spLot_readings K C CE))
    (hLot_size : GoodP P w K mg base C "size" "Lot.size" sLot_size ["self"] 1 (spLot_size K C CE)) :
    Good P w K mg base "lot_text" slot_text ["lot"] 4 (splot_text K C CE) := by
  refine D.good fun f fd F => ?_
  obtain ⟨fneed_lot, dneed_lot, Oneed_lot, mneed_lot, kneed_lot, bneed_lot, Fneed_lot⟩ := hneed_lot
  obtain ⟨fLot_readings, dLot_readings, OLot_readings, tLot_readings, bLot_readings, FLot_readings⟩ := hLot_readings
  obtain ⟨qLot_size, fLot_size, dLot_size, OLot_size, pLot_size, bLot_size⟩ := hLot_size
  refine F.ok sclot_text (fun vs H Q E h => ?_) (fun cdv A outer s H vs Q E hr h => ?_)
  · obtain ⟨a, tl, s, M, rfl, hLot, hs, hm, hok, q⟩ := h
    first | rfl | (rcases h with ⟨_, _, rfl, _⟩ | ⟨_, rfl, _⟩ <;> rfl)
  obtain ⟨a, tl, s, M, rfl, hLot, hs, hm, hok, q⟩ := h
  refine ⟨_, (pss_cons (ps_expr (pe_call Oneed_lot hr rfl mneed_lot kneed_lot bneed_lot .nil pass0 (pa_cons (pv 0) pa_nil)))
  (pss_cons (ps_set (i := 1) sclot_text.nd rfl (by first | exact Or.inl rfl | exact Or.inr rfl) (pe_lst (pa_cons (pe_joined (.cons pe_str (.cons (pe_fmt (pe_prop (pv 0) WK.cl pLot_size OLot_size (hr.mono (by decide)) bLot_size .nil pass0 (by rfl))) (.cons pe_str .nil)))) pa_nil)))
  (pss_cons (ps_for PassesOwn.never rfl (pi_list (pe_meth0 (pv 0) WK.cl tLot_readings OLot_readings (hr.mono (by decide)) bLot_readings .nil pass0)) (pg_tup rfl (pgs_cons (pg_name (i := 2) sclot_text.nd rfl (by first | exact Or.inl rfl | exact Or.inr rfl)) (pgs_cons (pg_name (i := 3) sclot_text.nd rfl (by first | exact Or.inl rfl | exact Or.inr rfl)) pgs_nil)))
    (pss_one (ps_expr (pe_bm PySem.F.plainAttrs_list PySem.F.slot_list_append PySem.F.type_list_append mt_append (pv 1) (pa_cons (pe_joined (.cons pe_str (.cons (pe_fmt (pv 3)) (.cons pe_str (.cons (pe_fmt (pe_orT (pv 2) (pe_one (pe_globT Glb.EMPTY)))) (.cons pe_str .nil)))))) pa_nil)))))
  (pss_one (ps_ret (pe_join pe_str (pv 1))))))), ?_⟩
  obtain ⟨dx, h1, _⟩ := id hLot
  have nh := headS_len hs
  unfold headS at nh
  rw [str_app_len, str_app_len] at nh
  refine ⟨_, rfl, a, tl, s, M, rfl, hLot, ?_⟩
  refine ⟨_, rfl, by rw [empty_app]; exact line600 (by decide +kernel), ?_⟩
  refine ⟨_, rfl, a, dx, _, rfl, h1, a, tl, s, M, rfl, hLot, .inr ⟨_, rfl, log_ok (by omega), ?_⟩⟩
  have n1 : (numS (s : Int)).length ≤ 4 := numS_len (by omega) (by omega)
  have e1 : (Str.ofString "size ").length = 5 := by decide +kernel
  have e2 : (Str.ofString "\n").length = 1 := by decide +kernel
  refine ⟨_, rfl, line600 (by rw [empty_app, str_app_len]; show _ + (numS (s : Int)).length ≤ 600; omega), ?_⟩
  refine ⟨_, rfl, line600 (by rw [empty_app, str_app_len, str_app_len]; show _ + (numS (s : Int)).length + _ ≤ 600; omega), (by show 1 ≤ sizeLine; decide), fun p np => ?_⟩
  rw [show Str.empty ++ Str.ofString "size " ++ Str.ofString (toString ((s : Nat) : Int)) ++ Str.ofString "\n" = headS s from heads s]
  have S1 := same_new np (.lst [V.str (headS s)])
  have hp1 : upd H p (.lst [V.str (headS s)]) p = some (.lst ((headS s :: (M.take 0).map lineS).map V.str)) := upd_same
  have h11 := S1 _ _ h1
  have hLot1 := hLot.same S1
  generalize upd H p (.lst [V.str (headS s)]) = H1 at S1 hp1 h11 hLot1
  refine ⟨_, rfl, a, dx, _, rfl, h11, lf_no _ _ (by decide +kernel) (by decide +kernel), a, tl, s, M, rfl, hLot1, fun H2 l nl S2 hR2 => ?_⟩
  obtain ⟨ts, hl, hP⟩ := id hR2
  have hp2 := S2 _ _ hp1
  have hpl := paired_len hP
  have hlp : l ≠ p := (ne_of_none hp1 nl).symm
  refine ⟨l, rfl, ⟨_, SqL.of hl⟩, for_list (K := K) (a := l) (xs := ts.map V.ref) (fun i σ H' => ∃ v2 v3 : Option V, σ = [some (.ref a), some (.ref p), v2, v3] ∧ Same H H' ∧ H' l = some (.lst (ts.map V.ref)) ∧ Paired (SIAt H') ts M ∧ H' p = some (.lst ((headS s :: (M.take i).map lineS).map V.str))) ⟨none, none, rfl, S1.trans S2, hl, hP, hp2⟩ (fun i σ H' _ ⟨_, _, _, _, z, _⟩ => SqL.of z) ?_ ?_⟩
  · rintro i x σ H3 hx ⟨v2, v3, rfl, S3, hl3, hP3, hp3⟩
    obtain ⟨t, e, rfl, he, hpe⟩ := si_at hP3 hx
    have hE := hok e (List.mem_of_getElem? he)
    have hnl := hE.lo
    have hnh := hE.hi
    have hll := lineS_len hE
    have hwl := wordS_len hE.tx
    refine ⟨t, _, rfl, SqT.of hpe, rfl, _, _, rfl, _, _, rfl, rfl, ?_⟩
    refine ⟨_, rfl, .inl ⟨rfl, _, SqL.of hp3⟩, ?_⟩
    have hn : (Str.ofString (toString e.2)).length ≤ 4 := numS_len (by omega) (by omega)
    have e3 : (Str.ofString "read ").length = 5 := by decide +kernel
    have e4 : (Str.ofString " ").length = 1 := by decide +kernel
    have e5 : (Str.ofString "-").length = 1 := by decide +kernel
    have hline := lines_ e.2 e.1
    refine ⟨_, rfl, line600 (by rw [empty_app]; omega), _, rfl, .inr ⟨_, rfl, log_ok (by omega), ?_⟩⟩
    refine ⟨_, rfl, line600 (by rw [empty_app, str_app_len]; omega), ?_⟩
    refine ⟨_, rfl, line600 (by rw [empty_app, str_app_len, str_app_len]; omega), ?_⟩
    by_cases ht : e.1 = sEm
    case' pos =>
      have hw : wordS e.1 = sDa := by unfold wordS; rw [if_pos ht]
      refine ⟨_, rfl, false, ⟨by rw [ht]; exact line600 (by decide +kernel), by rw [ht]; decide +kernel⟩, iteF (.inl ⟨_, rfl, line600 (by decide +kernel), ?_⟩)⟩
    case' neg =>
      have hw : wordS e.1 = e.1 := by unfold wordS; rw [if_neg ht]
      have ht0 : e.1.length ≠ 0 := fun z => ht (TL.ext_tl (by rw [TL.len_tl] at z; rw [List.length_eq_zero_iff.mp z]; decide +kernel))
      have ht4 : e.1.length ≤ 400 := by rw [hw] at hwl; exact hwl
      refine ⟨_, rfl, true, ⟨line600 (by omega), by
        symm
        rw [bne_iff_ne]
        omega⟩, iteT (.inl ⟨_, rfl, line600 (by omega), ?_⟩)⟩
    all_goals
      rw [hw] at hwl hline
      refine ⟨_, rfl, line600 (by rw [empty_app, str_app_len, str_app_len, str_app_len]; omega), ?_⟩
      refine ⟨_, rfl, line600 (by rw [empty_app, str_app_len, str_app_len, str_app_len, str_app_len]; omega), ?_⟩
      refine ⟨p, _, _, rfl, rfl, hp3, ?_, ?_⟩
      · rw [List.length_map, List.length_cons, List.length_map, List.length_take]
        exact Nat.lt_of_le_of_lt (by omega : _ ≤ 61) (by decide)
      · refine ⟨_, _, rfl, same_upd S3 np, by rw [upd_ne hlp]; exact hl3, paired_mono (fun q f hq => ?_) hP3, ?_⟩
        · have nq : q ≠ p := ne_of hq hp3 (by intro z; cases z)
          show upd _ _ _ q = _
          rw [upd_ne nq]
          exact hq
        · rw [upd_same, take_snoc he, List.map_append, ← List.cons_append, List.map_append]
          rw [show List.map V.str (List.map lineS [e]) = [V.str (lineS (e.1, e.2))] from rfl, ← hline]
  · rintro σ H3 ⟨v2, v3, rfl, S3, hl3, hP3, hp3⟩
    rw [List.length_map, hpl, List.take_length] at hp3
    exact ⟨⟨_, rfl⟩, _, rfl, _, _, _, rfl, rfl, .inl (SqL.of hp3), join_fits hs hm hok, q _ S3⟩
def sp_law_told (_ : PySem.W.Frag) (_ _ : Addr) : Sp := fun vs H Q _ => ∃ (s : Nat) (d : Addr) (D : List (Str × Int)), vs = [.int ((s : Nat) : Int), .ref d] ∧ s ≤ 8 ∧ H d = some (.dK (dT D)) ∧ (D.map Prod.fst).Nodup ∧ D.length ≤ 60 ∧ (∀ e ∈ D, EntOk e) ∧ ∀ H', Same H H' → Q (.str (textOf s (told D))) H'
theorem ok_law_told (D : Def K mg "_law_told" s_law_told ["_law_size", "_law_told_here"]) (B : Bs mg) (Glb : Glo mg) (WK : WebK K mg C) (EXBadText : ExcF P w K mg base "line" "BadText" CE) (EXe : PySem.W.exmOne K (.ref CE) (.ref CE) = some true) (kL : PySem.W.kitOne K (.ref C) (.type "list") = some false) (PX : PErr K mg CE CP)
    (h_law_sorted : Good P w K mg base "_law_sorted" s_law_sorted ["_law_told_here"] 1 (sp_law_sorted K C CE)) :
    Good P w K mg base "_law_told" s_law_told ["_law_size", "_law_told_here"] 2 (sp_law_told K C CE) := by
  refine D.good fun f fd F => ?_
  obtain ⟨f_law_sorted, d_law_sorted, O_law_sorted, m_law_sorted, k_law_sorted, b_law_sorted, F_law_sorted⟩ := h_law_sorted
  refine F.ok sc_law_told (fun vs H Q E h => ?_) (fun cdv A outer s H vs Q E hr h => ?_)
  · obtain ⟨s, d, D, rfl, hs, hd, hnd, hm, hok, q⟩ := h
    first | rfl | (rcases h with ⟨_, _, rfl, _⟩ | ⟨_, rfl, _⟩ <;> rfl)
  obtain ⟨s, d, D, rfl, hs, hd, hnd, hm, hok, q⟩ := h
  refine ⟨_, (pss_cons (ps_set (i := 2) sc_law_told.nd rfl (by first | exact Or.inl rfl | exact Or.inr rfl) (pe_lst (pa_cons (pe_joined (.cons pe_str (.cons (pe_fmt (pv 0)) (.cons pe_str .nil)))) pa_nil)))
  (pss_cons (ps_for PassesOwn.never rfl (pi_list (pe_call O_law_sorted hr rfl m_law_sorted k_law_sorted b_law_sorted .nil pass0 (pa_cons (pv 1) pa_nil))) (pg_tup rfl (pgs_cons (pg_name (i := 3) sc_law_told.nd rfl (by first | exact Or.inl rfl | exact Or.inr rfl)) (pgs_cons (pg_name (i := 4) sc_law_told.nd rfl (by first | exact Or.inl rfl | exact Or.inr rfl)) pgs_nil)))
    (pss_cons (ps_set (i := 5) sc_law_told.nd rfl (by first | exact Or.inl rfl | exact Or.inr rfl) (pe_ifExp (pt_cmpR op_ne (pv 3) pe_str (nomark _)) (pv 3) pe_str))
  (pss_one (ps_expr (pe_bm PySem.F.plainAttrs_list PySem.F.slot_list_append PySem.F.type_list_append mt_append (pv 2) (pa_cons (pe_joined (.cons pe_str (.cons (pe_fmt (pv 4)) (.cons pe_str (.cons (pe_fmt (pv 5)) (.cons pe_str .nil)))))) pa_nil))))))
  (pss_one (ps_ret (pe_join pe_str (pv 2)))))), ?_⟩
  have nh := headS_len hs
  unfold headS at nh
  rw [str_app_len, str_app_len] at nh
  have n1 : (numS (s : Int)).length ≤ 4 := numS_len (by omega) (by omega)
  have e1 : (Str.ofString "size ").length = 5 := by decide +kernel
  have e2 : (Str.ofString "\n").length = 1 := by decide +kernel
  have hokM : ∀ e ∈ told D, EntOk e := fun e he => hok e (told_mem.mp he)
  have hmM : (told D).length ≤ 60 := by rw [told_len]; exact hm
  refine ⟨_, rfl, by rw [empty_app]; exact line600 (by decide +kernel), ?_⟩
  refine ⟨_, rfl, .inr ⟨_, rfl, log_ok (by omega), ?_⟩⟩
  refine ⟨_, rfl, line600 (by rw [empty_app, str_app_len]; show _ + (numS (s : Int)).length ≤ 600; omega), ?_⟩
  refine ⟨_, rfl, line600 (by rw [empty_app, str_app_len, str_app_len]; show _ + (numS (s : Int)).length + _ ≤ 600; omega), (by show 1 ≤ sizeLine; decide), fun p np => ?_⟩
  rw [show Str.empty ++ Str.ofString "size " ++ Str.ofString (toString ((s : Nat) : Int)) ++ Str.ofString "\n" = headS s from heads s]
  have S1 := same_new np (.lst [V.str (headS s)])
  have hp1 : upd H p (.lst [V.str (headS s)]) p = some (.lst ((headS s :: ((told D).take 0).map lineS).map V.str)) := upd_same
  have hd1 := S1 _ _ hd
  generalize upd H p (.lst [V.str (headS s)]) = H1 at S1 hp1 hd1
  generalize hMe : told D = M at hp1 hokM hmM q
  refine ⟨_, rfl, d, D, rfl, hd1, hnd, by omega, fun H2 l nl S2 hR2 => ?_⟩
  rw [hMe] at hR2
  obtain ⟨ts, hl, hP⟩ := id hR2
  have hp2 := S2 _ _ hp1
  have hpl := paired_len hP
  have hlp : l ≠ p := (ne_of_none hp1 nl).symm
  refine ⟨l, rfl, ⟨_, SqL.of hl⟩, for_list (K := K) (a := l) (xs := ts.map V.ref) (fun i σ H' => ∃ v2 v3 v4 : Option V, σ = [some (.int ((s : Nat) : Int)), some (.ref d), some (.ref p), v2, v3, v4] ∧ Same H H' ∧ H' l = some (.lst (ts.map V.ref)) ∧ Paired (SIAt H') ts M ∧ H' p = some (.lst ((headS s :: (M.take i).map lineS).map V.str))) ⟨none, none, none, rfl, S1.trans S2, hl, hP, hp2⟩ (fun i σ H' _ ⟨_, _, _, _, _, z, _⟩ => SqL.of z) ?_ ?_⟩
  · rintro i x σ H3 hx ⟨v2, v3, v4, rfl, S3, hl3, hP3, hp3⟩
    obtain ⟨t, e, rfl, he, hpe⟩ := si_at hP3 hx
    have hE := hokM e (List.mem_of_getElem? he)
    have hnl := hE.lo
    have hnh := hE.hi
    have hll := lineS_len hE
    have hwl := wordS_len hE.tx
    refine ⟨t, _, rfl, SqT.of hpe, rfl, _, _, rfl, _, _, rfl, rfl, ?_⟩
    have hn : (Str.ofString (toString e.2)).length ≤ 4 := numS_len (by omega) (by omega)
    have e3 : (Str.ofString "read ").length = 5 := by decide +kernel
    have e4 : (Str.ofString " ").length = 1 := by decide +kernel
    have e5 : (Str.ofString "-").length = 1 := by decide +kernel
    have hline := lines_ e.2 e.1
    refine ⟨_, rfl, rfl, _, rfl, ?_⟩
    by_cases ht : e.1 = sEm
    case' pos =>
      have hw : wordS e.1 = sDa := by unfold wordS; rw [if_pos ht]
      refine iteNS (by rw [ht]) ?_
    case' neg =>
      have hw : wordS e.1 = e.1 := by unfold wordS; rw [if_neg ht]
      have ht4 : e.1.length ≤ 400 := by rw [hw] at hwl; exact hwl
      refine iteNot (fun z => ht (V.str.inj z)) ⟨_, rfl, ?_⟩
    all_goals
      rw [hw] at hwl hline
      refine ⟨_, rfl, .inl ⟨rfl, _, SqL.of hp3⟩, ?_⟩
      refine ⟨_, rfl, line600 (by rw [empty_app]; omega), _, rfl, .inr ⟨_, rfl, log_ok (by omega), ?_⟩⟩
      refine ⟨_, rfl, line600 (by rw [empty_app, str_app_len]; omega), ?_⟩
      refine ⟨_, rfl, line600 (by rw [empty_app, str_app_len, str_app_len]; omega), ?_⟩
      refine ⟨_, rfl, .inl ⟨_, rfl, line600 (by omega), ?_⟩⟩
      refine ⟨_, rfl, line600 (by rw [empty_app, str_app_len, str_app_len, str_app_len]; omega), ?_⟩
      refine ⟨_, rfl, line600 (by rw [empty_app, str_app_len, str_app_len, str_app_len, str_app_len]; omega), ?_⟩
      refine ⟨p, _, _, rfl, rfl, hp3, ?_, ?_⟩
      · rw [List.length_map, List.length_cons, List.length_map, List.length_take]
        exact Nat.lt_of_le_of_lt (by omega : _ ≤ 61) (by decide)
      · refine ⟨_, _, _, rfl, same_upd S3 np, by rw [upd_ne hlp]; exact hl3, paired_mono (fun q f hq => ?_) hP3, ?_⟩
        · have nq : q ≠ p := ne_of hq hp3 (by intro z; cases z)
          show upd _ _ _ q = _
          rw [upd_ne nq]
          exact hq
        · rw [upd_same, take_snoc he, List.map_append, ← List.cons_append, List.map_append]
          rw [show List.map V.str (List.map lineS [e]) = [V.str (lineS (e.1, e.2))] from rfl, ← hline]
  · rintro σ H3 ⟨v2, v3, v4, rfl, S3, hl3, hP3, hp3⟩
    rw [List.length_map, hpl, List.take_length] at hp3
    exact ⟨⟨_, rfl⟩, _, rfl, _, _, _, rfl, rfl, .inl (SqL.of hp3), join_fits hs hmM hokM, q _ S3⟩
end
end My
set_option maxHeartbeats 4000000
namespace My
open PySem L2 PyProof.Rows
theorem cutV_to {xs : List V} {k : Nat} : cutV xs none (some (k : Int)) = xs.take k := by
  unfold cutV
  rw [HT.sIx_none, HT.sIx_nat]
  show (xs.drop 0).take _ = _
  rw [List.drop_zero]
  by_cases h : k ≤ xs.length
  · rw [Nat.min_eq_left h]; rfl
  · rw [Nat.min_eq_right (by omega), List.take_of_length_le (by omega), List.take_of_length_le (by omega)]
theorem line1000' {m n : Nat} (h : m ≤ 1000) (k : n ≤ 1000) : m + n ≤ sizeLine := Nat.le_trans (by omega : m + n ≤ 2000) (by decide)
theorem cutS_len (z : Str) (lo hi : Option Int) : (cutS z lo hi).length ≤ z.length := by
  unfold cutS
  rw [TL.len_tl, TL.len_tl]
  show (List.length _) ≤ _
  simp
  omega
section
variable {P : Program} {w : World} {K : PySem.W.Frag} {mg : Str → Option Value} {base : Heap} {C CE CP : Addr}
def sp_law_bent (_ : PySem.W.Frag) (_ _ : Addr) : Sp := fun vs H Q _ => ∃ a x, vs = [.ref a, .str x] ∧ PotAt H a ∧ 0 < x.length ∧ x.length ≤ 400 ∧ ∀ y H', y.length ≤ 2 * x.length + 2 → Kept a H H' → PotAt H' a → Q (.str y) H'
theorem ok_law_bent (D : Def K mg "_law_bent" s_law_bent ["_law_pot_here", "_law_text_here"]) (B : Bs mg) (Glb : Glo mg) (WK : WebK K mg C) (EXBadText : ExcF P w K mg base "line" "BadText" CE) (EXe : PySem.W.exmOne K (.ref CE) (.ref CE) = some true) (kL : PySem.W.kitOne K (.ref C) (.type "list") = some false) (PX : PErr K mg CE CP)
    (h_law_draw : Good P w K mg base "_law_draw" s_law_draw ["_law_pot_here", "_law_size"] 1 (sp_law_draw K C CE))
    (h_law_pick : Good P w K mg base "_law_pick" s_law_pick ["_law_pot_here", "_law_some"] 2 (sp_law_pick K C CE)) :
    Good P w K mg base "_law_bent" s_law_bent ["_law_pot_here", "_law_text_here"] 3 (sp_law_bent K C CE) := by
  refine D.good fun f fd F => ?_
  obtain ⟨f_law_draw, d_law_draw, O_law_draw, m_law_draw, k_law_draw, b_law_draw, F_law_draw⟩ := h_law_draw
  obtain ⟨f_law_pick, d_law_pick, O_law_pick, m_law_pick, k_law_pick, b_law_pick, F_law_pick⟩ := h_law_pick
  refine F.ok sc_law_bent (fun vs H Q E h => ?_) (fun cdv A outer s H vs Q E hr h => ?_)
  · obtain ⟨a, x, rfl, hp, hx0, hx, q⟩ := h
    first | rfl | (rcases h with ⟨_, _, rfl, _⟩ | ⟨_, rfl, _⟩ <;> rfl)
  obtain ⟨a, x, rfl, hp, hx0, hx, q⟩ := h
  refine ⟨_, (pss_cons (ps_par (i := 2) (j := 3) (by rfl) sc_law_bent.nd rfl rfl (by decide) rfl rfl (pa_cons (pe_call O_law_draw (hr.mono (by decide)) rfl m_law_draw k_law_draw b_law_draw .nil pass0 (pa_cons (pv 0) (pa_cons (pe_callB call_len_str (by rfl) B.len (by decide +kernel) (pa_cons (pv 1) pa_nil)) pa_nil))) (pa_cons (pe_call O_law_draw (hr.mono (by decide)) rfl m_law_draw k_law_draw b_law_draw .nil pass0 (pa_cons (pv 0) (pa_cons pe_int pa_nil))) pa_nil)) (by rfl))
  (pss_cons (ps_set (i := 4) sc_law_bent.nd rfl (by first | exact Or.inl rfl | exact Or.inr rfl) (pe_lst (pa_cons pe_str (pa_cons pe_str (pa_cons pe_str (pa_cons pe_str (pa_cons pe_str (pa_cons pe_str (pa_cons pe_str (pa_cons pe_str (pa_cons pe_str pa_nil)))))))))))
  (pss_cons (ps_if (pt_cmpR op_eq (pv 3) pe_int (nomark _))
    (pss_one (ps_ret (pe_op op_add_str (pe_slice sl_str (pv 1) po_none (po_some (pv 2))) (pe_slice sl_str (pv 1) (po_some (pe_op op_add (pv 2) pe_int)) po_none)))) pss_nil)
  (pss_cons (ps_if (pt_cmpR op_eq (pv 3) pe_int (nomark _))
    (pss_one (ps_ret (pe_op op_add_str (pe_op op_add_str (pe_slice sl_str (pv 1) po_none (po_some (pv 2))) (pe_call O_law_pick hr rfl m_law_pick k_law_pick b_law_pick .nil pass0 (pa_cons (pv 0) (pa_cons (pv 4) pa_nil)))) (pe_slice sl_str (pv 1) (po_some (pv 2)) po_none)))) pss_nil)
  (pss_cons (ps_if (pt_cmpR op_eq (pv 3) pe_int (nomark _))
    (pss_one (ps_ret (pe_op op_add_str (pe_op op_add_str (pe_slice sl_str (pv 1) po_none (po_some (pv 2))) (pe_call O_law_pick hr rfl m_law_pick k_law_pick b_law_pick .nil pass0 (pa_cons (pv 0) (pa_cons (pv 4) pa_nil)))) (pe_slice sl_str (pv 1) (po_some (pe_op op_add (pv 2) pe_int)) po_none)))) pss_nil)
  (pss_cons (ps_set (i := 5) sc_law_bent.nd rfl (by first | exact Or.inl rfl | exact Or.inr rfl) (pe_split (pv 1) pe_str))
  (pss_cons (ps_set (i := 6) sc_law_bent.nd rfl (by first | exact Or.inl rfl | exact Or.inr rfl) (pe_call O_law_draw (hr.mono (by decide)) rfl m_law_draw k_law_draw b_law_draw .nil pass0 (pa_cons (pv 0) (pa_cons (pe_callB call_len_seq (by rfl) B.len (by decide +kernel) (pa_cons (pv 5) pa_nil)) pa_nil))))
  (pss_cons (ps_if (pt_cmpR op_eq (pv 3) pe_int (nomark _))
    (pss_one (ps_ret (pe_join pe_str (pe_op op_cat (pe_slice sl_list (pv 5) po_none (po_some (pv 6))) (pe_slice sl_list (pv 5) (po_some (pe_op op_add (pv 6) pe_int)) po_none))))) pss_nil)
  (pss_cons (ps_if (pt_cmpR op_eq (pv 3) pe_int (nomark _))
    (pss_one (ps_ret (pe_join pe_str (pe_op op_cat (pe_slice sl_list (pv 5) po_none (po_some (pe_op op_add (pv 6) pe_int))) (pe_slice sl_list (pv 5) (po_some (pv 6)) po_none))))) pss_nil)
  (pss_one (ps_ret (pe_join pe_str (pe_op op_cat (pe_slice sl_list (pv 5) (po_some (pv 6)) po_none) (pe_slice sl_list (pv 5) po_none (po_some (pv 6)))))))))))))))), ?_⟩
  refine ⟨_, rfl, _, rfl, _, rfl, line1000 (by omega), a, x.length, rfl, hp, hx0, by omega, fun at_ H1 ha k1 p1 => ?_⟩
  refine ⟨_, rfl, a, 6, rfl, p1, by decide, by decide, fun way H2 hw k2 p2 => ?_⟩
  have k02 := k1.trans k2
  refine ⟨_, _, rfl, (by show 9 ≤ sizeLine; decide), fun l nl => ?_⟩
  have k03 := k02.new nl (o := .lst [V.str (Str.ofString "0"), .str (Str.ofString "1"), .str (Str.ofString "9"), .str (Str.ofString " "), .str (Str.ofString "a"), .str (Str.ofString "z"), .str (Str.ofString "-"), .str (Str.ofString "\n"), .str (Str.ofString "A")])
  have p3 := p2.new nl (o := .lst [V.str (Str.ofString "0"), .str (Str.ofString "1"), .str (Str.ofString "9"), .str (Str.ofString " "), .str (Str.ofString "a"), .str (Str.ofString "z"), .str (Str.ofString "-"), .str (Str.ofString "\n"), .str (Str.ofString "A")])
  have hl : upd H2 l (.lst [V.str (Str.ofString "0"), .str (Str.ofString "1"), .str (Str.ofString "9"), .str (Str.ofString " "), .str (Str.ofString "a"), .str (Str.ofString "z"), .str (Str.ofString "-"), .str (Str.ofString "\n"), .str (Str.ofString "A")]) l = some (.lst [V.str (Str.ofString "0"), .str (Str.ofString "1"), .str (Str.ofString "9"), .str (Str.ofString " "), .str (Str.ofString "a"), .str (Str.ofString "z"), .str (Str.ofString "-"), .str (Str.ofString "\n"), .str (Str.ofString "A")]) := upd_same
  have hla := p2.ne nl
  have one : ∀ v ∈ [V.str (Str.ofString "0"), .str (Str.ofString "1"), .str (Str.ofString "9"), .str (Str.ofString " "), .str (Str.ofString "a"), .str (Str.ofString "z"), .str (Str.ofString "-"), .str (Str.ofString "\n"), .str (Str.ofString "A")], ∃ y, v = V.str y ∧ y.length = 1 := by
    intro v hv
    simp only [List.mem_cons, List.not_mem_nil, or_false] at hv
    rcases hv with rfl | rfl | rfl | rfl | rfl | rfl | rfl | rfl | rfl <;> exact ⟨_, rfl, by decide +kernel⟩
  have ln : 0 < [V.str (Str.ofString "0"), .str (Str.ofString "1"), .str (Str.ofString "9"), .str (Str.ofString " "), .str (Str.ofString "a"), .str (Str.ofString "z"), .str (Str.ofString "-"), .str (Str.ofString "\n"), .str (Str.ofString "A")].length ∧ [V.str (Str.ofString "0"), .str (Str.ofString "1"), .str (Str.ofString "9"), .str (Str.ofString " "), .str (Str.ofString "a"), .str (Str.ofString "z"), .str (Str.ofString "-"), .str (Str.ofString "\n"), .str (Str.ofString "A")].length ≤ 1000 := by decide
  generalize upd H2 l (.lst [V.str (Str.ofString "0"), .str (Str.ofString "1"), .str (Str.ofString "9"), .str (Str.ofString " "), .str (Str.ofString "a"), .str (Str.ofString "z"), .str (Str.ofString "-"), .str (Str.ofString "\n"), .str (Str.ofString "A")]) = H3 at k03 p3 hl
  generalize [V.str (Str.ofString "0"), .str (Str.ofString "1"), .str (Str.ofString "9"), .str (Str.ofString " "), .str (Str.ofString "a"), .str (Str.ofString "z"), .str (Str.ofString "-"), .str (Str.ofString "\n"), .str (Str.ofString "A")] = xs at hl one ln
  have cl := cutS_len x
  have sz : ∀ n : Nat, n ≤ 1000 → n ≤ sizeLine := fun n h => line1000 h
  refine ⟨_, rfl, rfl, _, rfl, ?_⟩
  by_cases w0 : way = 0
  · refine iteYes (by rw [w0]; rfl) ?_
    refine ⟨_, rfl, _, rfl, _, rfl, _, rfl, line1000 (by omega), ?_⟩
    refine ⟨_, rfl, _, rfl, _, _, rfl, rfl, _, rfl, _, rfl, line1000 (by omega), ?_⟩
    have c1 := cl none (some (at_ : Int))
    have c2 := cl (some ((at_ : Int) + 1)) none
    refine ⟨_, _, rfl, rfl, line1000 (by omega), q _ H3 (by rw [str_app_len]; omega) k03 p3⟩
  refine iteNo (fun z => w0 (by have := int_eq.mp z; omega)) ?_
  refine ⟨_, rfl, rfl, _, rfl, ?_⟩
  by_cases w1 : way = 1
  · refine iteYes (by rw [w1]; rfl) ?_
    refine ⟨_, rfl, _, rfl, _, rfl, _, rfl, line1000 (by omega), ?_⟩
    refine ⟨_, rfl, _, rfl, a, l, xs, rfl, hl, hla, ln.1, ln.2, p3, fun v H4 hv k4 p4 => ?_⟩
    obtain ⟨c, rfl, hc⟩ := one v hv
    have c1 := cl none (some (at_ : Int))
    have c2 := cl (some (at_ : Int)) none
    refine ⟨_, _, rfl, rfl, line1000 (by omega), ?_⟩
    refine ⟨_, rfl, _, rfl, _, rfl, _, rfl, line1000 (by omega), ?_⟩
    refine ⟨_, _, rfl, rfl, line1000 (by rw [str_app_len]; omega), q _ H4 (by rw [str_app_len, str_app_len]; omega) (k03.trans k4) p4⟩
  refine iteNo (fun z => w1 (by have := int_eq.mp z; omega)) ?_
  refine ⟨_, rfl, rfl, _, rfl, ?_⟩
  by_cases w2 : way = 2
  · refine iteYes (by rw [w2]; rfl) ?_
    refine ⟨_, rfl, _, rfl, _, rfl, _, rfl, line1000 (by omega), ?_⟩
    refine ⟨_, rfl, _, rfl, a, l, xs, rfl, hl, hla, ln.1, ln.2, p3, fun v H4 hv k4 p4 => ?_⟩
    obtain ⟨c, rfl, hc⟩ := one v hv
    have c1 := cl none (some (at_ : Int))
    have c2 := cl (some ((at_ : Int) + 1)) none
    refine ⟨_, _, rfl, rfl, line1000 (by omega), ?_⟩
    refine ⟨_, rfl, _, rfl, _, _, rfl, rfl, _, rfl, _, rfl, line1000 (by omega), ?_⟩
    refine ⟨_, _, rfl, rfl, line1000 (by rw [str_app_len]; omega), q _ H4 (by rw [str_app_len, str_app_len]; omega) (k03.trans k4) p4⟩
  refine iteNo (fun z => w2 (by have := int_eq.mp z; omega)) ?_
  refine ⟨_, rfl, ⟨_, rfl⟩, _, _, rfl, rfl, (by decide +kernel), line1002 (by omega), fun lp nlp => ?_⟩
  have k4 := k03.new nlp (o := .lst ((Txt.split x (Str.ofString "\n")).map V.str))
  have p4 := p3.new nlp (o := .lst ((Txt.split x (Str.ofString "\n")).map V.str))
  have hlp : upd H3 lp (.lst ((Txt.split x (Str.ofString "\n")).map V.str)) lp = some (.lst ((linesOf x).map V.str)) := upd_same
  have hlpa := p3.ne nlp
  generalize upd H3 lp (.lst ((Txt.split x (Str.ofString "\n")).map V.str)) = H4 at k4 p4 hlp
  have hwid := lines_wid x
  have hne := lines_ne x
  generalize linesOf x = W at hlp hwid hne
  have hWl := wid_len W
  have hW0 : 0 < W.length := List.length_pos_iff.mpr hne
  refine ⟨_, rfl, _, rfl, _, _, rfl, .inl (SqL.of hlp), a, W.length, by rw [List.length_map]; rfl, p4, hW0, by omega, fun spot H5 hsp k5 p5 => ?_⟩
  have k05 := k4.trans k5
  have hlp5 := k5 _ _ hlp hlpa
  have w_t := wid_take W
  have w_d := wid_drop W
  have l_t : ∀ k, (W.take k).length ≤ 1000 := fun k => by rw [List.length_take]; omega
  have l_d : ∀ k, (W.drop k).length ≤ 1000 := fun k => by rw [List.length_drop]; omega
  have e_t : ∀ k : Nat, cutV (W.map V.str) none (some (k : Int)) = (W.take k).map V.str := fun k => by rw [cutV_to, List.map_take]
  have e_d : ∀ k : Nat, cutV (W.map V.str) (some (k : Int)) none = (W.drop k).map V.str := fun k => by rw [cutV_from, List.map_drop]
  have e_1 : ((spot : Nat) : Int) + 1 = ((spot + 1 : Nat) : Int) := by omega
  refine ⟨_, rfl, rfl, _, rfl, ?_⟩
  by_cases w3 : way = 3
  · refine iteYes (by rw [w3]; rfl) ?_
    refine ⟨⟨_, rfl⟩, _, rfl, _, rfl, _, rfl, lp, _, rfl, SqL.of hlp5, fun p1 np1 => ?_⟩
    rw [e_t spot]
    have S1 := same_new np1 (.lst ((W.take spot).map V.str))
    have h1 : upd H5 p1 (.lst ((W.take spot).map V.str)) p1 = some (.lst ((W.take spot).map V.str)) := upd_same
    have hlp6 := S1 _ _ hlp5
    generalize upd H5 p1 (.lst ((W.take spot).map V.str)) = H6 at S1 h1 hlp6
    refine ⟨_, rfl, _, rfl, _, _, rfl, rfl, _, rfl, lp, _, rfl, SqL.of hlp6, fun p2 np2 => ?_⟩
    rw [(show cutV (W.map V.str) (some ((spot : Int) + 1)) none = (W.drop (spot + 1)).map V.str by rw [e_1]; exact e_d (spot + 1))]
    have S2 := S1.trans (same_new np2 (.lst ((W.drop (spot + 1)).map V.str)))
    have h12 := same_new np2 (.lst ((W.drop (spot + 1)).map V.str)) _ _ h1
    have h2 : upd H6 p2 (.lst ((W.drop (spot + 1)).map V.str)) p2 = some (.lst ((W.drop (spot + 1)).map V.str)) := upd_same
    generalize upd H6 p2 (.lst ((W.drop (spot + 1)).map V.str)) = H7 at S2 h12 h2
    refine ⟨p1, p2, _, _, rfl, rfl, h12, h2, line1000' (by rw [List.length_map]; exact l_t _) (by rw [List.length_map]; exact l_d _), fun p3 np3 => ?_⟩
    rw [← List.map_append]
    have S3 := S2.trans (same_new np3 (.lst ((W.take spot ++ W.drop (spot + 1)).map V.str)))
    have hw3 : wid (W.take spot ++ W.drop (spot + 1)) ≤ 2 * x.length + 2 := by
      rw [wid_app]
      have a1 := w_t (spot)
      have a2 := w_d ((spot + 1))
      omega
    refine ⟨_, p3, _, rfl, rfl, .inl (SqL.of upd_same), ?_, ?_⟩
    · rw [show (Str.ofString "\n").length = 1 by decide +kernel, wid_sum]
      exact Nat.le_trans hw3 (by omega)
    · exact q _ _ (Nat.le_trans (join_le tl_nl _) hw3) (k05.trans (Same.kept S3)) (p5.same S3)

  refine iteNo (fun z => w3 (by have := int_eq.mp z; omega)) ?_
  refine ⟨_, rfl, rfl, _, rfl, ?_⟩
  by_cases w4 : way = 4
  · refine iteYes (by rw [w4]; rfl) ?_
    refine ⟨⟨_, rfl⟩, _, rfl, _, rfl, _, _, rfl, rfl, _, rfl, lp, _, rfl, SqL.of hlp5, fun p1 np1 => ?_⟩
    rw [(show cutV (W.map V.str) none (some ((spot : Int) + 1)) = (W.take (spot + 1)).map V.str by rw [e_1]; exact e_t (spot + 1))]
    have S1 := same_new np1 (.lst ((W.take (spot + 1)).map V.str))
    have h1 : upd H5 p1 (.lst ((W.take (spot + 1)).map V.str)) p1 = some (.lst ((W.take (spot + 1)).map V.str)) := upd_same
    have hlp6 := S1 _ _ hlp5
    generalize upd H5 p1 (.lst ((W.take (spot + 1)).map V.str)) = H6 at S1 h1 hlp6
    refine ⟨_, rfl, _, rfl, _, rfl, lp, _, rfl, SqL.of hlp6, fun p2 np2 => ?_⟩
    rw [e_d spot]
    have S2 := S1.trans (same_new np2 (.lst ((W.drop spot).map V.str)))
    have h12 := same_new np2 (.lst ((W.drop spot).map V.str)) _ _ h1
    have h2 : upd H6 p2 (.lst ((W.drop spot).map V.str)) p2 = some (.lst ((W.drop spot).map V.str)) := upd_same
    generalize upd H6 p2 (.lst ((W.drop spot).map V.str)) = H7 at S2 h12 h2
    refine ⟨p1, p2, _, _, rfl, rfl, h12, h2, line1000' (by rw [List.length_map]; exact l_t _) (by rw [List.length_map]; exact l_d _), fun p3 np3 => ?_⟩
    rw [← List.map_append]
    have S3 := S2.trans (same_new np3 (.lst ((W.take (spot + 1) ++ W.drop spot).map V.str)))
    have hw3 : wid (W.take (spot + 1) ++ W.drop spot) ≤ 2 * x.length + 2 := by
      rw [wid_app]
      have a1 := w_t ((spot + 1))
      have a2 := w_d (spot)
      omega
    refine ⟨_, p3, _, rfl, rfl, .inl (SqL.of upd_same), ?_, ?_⟩
    · rw [show (Str.ofString "\n").length = 1 by decide +kernel, wid_sum]
      exact Nat.le_trans hw3 (by omega)
    · exact q _ _ (Nat.le_trans (join_le tl_nl _) hw3) (k05.trans (Same.kept S3)) (p5.same S3)

  refine iteNo (fun z => w4 (by have := int_eq.mp z; omega)) ?_
  refine ⟨⟨_, rfl⟩, _, rfl, _, rfl, _, rfl, lp, _, rfl, SqL.of hlp5, fun p1 np1 => ?_⟩
  rw [e_d spot]
  have S1 := same_new np1 (.lst ((W.drop spot).map V.str))
  have h1 : upd H5 p1 (.lst ((W.drop spot).map V.str)) p1 = some (.lst ((W.drop spot).map V.str)) := upd_same
  have hlp6 := S1 _ _ hlp5
  generalize upd H5 p1 (.lst ((W.drop spot).map V.str)) = H6 at S1 h1 hlp6
  refine ⟨_, rfl, _, rfl, _, rfl, lp, _, rfl, SqL.of hlp6, fun p2 np2 => ?_⟩
  rw [e_t spot]
  have S2 := S1.trans (same_new np2 (.lst ((W.take spot).map V.str)))
  have h12 := same_new np2 (.lst ((W.take spot).map V.str)) _ _ h1
  have h2 : upd H6 p2 (.lst ((W.take spot).map V.str)) p2 = some (.lst ((W.take spot).map V.str)) := upd_same
  generalize upd H6 p2 (.lst ((W.take spot).map V.str)) = H7 at S2 h12 h2
  refine ⟨p1, p2, _, _, rfl, rfl, h12, h2, line1000' (by rw [List.length_map]; exact l_d _) (by rw [List.length_map]; exact l_t _), fun p3 np3 => ?_⟩
  rw [← List.map_append]
  have S3 := S2.trans (same_new np3 (.lst ((W.drop spot ++ W.take spot).map V.str)))
  have hw3 : wid (W.drop spot ++ W.take spot) ≤ 2 * x.length + 2 := by
    rw [wid_app]
    have a1 := w_d (spot)
    have a2 := w_t (spot)
    omega
  refine ⟨_, p3, _, rfl, rfl, .inl (SqL.of upd_same), ?_, ?_⟩
  · rw [show (Str.ofString "\n").length = 1 by decide +kernel, wid_sum]
    exact Nat.le_trans hw3 (by omega)
  · exact q _ _ (Nat.le_trans (join_le tl_nl _) hw3) (k05.trans (Same.kept S3)) (p5.same S3)
end
end My
set_option maxHeartbeats 4000000
namespace My
open PySem L2 PyProof.Rows
theorem txB_ok {x : Str} (h : txB x = true) : OkT x := okT_of (x := x) h
abbrev badD (e : PyData) : PyData := .list [.str (Str.ofString "bad"), e, .bool true]
theorem dp_bad {K : PySem.W.Frag} {H : Hp} {p : Addr} {u : V} {e : PyData} (h : H p = some (.lst [.str (Str.ofString "bad"), u, .bl true])) (k : Dp K H u e) : Dp K H (.ref p) (badD e) := .lst (SqL.of h) (.cons (.str _) (.cons k (.cons (.bl true) .nil)))
theorem shaped_badI (k : Int) : SeqAt.shaped (badD (.int k)) = true := by
  unfold SeqAt.shaped
  have h1 : PyData.canLay0 (badD (.int k)) = true := by
    show (PyData.strOk (Str.ofString "bad") && (true && (true && true))) = true
    decide +kernel
  have h2 : PyData.depth (badD (.int k)) = 1 := by simp [PyData.depth, PyData.depthAll]
  rw [h1, h2]
  rfl
theorem shaped_badN : SeqAt.shaped (badD .none) = true := by decide +kernel
section
variable {P : Program} {w : World} {K : PySem.W.Frag} {mg : Str → Option Value} {base : Heap} {C CE CP : Addr}
def sp_law_heard (_ : PySem.W.Frag) (C _ : Addr) : Sp := fun vs H Q _ => ∃ v d, vs = [v] ∧ Vd H v d ∧
  (isS d = false → ∀ H' l, Same H H' → H l = none → H' l = some (.lst [.str (Str.ofString "bad"), .non, .bl true]) → Q (.ref l) H') ∧
  (∀ x, v = .str x → (∀ k : Nat, readT x = .inl k → ∀ H' l, Same H H' → H l = none → H' l = some (.lst [.str (Str.ofString "bad"), .int (k : Int), .bl true]) → Q (.ref l) H') ∧
    ∀ s L, readT x = .inr (s, L) → ∀ H' a tl, Same H H' → H a = none → H tl = none → LotAt C a tl s L H' → Q (.ref a) H')
theorem ok_law_heard (D : Def K mg "_law_heard" s_law_heard ["_law_text_here"]) (B : Bs mg) (Glb : Glo mg) (WK : WebK K mg C) (EXBadText : ExcF P w K mg base "line" "BadText" CE) (EXe : PySem.W.exmOne K (.ref CE) (.ref CE) = some true) (kL : PySem.W.kitOne K (.ref C) (.type "list") = some false) (PX : PErr K mg CE CP)
    (hlot_of : GoodX P w K mg base "lot_of" slot_of ["text"] 8 (splot_of K C CE)) :
    Good P w K mg base "_law_heard" s_law_heard ["_law_text_here"] 9 (sp_law_heard K C CE) := by
  refine D.good fun f fd F => ?_
  obtain ⟨flot_of, dlot_of, Olot_of, mlot_of, klot_of, blot_of, Flot_of⟩ := hlot_of
  have kb_lot_of_text : KBinds K dlot_of ["text"] ["text"] g1 g1 := fun_kbinds Flot_of g1 g1 rel1 (fun _ _ _ _ _ _ us ws hl => by
    obtain ⟨rfl, a0, rfl⟩ := g1_inv hl
    rfl)
  refine F.ok sc_law_heard (fun vs H Q E h => ?_) (fun cdv A outer s H vs Q E hr h => ?_)
  · obtain ⟨v, d, rfl, hv, qN, qT⟩ := h
    first | rfl | (rcases h with ⟨_, _, rfl, _⟩ | ⟨_, rfl, _⟩ <;> rfl)
  obtain ⟨v, d, rfl, hv, qN, qT⟩ := h
  refine ⟨_, (pss_cons (ps_set (i := 1) sc_law_heard.nd rfl (by first | exact Or.inl rfl | exact Or.inr rfl) pe_non)
  (pss_cons (ps_try_as (i := 2) rfl rfl sc_law_heard.nd rfl rfl ⟨rfl, by decide, .inl EXBadText.g⟩ takes0 (fun W pn xe tk _ => (pss_one (ps_set (i := 1) sc_law_heard.nd rfl (by first | exact Or.inl rfl | exact Or.inr rfl) (pe_callKS Olot_of hr (by rfl) mlot_of klot_of kb_lot_of_text (fun σ => passAt tk σ) (pk_cons (pv 0) pk_nil))))) (fun a oe cls d pn hz hf => (pss_one (ps_set (i := 1) sc_law_heard.nd rfl (by first | exact Or.inl rfl | exact Or.inr rfl) (pe_lst (pa_cons pe_str (pa_cons (pe_xf EXBadText.xf EXBadText.hno hz hf (pv 2)) (pa_cons (pe_callB (call_isYes hz) (by rfl) B.isinstance (by decide +kernel) (pa_cons (pv 2) (pa_cons (pe_glob (v := .ref CP) (by rfl) PX.g rfl) pa_nil))) pa_nil))))))))
  (pss_one (ps_ret (pv 1))))), ?_⟩
  refine ⟨_, rfl, v, d, rfl, hv, fun h H1 dd S1 ndd => ?_, fun x hx => ⟨fun k hk H1 dd S1 ndd => ?_, fun s L hL H' a tl S' na ntl hLot => ?_⟩⟩
  · have qN := qN h
    refine ⟨true, EXe, fun _ a na => ?_, fun z => nomatch z⟩
    have S2 := S1.trans (same_new ndd (.xd [("line", .non)]))
    refine ⟨_, rfl, rfl, rfl, dd, _, .non, rfl, upd_same, rfl, _, rfl, CP, rfl, PX.i, (by show 3 ≤ sizeLine; decide), fun l nl => ?_⟩
    exact ⟨_, rfl, qN _ l (S2.trans (same_new nl _)) (S2.free nl) upd_same⟩
  · refine ⟨true, EXe, fun _ a na => ?_, fun z => nomatch z⟩
    have S2 := S1.trans (same_new ndd (.xd [("line", .int (k : Int))]))
    refine ⟨_, rfl, rfl, rfl, dd, _, .int (k : Int), rfl, upd_same, rfl, _, rfl, CP, rfl, PX.i, (by show 3 ≤ sizeLine; decide), fun l nl => ?_⟩
    exact ⟨_, rfl, (qT x hx).1 k hk _ l (S2.trans (same_new nl _)) (S2.free nl) upd_same⟩
  · exact ⟨_, rfl, (qT x hx).2 s L hL H' a tl S' na ntl hLot⟩
def sp_law_text_right (_ : PySem.W.Frag) (_ _ : Addr) : Sp := fun vs H Q _ => ∃ x : Str, vs = [.str x] ∧ x.length ≤ 1000 ∧ ∀ H', Same H H' → Q (.bl true) H'
theorem ok_law_text_right (D : Def K mg "_law_text_right" s_law_text_right ["_law_text_here"]) (B : Bs mg) (Glb : Glo mg) (WK : WebK K mg C) (EXBadText : ExcF P w K mg base "line" "BadText" CE) (EXe : PySem.W.exmOne K (.ref CE) (.ref CE) = some true) (kL : PySem.W.kitOne K (.ref C) (.type "list") = some false) (PX : PErr K mg CE CP)
    (h_law_read : Good P w K mg base "_law_read" s_law_read ["_law_text_here"] 2 (sp_law_read K C CE))
    (h_law_heard : Good P w K mg base "_law_heard" s_law_heard ["_law_text_here"] 9 (sp_law_heard K C CE))
    (hlot_text : Good P w K mg base "lot_text" slot_text ["lot"] 4 (splot_text K C CE))
    (hLot_size : GoodP P w K mg base C "size" "Lot.size" sLot_size ["self"] 1 (spLot_size K C CE))
    (hLot_readings : GoodM P w K mg base C "readings" "Lot.readings" sLot_readings ["self"] 1 (spLot_readings K C CE)) :
    Good P w K mg base "_law_text_right" s_law_text_right ["_law_text_here"] 10 (sp_law_text_right K C CE) := by
  refine D.good fun f fd F => ?_
  obtain ⟨f_law_read, d_law_read, O_law_read, m_law_read, k_law_read, b_law_read, F_law_read⟩ := h_law_read
  obtain ⟨f_law_heard, d_law_heard, O_law_heard, m_law_heard, k_law_heard, b_law_heard, F_law_heard⟩ := h_law_heard
  obtain ⟨flot_text, dlot_text, Olot_text, mlot_text, klot_text, blot_text, Flot_text⟩ := hlot_text
  obtain ⟨qLot_size, fLot_size, dLot_size, OLot_size, pLot_size, bLot_size⟩ := hLot_size
  obtain ⟨fLot_readings, dLot_readings, OLot_readings, tLot_readings, bLot_readings, FLot_readings⟩ := hLot_readings
  refine F.ok sc_law_text_right (fun vs H Q E h => ?_) (fun cdv A outer s H vs Q E hr h => ?_)
  · obtain ⟨x, rfl, hx, q⟩ := h
    first | rfl | (rcases h with ⟨_, _, rfl, _⟩ | ⟨_, rfl, _⟩ <;> rfl)
  obtain ⟨x, rfl, hx, q⟩ := h
  refine ⟨_, (pss_cons (ps_asg (pe_call O_law_read (hr.mono (by decide)) rfl m_law_read k_law_read b_law_read .nil pass0 (pa_cons (pv 0) pa_nil)) (pg_tup rfl (pgs_cons (pg_name (i := 1) sc_law_text_right.nd rfl (by first | exact Or.inl rfl | exact Or.inr rfl)) (pgs_cons (pg_name (i := 2) sc_law_text_right.nd rfl (by first | exact Or.inl rfl | exact Or.inr rfl)) (pgs_cons (pg_name (i := 3) sc_law_text_right.nd rfl (by first | exact Or.inl rfl | exact Or.inr rfl)) pgs_nil)))))
  (pss_cons (ps_set (i := 4) sc_law_text_right.nd rfl (by first | exact Or.inl rfl | exact Or.inr rfl) (pe_call O_law_heard hr rfl m_law_heard k_law_heard b_law_heard .nil pass0 (pa_cons (pv 0) pa_nil)))
  (pss_cons (ps_if (pt_cmpR op_notN (pv 1) pe_non (nomark _))
    (pss_one (ps_ret (pe_cmpR (op_eqD hr.units) (pv 4) (pe_lst (pa_cons pe_str (pa_cons (pv 1) (pa_cons pe_bl pa_nil)))) (nomark _)))) pss_nil)
  (pss_cons (ps_if (PW.pt (pw_or (pt_val (pe_callB call_isi (by rfl) B.isinstance (by decide +kernel) (pa_cons (pv 4) (pa_cons (pe_bltn (v := .ty "list") (by rfl) B.list (by decide +kernel) rfl) pa_nil)))) (pw_or (pt_cmpR op_ne (pe_prop (pv 4) WK.cl pLot_size OLot_size (hr.mono (by decide)) bLot_size .nil pass0 (by rfl)) (pv 2) (nomark _)) (pw_or1 (pt_cmpR (op_neD hr.units) (pe_meth0 (pv 4) WK.cl tLot_readings OLot_readings (hr.mono (by decide)) bLot_readings .nil pass0) (pv 3) (nomark _))))))
    (pss_one (ps_ret pe_bl)) pss_nil)
  (pss_one (ps_ret (pe_cmpR op_eq (pe_call Olot_text (hr.mono (by decide)) rfl mlot_text klot_text blot_text .nil pass0 (pa_cons (pv 4) pa_nil)) (pv 0) (nomark _)))))))), ?_⟩
  refine ⟨_, rfl, x, rfl, hx, fun k hk H1 t S1 ht => ?_, fun s L hL H1 t l S1 ht hR => ?_⟩
  · refine ⟨t, _, rfl, SqT.of ht, rfl, _, _, rfl, _, _, rfl, _, _, rfl, rfl, ?_⟩
    refine ⟨_, rfl, .str x, .str x, rfl, .str x hx, (fun z => by cases z), fun y hy => ⟨fun m hm H2 l2 S2 nl2 hl2 => ?_, fun s L hL => ?_⟩⟩
    · cases hy
      rw [hk] at hm
      cases hm
      refine ⟨_, rfl, rfl, _, rfl, iteNot (fun z => nomatch z) ?_⟩
      refine ⟨_, rfl, _, rfl, (by show 3 ≤ sizeLine; decide), fun l3 nl3 => ?_⟩
      have S3 := S2.trans (same_new nl3 (.lst [V.str (Str.ofString "bad"), .int (k : Int), .bl true]))
      refine ⟨badD (.int k), badD (.int k), dp_bad (same_new nl3 _ _ _ hl2) (.int _), dp_bad upd_same (.int _), shaped_badI _, shaped_badI _, ?_⟩
      rw [SeqAt.eqv_refl _ (SeqAt.canLay_of_shaped (shaped_badI _))]
      exact q _ (S1.trans S3)
    · cases hy
      rw [hk] at hL
      cases hL
  · refine ⟨t, _, rfl, SqT.of ht, rfl, _, _, rfl, _, _, rfl, _, _, rfl, rfl, ?_⟩
    refine ⟨_, rfl, .str x, .str x, rfl, .str x hx, (fun z => by cases z), fun y hy => ⟨fun m hm => ?_, fun s' L' hL' H2 a tl S2 na ntl hLot => ?_⟩⟩
    · cases hy
      rw [hL] at hm
      cases hm
    · cases hy
      rw [hL] at hL'
      cases hL'
      obtain ⟨b1, b2, b3, b4, b5, b6⟩ := readT_is hL
      obtain ⟨dx, h1, _⟩ := id hLot
      refine ⟨_, rfl, rfl, _, rfl, iteNot' rfl ?_⟩
      refine ⟨_, rfl, _, _, _, _, false, rfl, .ty _, .base (.ins h1 WK.cl WK.i1 WK.i2 WK.i3 WK.i4), kL, _, rfl, iteF ?_⟩
      refine ⟨_, rfl, a, dx, _, rfl, h1, a, tl, s, L, rfl, hLot, ?_⟩
      refine ⟨_, rfl, rfl, _, rfl, iteNot' rfl ?_⟩
      have hokL : ∀ e ∈ L, OkT e.1 := fun e he => txB_ok (b4 e he).tx
      refine ⟨_, rfl, a, dx, _, rfl, h1, lf_no _ _ (by decide +kernel) (by decide +kernel), a, tl, s, L, rfl, hLot, fun H3 l2 nl2 S3 hR3 => ?_⟩
      refine ⟨_, rfl, _, _, dp_rd hR3, dp_rd ((hR.same S2).same S3), shaped_si hokL, shaped_si hokL, ?_⟩
      rw [SeqAt.eqv_refl _ (SeqAt.canLay_of_shaped (shaped_si hokL))]
      refine ⟨_, rfl, iteF ?_⟩
      refine ⟨_, rfl, a, tl, s, L, rfl, hLot.same S3, b3, b6, b4, fun H4 S4 => ⟨_, rfl, rfl, ?_⟩⟩
      rw [b1]
      exact bl_true rfl (q _ (((S1.trans S2).trans S3).trans S4))
end
end My
set_option maxHeartbeats 4000000
namespace My
open PySem L2 PyProof.Rows
/-- texts, none of them long -/
def TxAll (vs : List V) (n : Nat) : Prop := ∀ v ∈ vs, ∃ x : Str, v = .str x ∧ x.length ≤ n
theorem TxAll.app {a b : List V} {n : Nat} (h : TxAll a n) (k : TxAll b n) : TxAll (a ++ b) n := fun v hv => (List.mem_append.mp hv).elim (h v) (k v)
theorem TxAll.more {a : List V} {n m : Nat} (h : TxAll a n) (k : n ≤ m) : TxAll a m := fun v hv => by
  obtain ⟨x, e, l⟩ := h v hv
  exact ⟨x, e, Nat.le_trans l k⟩
structure TxL (H : Hp) (l : Addr) (m : Nat) : Prop where
  ex : ∃ xs : List V, H l = some (.lst xs) ∧ TxAll xs 1000 ∧ xs.length ≤ m
theorem TxL.same {H H' : Hp} {l : Addr} {m : Nat} (h : TxL H l m) (s : Same H H') : TxL H' l m := by
  obtain ⟨xs, a, b, c⟩ := h
  exact ⟨xs, s _ _ a, b, c⟩
theorem TxL.catted {H : Hp} {q : Addr} {xs ys : List V} {m : Nat} (a : TxAll xs 1000) (b : TxAll ys 1000) (c : xs.length + ys.length ≤ m) : TxL (upd H q (.lst (xs ++ ys))) q m := ⟨xs ++ ys, upd_same, a.app b, by rw [List.length_append]; exact c⟩
theorem line100 {m n : Nat} (h : m ≤ 100) (k : n ≤ 100) : m + n ≤ sizeLine := Nat.le_trans (by omega : m + n ≤ 200) (by decide)
theorem tx_0 : TxAll [V.str (Str.ofString ""), .str (Str.ofString "\n"), .str (Str.ofString "size 2"), .str (Str.ofString "size 2\n"), .str (Str.ofString "size 02\n"), .str (Str.ofString "size 1\n"), .str (Str.ofString "size 9\n"), .str (Str.ofString "size 8\n"), .str (Str.ofString "size  2\n"), .str (Str.ofString "size 2 \n")] 1000 := by
  intro v hv
  simp only [List.mem_cons, List.not_mem_nil, or_false] at hv
  rcases hv with rfl | rfl | rfl | rfl | rfl | rfl | rfl | rfl | rfl | rfl <;> exact ⟨_, rfl, by decide +kernel⟩
theorem tx_1 : TxAll [V.str (Str.ofString "Size 2\n"), .str (Str.ofString "size\n"), .str (Str.ofString "read 1 a\n"), .str (Str.ofString "size 2\nread 1 a"), .str (Str.ofString "size 2\nread 1 a\n"), .str (Str.ofString "size 2\nread 0 a\n")] 1000 := by
  intro v hv
  simp only [List.mem_cons, List.not_mem_nil, or_false] at hv
  rcases hv with rfl | rfl | rfl | rfl | rfl | rfl <;> exact ⟨_, rfl, by decide +kernel⟩
theorem tx_2 : TxAll [V.str (Str.ofString "size 2\nread 1200 a\n"), .str (Str.ofString "size 2\nread 1201 a\n"), .str (Str.ofString "size 2\nread 01 a\n"), .str (Str.ofString "size 2\nread 1\n")] 1000 := by
  intro v hv
  simp only [List.mem_cons, List.not_mem_nil, or_false] at hv
  rcases hv with rfl | rfl | rfl | rfl <;> exact ⟨_, rfl, by decide +kernel⟩
theorem tx_3 : TxAll [V.str (Str.ofString "size 2\nread 1 -\nread 1 a\n"), .str (Str.ofString "size 2\nread 1 a\nread 1 -\n"), .str (Str.ofString "size 2\nread 1 a\nread 2 a\n")] 1000 := by
  intro v hv
  simp only [List.mem_cons, List.not_mem_nil, or_false] at hv
  rcases hv with rfl | rfl | rfl <;> exact ⟨_, rfl, by decide +kernel⟩
theorem tx_4 : TxAll [V.str (Str.ofString "size 2\nread 1 b\nread 1 ab\n"), .str (Str.ofString "size 2\nread 1 a b\n"), .str (Str.ofString "size 2\nread 1 A\n"), .str (Str.ofString "size 2\n\n")] 1000 := by
  intro v hv
  simp only [List.mem_cons, List.not_mem_nil, or_false] at hv
  rcases hv with rfl | rfl | rfl | rfl <;> exact ⟨_, rfl, by decide +kernel⟩
theorem of_aT : V.str (Str.ofString "a") = T [97] := congrArg V.str of_a
theorem len400 : (Str.mk (List.replicate 400 [97]).flatten.toArray).length = 400 := by decide +kernel
theorem len401 : (Str.mk (List.replicate 401 [97]).flatten.toArray).length = 401 := by decide +kernel
theorem len14 : (Str.ofString "size 2\nread 1 ").length = 14 := by decide +kernel
theorem len1 : (Str.ofString "\n").length = 1 := by decide +kernel
theorem tx_5 : TxAll [V.str (Str.ofString "size 2\nread 1 " ++ Str.mk (List.replicate 400 [97]).flatten.toArray ++ Str.ofString "\n"), V.str (Str.ofString "size 2\nread 1 " ++ Str.mk (List.replicate 401 [97]).flatten.toArray ++ Str.ofString "\n"), V.str (Str.ofString "size 2\nread 1 \n")] 1000 := by
  intro v hv
  simp only [List.mem_cons, List.not_mem_nil, or_false] at hv
  rcases hv with rfl | rfl | rfl
  · exact ⟨_, rfl, by rw [str_app_len, str_app_len, len14, len400, len1]; decide⟩
  · exact ⟨_, rfl, by rw [str_app_len, str_app_len, len14, len401, len1]; decide⟩
  · exact ⟨_, rfl, by decide +kernel⟩
def NmL (H : Hp) (l : Addr) (n : Nat) : Prop := ∃ ys : List Str, H l = some (.lst (ys.map V.str)) ∧ (∀ y ∈ ys, y.length ≤ 2) ∧ ys.length = n
theorem join0_len (zs : List Str) : (Txt.join (Str.ofString "") zs).length = (zs.map (·.length)).sum := by
  rw [TL.len_tl, tl_join', tl_em, joinL_nil, List.length_flatten, List.map_map]
  refine congrArg List.sum (List.map_congr_left fun z _ => ?_)
  exact (TL.len_tl z).symm
section
variable {P : Program} {w : World} {K : PySem.W.Frag} {mg : Str → Option Value} {base : Heap} {C CE CP : Addr}
def sp_law_told_texts (_ : PySem.W.Frag) (_ _ : Addr) : Sp := fun vs H Q _ => vs = [] ∧ ∀ H' l, Same H H' → H l = none → TxL H' l 100 → Q (.ref l) H'
theorem ok_law_told_texts (D : Def K mg "_law_told_texts" s_law_told_texts []) (B : Bs mg) (Glb : Glo mg) (WK : WebK K mg C) (EXBadText : ExcF P w K mg base "line" "BadText" CE) (EXe : PySem.W.exmOne K (.ref CE) (.ref CE) = some true) (kL : PySem.W.kitOne K (.ref C) (.type "list") = some false) (PX : PErr K mg CE CP) :
    Good P w K mg base "_law_told_texts" s_law_told_texts [] 1 (sp_law_told_texts K C CE) := by
  refine D.good fun f fd F => ?_
  refine F.ok sc_law_told_texts (fun vs H Q E h => ?_) (fun cdv A outer s H vs Q E hr h => ?_)
  · obtain ⟨rfl, q⟩ := h
    first | rfl | (rcases h with ⟨_, _, rfl, _⟩ | ⟨_, rfl, _⟩ <;> rfl)
  obtain ⟨rfl, q⟩ := h
  refine ⟨_, (pss_cons (ps_set (i := 0) sc_law_told_texts.nd rfl (by first | exact Or.inl rfl | exact Or.inr rfl) (pe_lst (pa_cons pe_str (pa_cons pe_str (pa_cons pe_str (pa_cons pe_str (pa_cons pe_str (pa_cons pe_str (pa_cons pe_str (pa_cons pe_str (pa_cons pe_str (pa_cons pe_str pa_nil))))))))))))
  (pss_cons (ps_set (i := 0) sc_law_told_texts.nd rfl (by first | exact Or.inl rfl | exact Or.inr rfl) (pe_op op_cat (pv 0) (pe_lst (pa_cons pe_str (pa_cons pe_str (pa_cons pe_str (pa_cons pe_str (pa_cons pe_str (pa_cons pe_str pa_nil)))))))))
  (pss_cons (ps_set (i := 0) sc_law_told_texts.nd rfl (by first | exact Or.inl rfl | exact Or.inr rfl) (pe_op op_cat (pv 0) (pe_lst (pa_cons pe_str (pa_cons pe_str (pa_cons pe_str (pa_cons pe_str pa_nil)))))))
  (pss_cons (ps_set (i := 0) sc_law_told_texts.nd rfl (by first | exact Or.inl rfl | exact Or.inr rfl) (pe_op op_cat (pv 0) (pe_lst (pa_cons pe_str (pa_cons pe_str (pa_cons pe_str pa_nil))))))
  (pss_cons (ps_set (i := 0) sc_law_told_texts.nd rfl (by first | exact Or.inl rfl | exact Or.inr rfl) (pe_op op_cat (pv 0) (pe_lst (pa_cons pe_str (pa_cons pe_str (pa_cons pe_str (pa_cons pe_str pa_nil)))))))
  (pss_cons (ps_set (i := 0) sc_law_told_texts.nd rfl (by first | exact Or.inl rfl | exact Or.inr rfl) (pe_op op_cat (pv 0) (pe_lst (pa_cons (pe_op op_add_str (pe_op op_add_str pe_str (pe_op op_mul_str pe_str pe_int)) pe_str) (pa_cons (pe_op op_add_str (pe_op op_add_str pe_str (pe_op op_mul_str pe_str pe_int)) pe_str) (pa_cons pe_str pa_nil))))))
  (pss_cons (ps_set (i := 1) sc_law_told_texts.nd rfl (by first | exact Or.inl rfl | exact Or.inr rfl) (pe_lst pa_nil))
  (pss_cons (ps_for PassesOwn.never rfl (pi_str pe_str) (pg_name (i := 2) sc_law_told_texts.nd rfl (by first | exact Or.inl rfl | exact Or.inr rfl))
    (pss_one (ps_expr (pe_bm PySem.F.plainAttrs_list PySem.F.slot_list_extend PySem.F.type_list_extend mt_extend (pv 1) (pa_cons (pe_lc (own := [("_law_second", 4)]) (g := gName 4) (by rfl) sc_law_told_texts.nd (pi_str pe_str) (blkOk_by (own := [("_law_second", 4)]) (N := ["_law_texts", "_law_names", "_law_first", "_law_whole", "_law_second", "_law_name"]) (sc := defScope s_law_told_texts) (by decide +kernel)) (fun _ _ _ _ _ => (pg_name (i := 4) sc_law_told_texts.nd rfl (by first | exact Or.inl rfl | exact Or.inr rfl))) (fun _ _ _ _ _ => pts_nil) (fun _ _ _ _ _ => (pe_op op_add_str (pv 2) (pv 4)))) pa_nil)))))
  (pss_cons (ps_set (i := 3) sc_law_told_texts.nd rfl (by first | exact Or.inl rfl | exact Or.inr rfl) (pe_op op_add_str pe_str (pe_join pe_str (pe_lc (own := [("_law_name", 5)]) (g := gName 5) (by rfl) sc_law_told_texts.nd (pi_list (pv 1)) (blkOk_by (own := [("_law_name", 5)]) (N := ["_law_texts", "_law_names", "_law_first", "_law_whole", "_law_second", "_law_name"]) (sc := defScope s_law_told_texts) (by decide +kernel)) (fun _ _ _ _ _ => (pg_name (i := 5) sc_law_told_texts.nd rfl (by first | exact Or.inl rfl | exact Or.inr rfl))) (fun _ _ _ _ _ => pts_nil) (fun _ _ _ _ _ => (pe_joined (.cons pe_str (.cons (pe_fmt (pv 5)) (.cons pe_str .nil)))))))))
  (pss_one (ps_ret (pe_op op_cat (pv 0) (pe_lst (pa_cons (pv 3) (pa_cons (pe_op op_add_str (pv 3) pe_str) (pa_cons (pe_slice sl_str (pv 3) po_none (po_some (pe_un un_neg pe_int))) pa_nil)))))))))))))))), ?_⟩
  refine ⟨(by show 10 ≤ sizeLine; decide), fun l0 n0 => ?_⟩
  have S0 := same_new n0 (.lst [V.str (Str.ofString ""), .str (Str.ofString "\n"), .str (Str.ofString "size 2"), .str (Str.ofString "size 2\n"), .str (Str.ofString "size 02\n"), .str (Str.ofString "size 1\n"), .str (Str.ofString "size 9\n"), .str (Str.ofString "size 8\n"), .str (Str.ofString "size  2\n"), .str (Str.ofString "size 2 \n")])
  have t0 : TxL (upd H l0 (.lst [V.str (Str.ofString ""), .str (Str.ofString "\n"), .str (Str.ofString "size 2"), .str (Str.ofString "size 2\n"), .str (Str.ofString "size 02\n"), .str (Str.ofString "size 1\n"), .str (Str.ofString "size 9\n"), .str (Str.ofString "size 8\n"), .str (Str.ofString "size  2\n"), .str (Str.ofString "size 2 \n")])) l0 10 := ⟨_, upd_same, tx_0, Nat.le_refl _⟩
  generalize upd H l0 (.lst [V.str (Str.ofString ""), .str (Str.ofString "\n"), .str (Str.ofString "size 2"), .str (Str.ofString "size 2\n"), .str (Str.ofString "size 02\n"), .str (Str.ofString "size 1\n"), .str (Str.ofString "size 9\n"), .str (Str.ofString "size 8\n"), .str (Str.ofString "size  2\n"), .str (Str.ofString "size 2 \n")]) = H0 at S0 t0
  obtain ⟨xs0, x0, a0, c0⟩ := t0
  refine ⟨_, rfl, (by show 6 ≤ sizeLine; decide), fun p1 np1 => ?_⟩
  have R1 := same_new np1 (.lst [V.str (Str.ofString "Size 2\n"), .str (Str.ofString "size\n"), .str (Str.ofString "read 1 a\n"), .str (Str.ofString "size 2\nread 1 a"), .str (Str.ofString "size 2\nread 1 a\n"), .str (Str.ofString "size 2\nread 0 a\n")])
  have hp1 : upd H0 p1 (.lst [V.str (Str.ofString "Size 2\n"), .str (Str.ofString "size\n"), .str (Str.ofString "read 1 a\n"), .str (Str.ofString "size 2\nread 1 a"), .str (Str.ofString "size 2\nread 1 a\n"), .str (Str.ofString "size 2\nread 0 a\n")]) p1 = some (.lst [V.str (Str.ofString "Size 2\n"), .str (Str.ofString "size\n"), .str (Str.ofString "read 1 a\n"), .str (Str.ofString "size 2\nread 1 a"), .str (Str.ofString "size 2\nread 1 a\n"), .str (Str.ofString "size 2\nread 0 a\n")]) := upd_same
  generalize upd H0 p1 (.lst [V.str (Str.ofString "Size 2\n"), .str (Str.ofString "size\n"), .str (Str.ofString "read 1 a\n"), .str (Str.ofString "size 2\nread 1 a"), .str (Str.ofString "size 2\nread 1 a\n"), .str (Str.ofString "size 2\nread 0 a\n")]) = G1 at R1 hp1
  refine ⟨l0, p1, _, _, rfl, rfl, R1 _ _ x0, hp1, line100 (by omega) (by show 6 ≤ 100; decide), fun l1 nl1 => ?_⟩
  have S1 := (S0.trans R1).trans (same_new nl1 (.lst (xs0 ++ [V.str (Str.ofString "Size 2\n"), .str (Str.ofString "size\n"), .str (Str.ofString "read 1 a\n"), .str (Str.ofString "size 2\nread 1 a"), .str (Str.ofString "size 2\nread 1 a\n"), .str (Str.ofString "size 2\nread 0 a\n")])))
  have t1 : TxL (upd G1 l1 (.lst (xs0 ++ [V.str (Str.ofString "Size 2\n"), .str (Str.ofString "size\n"), .str (Str.ofString "read 1 a\n"), .str (Str.ofString "size 2\nread 1 a"), .str (Str.ofString "size 2\nread 1 a\n"), .str (Str.ofString "size 2\nread 0 a\n")]))) l1 16 := .catted a0 tx_1 (by show xs0.length + 6 ≤ 16; omega)
  have f1 : H l1 = none := (S0.trans R1).free nl1
  generalize upd G1 l1 (.lst (xs0 ++ [V.str (Str.ofString "Size 2\n"), .str (Str.ofString "size\n"), .str (Str.ofString "read 1 a\n"), .str (Str.ofString "size 2\nread 1 a"), .str (Str.ofString "size 2\nread 1 a\n"), .str (Str.ofString "size 2\nread 0 a\n")])) = H1 at S1 t1
  obtain ⟨xs1, x1, a1, c1⟩ := t1
  refine ⟨_, rfl, (by show 4 ≤ sizeLine; decide), fun p2 np2 => ?_⟩
  have R2 := same_new np2 (.lst [V.str (Str.ofString "size 2\nread 1200 a\n"), .str (Str.ofString "size 2\nread 1201 a\n"), .str (Str.ofString "size 2\nread 01 a\n"), .str (Str.ofString "size 2\nread 1\n")])
  have hp2 : upd H1 p2 (.lst [V.str (Str.ofString "size 2\nread 1200 a\n"), .str (Str.ofString "size 2\nread 1201 a\n"), .str (Str.ofString "size 2\nread 01 a\n"), .str (Str.ofString "size 2\nread 1\n")]) p2 = some (.lst [V.str (Str.ofString "size 2\nread 1200 a\n"), .str (Str.ofString "size 2\nread 1201 a\n"), .str (Str.ofString "size 2\nread 01 a\n"), .str (Str.ofString "size 2\nread 1\n")]) := upd_same
  generalize upd H1 p2 (.lst [V.str (Str.ofString "size 2\nread 1200 a\n"), .str (Str.ofString "size 2\nread 1201 a\n"), .str (Str.ofString "size 2\nread 01 a\n"), .str (Str.ofString "size 2\nread 1\n")]) = G2 at R2 hp2
  refine ⟨l1, p2, _, _, rfl, rfl, R2 _ _ x1, hp2, line100 (by omega) (by show 4 ≤ 100; decide), fun l2 nl2 => ?_⟩
  have S2 := (S1.trans R2).trans (same_new nl2 (.lst (xs1 ++ [V.str (Str.ofString "size 2\nread 1200 a\n"), .str (Str.ofString "size 2\nread 1201 a\n"), .str (Str.ofString "size 2\nread 01 a\n"), .str (Str.ofString "size 2\nread 1\n")])))
  have t2 : TxL (upd G2 l2 (.lst (xs1 ++ [V.str (Str.ofString "size 2\nread 1200 a\n"), .str (Str.ofString "size 2\nread 1201 a\n"), .str (Str.ofString "size 2\nread 01 a\n"), .str (Str.ofString "size 2\nread 1\n")]))) l2 20 := .catted a1 tx_2 (by show xs1.length + 4 ≤ 20; omega)
  have f2 : H l2 = none := (S1.trans R2).free nl2
  generalize upd G2 l2 (.lst (xs1 ++ [V.str (Str.ofString "size 2\nread 1200 a\n"), .str (Str.ofString "size 2\nread 1201 a\n"), .str (Str.ofString "size 2\nread 01 a\n"), .str (Str.ofString "size 2\nread 1\n")])) = H2 at S2 t2
  obtain ⟨xs2, x2, a2, c2⟩ := t2
  refine ⟨_, rfl, (by show 3 ≤ sizeLine; decide), fun p3 np3 => ?_⟩
  have R3 := same_new np3 (.lst [V.str (Str.ofString "size 2\nread 1 -\nread 1 a\n"), .str (Str.ofString "size 2\nread 1 a\nread 1 -\n"), .str (Str.ofString "size 2\nread 1 a\nread 2 a\n")])
  have hp3 : upd H2 p3 (.lst [V.str (Str.ofString "size 2\nread 1 -\nread 1 a\n"), .str (Str.ofString "size 2\nread 1 a\nread 1 -\n"), .str (Str.ofString "size 2\nread 1 a\nread 2 a\n")]) p3 = some (.lst [V.str (Str.ofString "size 2\nread 1 -\nread 1 a\n"), .str (Str.ofString "size 2\nread 1 a\nread 1 -\n"), .str (Str.ofString "size 2\nread 1 a\nread 2 a\n")]) := upd_same
  generalize upd H2 p3 (.lst [V.str (Str.ofString "size 2\nread 1 -\nread 1 a\n"), .str (Str.ofString "size 2\nread 1 a\nread 1 -\n"), .str (Str.ofString "size 2\nread 1 a\nread 2 a\n")]) = G3 at R3 hp3
  refine ⟨l2, p3, _, _, rfl, rfl, R3 _ _ x2, hp3, line100 (by omega) (by show 3 ≤ 100; decide), fun l3 nl3 => ?_⟩
  have S3 := (S2.trans R3).trans (same_new nl3 (.lst (xs2 ++ [V.str (Str.ofString "size 2\nread 1 -\nread 1 a\n"), .str (Str.ofString "size 2\nread 1 a\nread 1 -\n"), .str (Str.ofString "size 2\nread 1 a\nread 2 a\n")])))
  have t3 : TxL (upd G3 l3 (.lst (xs2 ++ [V.str (Str.ofString "size 2\nread 1 -\nread 1 a\n"), .str (Str.ofString "size 2\nread 1 a\nread 1 -\n"), .str (Str.ofString "size 2\nread 1 a\nread 2 a\n")]))) l3 23 := .catted a2 tx_3 (by show xs2.length + 3 ≤ 23; omega)
  have f3 : H l3 = none := (S2.trans R3).free nl3
  generalize upd G3 l3 (.lst (xs2 ++ [V.str (Str.ofString "size 2\nread 1 -\nread 1 a\n"), .str (Str.ofString "size 2\nread 1 a\nread 1 -\n"), .str (Str.ofString "size 2\nread 1 a\nread 2 a\n")])) = H3 at S3 t3
  obtain ⟨xs3, x3, a3, c3⟩ := t3
  refine ⟨_, rfl, (by show 4 ≤ sizeLine; decide), fun p4 np4 => ?_⟩
  have R4 := same_new np4 (.lst [V.str (Str.ofString "size 2\nread 1 b\nread 1 ab\n"), .str (Str.ofString "size 2\nread 1 a b\n"), .str (Str.ofString "size 2\nread 1 A\n"), .str (Str.ofString "size 2\n\n")])
  have hp4 : upd H3 p4 (.lst [V.str (Str.ofString "size 2\nread 1 b\nread 1 ab\n"), .str (Str.ofString "size 2\nread 1 a b\n"), .str (Str.ofString "size 2\nread 1 A\n"), .str (Str.ofString "size 2\n\n")]) p4 = some (.lst [V.str (Str.ofString "size 2\nread 1 b\nread 1 ab\n"), .str (Str.ofString "size 2\nread 1 a b\n"), .str (Str.ofString "size 2\nread 1 A\n"), .str (Str.ofString "size 2\n\n")]) := upd_same
  generalize upd H3 p4 (.lst [V.str (Str.ofString "size 2\nread 1 b\nread 1 ab\n"), .str (Str.ofString "size 2\nread 1 a b\n"), .str (Str.ofString "size 2\nread 1 A\n"), .str (Str.ofString "size 2\n\n")]) = G4 at R4 hp4
  refine ⟨l3, p4, _, _, rfl, rfl, R4 _ _ x3, hp4, line100 (by omega) (by show 4 ≤ 100; decide), fun l4 nl4 => ?_⟩
  have S4 := (S3.trans R4).trans (same_new nl4 (.lst (xs3 ++ [V.str (Str.ofString "size 2\nread 1 b\nread 1 ab\n"), .str (Str.ofString "size 2\nread 1 a b\n"), .str (Str.ofString "size 2\nread 1 A\n"), .str (Str.ofString "size 2\n\n")])))
  have t4 : TxL (upd G4 l4 (.lst (xs3 ++ [V.str (Str.ofString "size 2\nread 1 b\nread 1 ab\n"), .str (Str.ofString "size 2\nread 1 a b\n"), .str (Str.ofString "size 2\nread 1 A\n"), .str (Str.ofString "size 2\n\n")]))) l4 27 := .catted a3 tx_4 (by show xs3.length + 4 ≤ 27; omega)
  have f4 : H l4 = none := (S3.trans R4).free nl4
  generalize upd G4 l4 (.lst (xs3 ++ [V.str (Str.ofString "size 2\nread 1 b\nread 1 ab\n"), .str (Str.ofString "size 2\nread 1 a b\n"), .str (Str.ofString "size 2\nread 1 A\n"), .str (Str.ofString "size 2\n\n")])) = H4 at S4 t4
  refine ⟨_, rfl, [97], 400, of_aT, rfl, by decide, by decide, by decide, _, _, rfl, rfl, line1000 (by rw [len14, len400]; decide), _, _, rfl, rfl, line1000 (by rw [str_app_len, len14, len400, len1]; decide), ?_⟩
  refine ⟨[97], 401, of_aT, rfl, by decide, by decide, by decide, _, _, rfl, rfl, line1000 (by rw [len14, len401]; decide), _, _, rfl, rfl, line1000 (by rw [str_app_len, len14, len401, len1]; decide), ?_⟩
  refine ⟨(by show 3 ≤ sizeLine; decide), fun p5 np5 => ?_⟩
  have R5 := same_new np5 (.lst [V.str (Str.ofString "size 2\nread 1 " ++ Str.mk (List.replicate 400 [97]).flatten.toArray ++ Str.ofString "\n"), V.str (Str.ofString "size 2\nread 1 " ++ Str.mk (List.replicate 401 [97]).flatten.toArray ++ Str.ofString "\n"), V.str (Str.ofString "size 2\nread 1 \n")])
  have hp5 : upd H4 p5 (.lst [V.str (Str.ofString "size 2\nread 1 " ++ Str.mk (List.replicate 400 [97]).flatten.toArray ++ Str.ofString "\n"), V.str (Str.ofString "size 2\nread 1 " ++ Str.mk (List.replicate 401 [97]).flatten.toArray ++ Str.ofString "\n"), V.str (Str.ofString "size 2\nread 1 \n")]) p5 = some (.lst [V.str (Str.ofString "size 2\nread 1 " ++ Str.mk (List.replicate 400 [97]).flatten.toArray ++ Str.ofString "\n"), V.str (Str.ofString "size 2\nread 1 " ++ Str.mk (List.replicate 401 [97]).flatten.toArray ++ Str.ofString "\n"), V.str (Str.ofString "size 2\nread 1 \n")]) := upd_same
  obtain ⟨xs4, x4, a4, c4⟩ := t4
  generalize upd H4 p5 (.lst [V.str (Str.ofString "size 2\nread 1 " ++ Str.mk (List.replicate 400 [97]).flatten.toArray ++ Str.ofString "\n"), V.str (Str.ofString "size 2\nread 1 " ++ Str.mk (List.replicate 401 [97]).flatten.toArray ++ Str.ofString "\n"), V.str (Str.ofString "size 2\nread 1 \n")]) = G5 at R5 hp5
  refine ⟨l4, p5, _, _, rfl, rfl, R5 _ _ x4, hp5, line100 (by omega) (by show 3 ≤ 100; decide), fun l5 nl5 => ?_⟩
  have S5 := (S4.trans R5).trans (same_new nl5 (.lst (xs4 ++ [V.str (Str.ofString "size 2\nread 1 " ++ Str.mk (List.replicate 400 [97]).flatten.toArray ++ Str.ofString "\n"), V.str (Str.ofString "size 2\nread 1 " ++ Str.mk (List.replicate 401 [97]).flatten.toArray ++ Str.ofString "\n"), V.str (Str.ofString "size 2\nread 1 \n")])))
  have t5 : TxL (upd G5 l5 (.lst (xs4 ++ [V.str (Str.ofString "size 2\nread 1 " ++ Str.mk (List.replicate 400 [97]).flatten.toArray ++ Str.ofString "\n"), V.str (Str.ofString "size 2\nread 1 " ++ Str.mk (List.replicate 401 [97]).flatten.toArray ++ Str.ofString "\n"), V.str (Str.ofString "size 2\nread 1 \n")]))) l5 30 := .catted a4 tx_5 (by show xs4.length + 3 ≤ 30; omega)
  generalize upd G5 l5 (.lst (xs4 ++ [V.str (Str.ofString "size 2\nread 1 " ++ Str.mk (List.replicate 400 [97]).flatten.toArray ++ Str.ofString "\n"), V.str (Str.ofString "size 2\nread 1 " ++ Str.mk (List.replicate 401 [97]).flatten.toArray ++ Str.ofString "\n"), V.str (Str.ofString "size 2\nread 1 \n")])) = H5 at S5 t5
  refine ⟨Nat.zero_le _, fun nm nnm => ?_⟩
  have S6 := S5.trans (same_new nnm (.lst []))
  have t6 := t5.same (same_new nnm (.lst []))
  have hnl : l5 ≠ nm := by
    obtain ⟨_, z, _⟩ := t5
    exact ne_of_none z nnm
  have hnmn : H nm = none := S5.free nnm
  have hnm : NmL (upd H5 nm (.lst [])) nm 0 := ⟨[], upd_same, fun y hy => (nomatch hy), rfl⟩
  generalize upd H5 nm (.lst []) = H6 at S6 t6 hnm
  refine ⟨_, rfl, for_it walk_str (fun i σ H' => ∃ v2 : Option V, σ = [some (.ref l5), some (.ref nm), v2, none, none, none] ∧ Same H H' ∧ TxL H' l5 30 ∧ NmL H' nm (6 * i)) ⟨none, rfl, S6, t6, hnm⟩ (fun _ _ _ _ _ => trivial) ?_ ?_⟩
  · rintro i y σ H9 H7 hi ⟨v2, rfl, S7, t7, ys, hy1, hy2, hy3⟩ ⟨rfl, c, hc, rfl⟩
    have hi10 : i < 10 := hi
    refine ⟨_, rfl, .inl ⟨rfl, _, SqL.of hy1⟩, _, rfl, fun D nD => lc_it walk_str (fun j H' => ∃ zs : List Str, H' = upd H7 D (.lst (zs.map V.str)) ∧ (∀ y ∈ zs, y.length ≤ 2) ∧ zs.length = j) ⟨[], rfl, fun y hy => (nomatch hy), rfl⟩ (fun _ _ _ _ => trivial) ?_ ?_⟩
    · rintro j y H8 H9 hj ⟨zs, rfl, z2, z3⟩ ⟨rfl, c', hc', rfl⟩
      have hj6 : j < 6 := hj
      refine ⟨rfl, _, rfl, _, rfl, _, _, rfl, rfl, (by show 2 ≤ sizeLine; decide), ?_⟩
      refine ⟨_, upd_same, by rw [List.length_map]; exact Nat.lt_of_le_of_lt (by omega : zs.length ≤ 6) (by decide), zs ++ [Str.mk #[c] ++ Str.mk #[c']], ?_, ?_, by rw [List.length_append, z3]; rfl⟩
      · rw [upd_upd, List.map_append]
        rfl
      · intro y hy
        rcases List.mem_append.mp hy with h | h
        · exact z2 y h
        · rw [List.mem_singleton.mp h, str_app_len]
          exact Nat.le_refl _
    · rintro H8 ⟨zs, rfl, z2, z3⟩
      have hD : D ≠ nm := (ne_of_none hy1 nD).symm
      have hzl : zs.length = 6 := z3
      refine ⟨nm, D, _, _, rfl, rfl, by rw [upd_ne hD.symm]; exact hy1, upd_same, line100 (by rw [List.length_map]; omega) (by rw [List.length_map]; omega), ?_⟩
      refine ⟨_, rfl, same_upd (S7.trans (same_new nD _)) hnmn, ?_, ys ++ zs, by rw [upd_same, List.map_append], fun y hy => (List.mem_append.mp hy).elim (hy2 y) (z2 y), by rw [List.length_append, hy3, hzl]; omega⟩
      obtain ⟨xs, e1, e2, e3⟩ := t7
      exact ⟨xs, by rw [upd_ne hnl]; exact same_new nD _ _ _ e1, e2, e3⟩
  · rintro σ H7 ⟨v2, rfl, S7, t7, ys, hy1, hy2, hy3⟩
    replace hy3 : ys.length = 60 := hy3
    have e1 : (Str.ofString "read 1 ").length = 7 := by decide +kernel
    have e2 : (Str.ofString "size 3\n").length = 7 := by decide +kernel
    have e3 : (Str.ofString "read 1 zz\n").length = 10 := by decide +kernel
    refine ⟨⟨_, rfl⟩, _, rfl, nm, rfl, ⟨_, SqL.of hy1⟩, fun D nD => lc_list (te := fun σ H Q => tJs [tC (V.str (Str.ofString "read 1 ")), tFmt (tVar 5), tC (V.str (Str.ofString "\n"))] Str.empty σ H fun out H1 => Q (V.str out) H1) (K := K) (a := nm) (xs := ys.map V.str) (fun j H' => ∃ zs : List Str, H' = upd H7 D (.lst (zs.map V.str)) ∧ (∀ y ∈ zs, y.length ≤ 10) ∧ zs.length = j) ⟨[], rfl, fun y hy => (nomatch hy), rfl⟩ ?_ ?_ ?_⟩
    · rintro j H' hj ⟨zs, rfl, _, _⟩
      exact SqL.of (same_new nD _ _ _ hy1)
    · rintro j v H8 hv ⟨zs, rfl, z2, z3⟩
      obtain ⟨y, hy, rfl⟩ := str_at hv
      have hyl := hy2 y (List.mem_of_getElem? hy)
      have hj := (List.getElem?_eq_some_iff.mp hy).1
      refine ⟨rfl, _, rfl, line600 (by rw [empty_app]; omega), _, rfl, .inl ⟨_, rfl, line600 (by omega), ?_⟩⟩
      refine ⟨_, rfl, line600 (by rw [empty_app, str_app_len]; omega), ?_⟩
      refine ⟨_, rfl, line600 (by rw [empty_app, str_app_len, str_app_len, len1]; omega), ?_⟩
      refine ⟨_, upd_same, by rw [List.length_map]; exact Nat.lt_of_le_of_lt (by omega : zs.length ≤ 60) (by decide), zs ++ [Str.empty ++ Str.ofString "read 1 " ++ y ++ Str.ofString "\n"], ?_, ?_, by rw [List.length_append, z3]; rfl⟩
      · rw [upd_upd, List.map_append]
        rfl
      · intro y' hy'
        rcases List.mem_append.mp hy' with h | h
        · exact z2 y' h
        · rw [List.mem_singleton.mp h, empty_app, str_app_len, str_app_len, len1]
          omega
    · rintro H8 ⟨zs, rfl, z2, z3⟩
      rw [List.length_map, hy3] at z3
      have hzl : ∀ L : List Str, (∀ y ∈ L, y.length ≤ 10) → (L.map (·.length)).sum ≤ L.length * 10 := by
        intro L
        induction L with
        | nil => intro _; exact Nat.le_refl _
        | cons y r ih =>
          intro h
          have a := h y (by simp)
          have b := ih fun f hf => h f (by simp [hf])
          rw [List.map_cons, List.sum_cons, List.length_cons]
          omega
      have hz := hzl zs z2
      refine ⟨_, D, zs, rfl, rfl, .inl (SqL.of upd_same), ?_, ?_⟩
      · have e0 : (Str.ofString "").length = 0 := by decide +kernel
        rw [e0]
        omega
      have hjl : (Txt.join (Str.ofString "") zs).length ≤ 600 := by rw [join0_len]; omega
      have S8 := S7.trans (same_new nD (.lst (zs.map V.str)))
      have t8 := t7.same (same_new nD (.lst (zs.map V.str)))
      generalize upd H7 D (.lst (zs.map V.str)) = H8 at S8 t8
      obtain ⟨xs5, x5, a5, c5⟩ := t8
      have hW : (Str.ofString "size 3\n" ++ Txt.join (Str.ofString "") zs).length ≤ 607 := by rw [str_app_len]; omega
      refine ⟨_, _, rfl, rfl, line1000 (by omega), ?_⟩
      generalize Str.ofString "size 3\n" ++ Txt.join (Str.ofString "") zs = W at hW
      have hc := cutS_len W none (some (-1))
      refine ⟨_, rfl, _, rfl, _, rfl, _, _, rfl, rfl, line1000 (by omega), ?_⟩
      refine ⟨_, rfl, _, rfl, _, rfl, _, rfl, line1000 (by omega), (by show 3 ≤ sizeLine; decide), fun p9 np9 => ?_⟩
      have R9 := same_new np9 (.lst [V.str W, .str (W ++ Str.ofString "read 1 zz\n"), .str (cutS W none (some (-1)))])
      refine ⟨l5, p9, _, _, rfl, rfl, R9 _ _ x5, upd_same, line100 (by omega) (by show 3 ≤ 100; decide), fun l9 nl9 => ?_⟩
      refine q _ l9 ((S8.trans R9).trans (same_new nl9 _)) ((S8.trans R9).free nl9) (.catted a5 ?_ (by show xs5.length + 3 ≤ 100; omega))
      intro v hv
      simp only [List.mem_cons, List.not_mem_nil, or_false] at hv
      rcases hv with rfl | rfl | rfl
      · exact ⟨_, rfl, by omega⟩
      · exact ⟨_, rfl, by rw [str_app_len]; omega⟩
      · exact ⟨_, rfl, by omega⟩
end
end My
/-! xs[lo::k] of a list, k a whole number told in the program, not 0 -/
namespace My
open PySem PySem.Spec PyProof.Rows L2
def placesOf (n : Nat) (lo hi st : Option Int) : List Nat := sliceRange (sliceBounds lo hi st n).1 (sliceBounds lo hi st n).2.1 (sliceBounds lo hi st n).2.2
/-- the items that stand at a slice's places -/
def pickV (xs : List V) (lo hi st : Option Int) : List V := (placesOf xs.length lo hi st).filterMap (xs[·]?)
theorem pickV_mem {xs : List V} {lo hi st : Option Int} {v : V} (h : v ∈ pickV xs lo hi st) : v ∈ xs := by
  obtain ⟨i, _, e⟩ := List.mem_filterMap.mp h
  exact List.mem_of_getElem? e
theorem vals_pick {xs : List V} {us : List Value} (r : Vals xs us) : ∀ I : List Nat, Vals (I.filterMap (xs[·]?)) (I.filterMap (us[·]?))
  | [] => .nil
  | i :: I => by
    have ih := vals_pick r I
    rw [List.filterMap_cons, List.filterMap_cons]
    cases e : xs[i]? with
    | none =>
      have e2 : us[i]? = none := by
        rw [List.getElem?_eq_none_iff] at e ⊢
        rw [← r.length]
        exact e
      rw [e2]
      exact ih
    | some x =>
      obtain ⟨u, e2, ru⟩ := r.get e
      rw [e2]
      exact .cons ru ih
def tStepL (K : PySem.W.Frag) (k : Int) (te : TE) (tl : TO) : TE := fun σ H Q => te σ H fun x H1 => tl σ H1 fun lo H2 =>
  ∃ a xs, x = .ref a ∧ SqL K H2 a xs ∧ ∀ p, H2 p = none → (pickV xs lo none (some k)).length ≤ xs.length → Q (.ref p) (upd H2 p (.lst (pickV xs lo none (some k))))
theorem pe_stepL {X : Cx} {e est : Expr} {lo : Option Expr} {te : TE} {tl : TO} {k : Int} {p3 pos : Pos} (hk : k ≠ 0) (he : PE X e te) (hl : PO X lo tl) (hs : PO X (some est) (tPart (tC (.int k)))) : PE X (.Subscript e (.Slice lo none (some est) p3) pos) (tStepL X.K k te tl) := by
  refine ⟨fun pins s σ H Q I h => ?_⟩
  refine Subscript_ (thn (he.run pins s σ H _ I h) fun v s1 ⟨x, H1, I1, r1, q1⟩ => ?_)
  refine wpAny_Slice (thn (hl.run pins s1 σ H1 _ I1 q1) fun vl s2 ⟨l, H2, I2, pl, q2⟩ => ?_)
  obtain ⟨a, xs, ex, hx, q⟩ := q2
  subst ex
  cases r1
  refine thn (po_none.run pins s2 σ H2 (fun o H3 => o = none ∧ H3 = H2) I2 ⟨rfl, rfl⟩) fun vu s3 ⟨u, H3, I3, pu, eu, e3⟩ => ?_
  subst eu e3
  refine thn (hs.run pins s3 σ H3 (fun o H4 => o = some k ∧ H4 = H3) I3 ⟨k, rfl, rfl, rfl⟩) fun vs s4 ⟨o, H4, I4, ps, eo, e4⟩ => ?_
  subst eo e4
  have I5 : Inv X pins σ H4 { s4 with heap := s4.heap.push { cls := .type "slice", data := .fields #[vl, vu, vs] } } := I4.kept (t' := s4.toks) fun b ob g => Heap.get?_push_of_some _ g
  obtain ⟨its, r, ht, hz⟩ := I5.list hx
  have hlen := r.length
  have hple := slicePick_size_le its.toArray l none (some k)
  show wpAny (model X.prog X.w) X.A (subscriptTail e (.Slice lo none (some est) p3) (.ref a) (.ref s4.heap.objs.size)) (EP X pins σ Q) X.xe { s4 with heap := s4.heap.push { cls := .type "slice", data := .fields #[vl, vu, vs] } }
  refine tail_any (ops := [.ref a, .ref s4.heap.objs.size]) ht.isList.typeIs (PySem.slot_list_getitem.lookup) ?_ (by with_unfolding_all rfl)
  refine wpAny_getItem_list_slice ht.isList (Heap.IsSliceOf.new _ vl vu vs) pl pu ps (fun z => hk (Option.some.inj z)) ?_ (by rw [List.size_toArray]; omega)
  have rp : Vals (pickV xs l none (some k)) (slicePick its.toArray l none (some k)).toList := by
    have h0 := vals_pick r (placesOf xs.length l none (some k))
    have e1 : (slicePick its.toArray l none (some k)).toList = (placesOf xs.length l none (some k)).filterMap (its[·]?) := by
      unfold slicePick placesOf
      rw [List.size_toArray, ← hlen]
      have e2 : (fun i : Nat => its.toArray[i]?) = fun i : Nat => its[i]? := funext fun i => by rw [List.getElem?_toArray]
      rw [e2]
    rw [e1]
    exact h0
  have hl2 : (pickV xs l none (some k)).length ≤ xs.length := by
    have h3 : (slicePick its.toArray l none (some k)).toList.length = (slicePick its.toArray l none (some k)).size := Array.length_toList
    have h4 : its.toArray.size = its.length := List.size_toArray
    rw [rp.length]
    omega
  refine ⟨.ref _, _, I5.laid (t' := s4.toks) (o := .lst (pickV xs l none (some k))) (fun b ob g => Heap.get?_push_of_some _ g) (Nat.le_refl _) ?_, rfl, q _ (I5.hok.fresh (Nat.le_refl _)) hl2⟩
  exact ⟨Nat.le_trans hl2 hz, _, 0, rp, Heap.get?_push_size _ rfl⟩
end My
set_option maxHeartbeats 4000000
namespace My
open PySem L2 PyProof.Rows
theorem RdS.unique {H : Hp} {l : Addr} {L M : List (Str × Int)} (h : RdS H l L) (k : RdS H l M) : L = M := by
  obtain ⟨ts, h1, h2⟩ := h
  obtain ⟨us, k1, k2⟩ := k
  have inj : ∀ {a b : List Addr}, a.map V.ref = b.map V.ref → a = b := fun {a b} e => List.map_inj_right (fun _ _ z => V.ref.inj z) |>.mp e
  have e : ts = us := by
    rcases h1 with h1 | h1 <;> rcases k1 with k1 | k1 <;> rw [h1] at k1
    · exact inj (HO.lst.inj (Option.some.inj k1))
    · cases k1
    · cases k1
    · exact inj (HO.tup.inj (Option.some.inj k1))
  subst e
  clear h1 k1
  induction h2 generalizing M with
  | nil => cases k2; rfl
  | cons a r ih =>
    cases k2 with
    | cons b t =>
      refine congr (congrArg List.cons ?_) (ih t)
      have a : H _ = some (.tup [.str _, .int _]) := a
      have b : H _ = some (.tup [.str _, .int _]) := b
      rw [a] at b
      have := HO.tup.inj (Option.some.inj b)
      injection this with z1 z2
      injection z2 with z2 _
      exact Prod.ext (V.str.inj z1) (V.int.inj z2)
theorem nx0 {H : Hp} {x dx : Addr} {o : HO} (ndx : H dx = none) (nx : upd H dx o x = none) : H x = none := by
  cases e : H x with
  | none => rfl
  | some u => rw [upd_ne (ne_of_none e ndx), e] at nx; cases nx
theorem lineS_short {e : Str × Int} (h : EntOk e) (k : e.1.length ≤ 5) : (lineS e).length ≤ 16 := by
  unfold lineS
  rw [str_app_len, str_app_len, str_app_len, str_app_len]
  have := h.lo
  have := h.hi
  have := numS_len (n := e.2) (by omega) (by omega)
  have hw : (wordS e.1).length ≤ 5 := by
    unfold wordS
    split
    · decide +kernel
    · exact k
  have e1 : (Str.ofString "read ").length = 5 := by decide +kernel
  have e2 : (sNl : Str).length = 1 := by decide +kernel
  have e3 : (sSp : Str).length = 1 := by decide +kernel
  omega
theorem text_short {s : Nat} {M : List (Str × Int)} (hs : s ≤ 8) (h : ∀ e ∈ M, EntOk e) (k : ∀ e ∈ M, e.1.length ≤ 5) (hm : M.length ≤ 4) : (textOf s M).length ≤ 100 := by
  unfold textOf
  rw [join0_len, List.map_cons, List.sum_cons]
  have h1 := headS_len hs
  have h2 : ∀ L : List (Str × Int), (∀ e ∈ L, EntOk e ∧ e.1.length ≤ 5) → ((L.map lineS).map (·.length)).sum ≤ L.length * 16 := by
    intro L
    induction L with
    | nil => intro _; exact Nat.le_refl _
    | cons e r ih =>
      intro h
      have a := lineS_short (h e (by simp)).1 (h e (by simp)).2
      have b := ih fun f hf => h f (by simp [hf])
      rw [List.map_cons, List.map_cons, List.sum_cons, List.length_cons]
      omega
  have := h2 M fun e he => ⟨h e he, k e he⟩
  omega
theorem text_long {s : Nat} {M : List (Str × Int)} : 0 < (textOf s M).length := by
  unfold textOf
  rw [join0_len, List.map_cons, List.sum_cons]
  have : 1 ≤ (headS s).length := by
    unfold headS
    rw [str_app_len]
    have e2 : (sNl : Str).length = 1 := by decide +kernel
    omega
  omega
abbrev rdD (L : List (Str × Int)) : PyData := .list (L.map fun e => .tuple [.str e.1, .int e.2])
theorem vd_rdAll {H : Hp} : ∀ {ts : List Addr} {L : List (Str × Int)}, Paired (SIAt H) ts L → (∀ e ∈ L, e.1.length ≤ 1000) → VdAll H (ts.map V.ref) (L.map fun e => .tuple [.str e.1, .int e.2])
  | _, _, .nil, _ => .nil
  | _, _, .cons h t, k => .cons (.tup h (.cons (.str _ (k _ List.mem_cons_self)) (.cons (.int _) .nil))) (vd_rdAll t fun e he => k e (List.mem_cons_of_mem _ he))
theorem vd_rd {H : Hp} {l : Addr} {L : List (Str × Int)} (h : RdAt H l L) (k : ∀ e ∈ L, e.1.length ≤ 1000) : Vd H (.ref l) (rdD L) := by
  obtain ⟨ts, h1, h2⟩ := h
  exact .lst h1 (vd_rdAll h2 k)
theorem tx_of {x : Str} (h : OkL x) : txB x = true := by
  unfold txB
  rw [Bool.and_eq_true, List.all_eq_true]
  refine ⟨decide_eq_true h.ok.len, fun c hc => ?_⟩
  have := h.ok.let_ c hc
  unfold isA
  rw [decide_eq_true this.1, decide_eq_true this.2]
  rfl
theorem areR_of {L : List (Str × Int)} (hl : L.length ≤ 60) (h : ∀ e ∈ L, OkL e.1 ∧ e.1.length ≤ 5 ∧ 1 ≤ e.2 ∧ e.2 ≤ 20) : areR (rdD L) = true := by
  show (decide ((L.map _).length ≤ 60) && (L.map _).all isOne) = true
  rw [List.length_map, decide_eq_true hl, Bool.true_and, List.all_map, List.all_eq_true]
  intro e he
  obtain ⟨h1, h2, h3, h4⟩ := h e he
  show (isTx (.str e.1) && isTm (.int e.2)) = true
  rw [show isTx (.str e.1) = true from tx_of h1, Bool.true_and]
  show (decide (1 ≤ e.2) && decide (e.2 ≤ 20)) = true
  rw [decide_eq_true h3, decide_eq_true h4]
  rfl
theorem addT_in {x : Str} {n : Int} : ∀ {D : List (Str × Int)} {e : Str × Int}, e ∈ addT D x n → e ∈ D ∨ (e.1 = x ∧ (e.2 = n ∨ ∃ f ∈ D, e.2 = f.2 + n))
  | [], e, h => by
    rw [List.mem_singleton.mp (show e ∈ [(x, n)] from h)]
    exact .inr ⟨rfl, .inl rfl⟩
  | f :: r, e, h => by
    unfold addT at h
    split at h
    · rename_i c
      rcases List.mem_cons.mp h with z | z
      · rw [z]
        exact .inr ⟨c, .inr ⟨f, List.mem_cons_self, rfl⟩⟩
      · exact .inl (List.mem_cons_of_mem _ z)
    · rcases List.mem_cons.mp h with z | z
      · rw [z]
        exact .inl List.mem_cons_self
      · rcases addT_in z with y | ⟨y1, y2 | ⟨g, y3, y4⟩⟩
        · exact .inl (List.mem_cons_of_mem _ y)
        · exact .inr ⟨y1, .inl y2⟩
        · exact .inr ⟨y1, .inr ⟨g, List.mem_cons_of_mem _ y3, y4⟩⟩
theorem sumT_in {Pr : Str → Prop} : ∀ {L D : List (Str × Int)} {b : Int}, 0 ≤ b → (∀ e ∈ D, Pr e.1 ∧ 1 ≤ e.2 ∧ e.2 ≤ b) → (∀ e ∈ L, Pr e.1 ∧ 1 ≤ e.2 ∧ e.2 ≤ 20) → ∀ e ∈ sumT D L, Pr e.1 ∧ 1 ≤ e.2 ∧ e.2 ≤ b + 20 * (L.length : Int)
  | [], D, b, hb, hD, _, e, he => by
    obtain ⟨h1, h2, h3⟩ := hD e he
    exact ⟨h1, h2, by simpa using h3⟩
  | f :: r, D, b, hb, hD, hL, e, he => by
    obtain ⟨f1, f2, f3⟩ := hL f List.mem_cons_self
    have := sumT_in (b := b + 20) (by omega) (D := addT D f.1 f.2) (fun g hg => by
      rcases addT_in hg with z | ⟨z1, z2 | ⟨y, z2, z3⟩⟩
      · obtain ⟨h1, h2, h3⟩ := hD g z
        exact ⟨h1, h2, by omega⟩
      · exact ⟨by rw [z1]; exact f1, by omega, by omega⟩
      · obtain ⟨h1, h2, h3⟩ := hD y z2
        exact ⟨by rw [z1]; exact f1, by omega, by omega⟩) (fun g hg => hL g (List.mem_cons_of_mem _ hg)) e he
    refine ⟨this.1, this.2.1, ?_⟩
    have h3 := this.2.2
    rw [List.length_cons]
    omega
section
variable {P : Program} {w : World} {K : PySem.W.Frag} {mg : Str → Option Value} {base : Heap} {C CE CP : Addr}
def splaw (K : PySem.W.Frag) (_ _ : Addr) : Sp := fun vs H Q _ => ∃ a, ∃ ns : List Int, vs = [.ref a] ∧ SqL K H a (ns.map V.int) ∧ ns.length ≤ 63 ∧ ∀ H', Q (.bl true) H'
theorem oklaw (D : Def K mg "law" slaw ["_law_script"]) (B : Bs mg) (Glb : Glo mg) (WK : WebK K mg C) (EXBadText : ExcF P w K mg base "line" "BadText" CE) (EXe : PySem.W.exmOne K (.ref CE) (.ref CE) = some true) (kL : PySem.W.kitOne K (.ref C) (.type "list") = some false) (PX : PErr K mg CE CP)
    (h_law_pot : Good P w K mg base "_law_pot" s_law_pot ["_law_script", "_law_k"] 1 (sp_law_pot K C CE))
    (h_law_readings : Good P w K mg base "_law_readings" s_law_readings ["_law_pot_here", "_law_many"] 4 (sp_law_readings K C CE))
    (h_law_told : Good P w K mg base "_law_told" s_law_told ["_law_size", "_law_told_here"] 2 (sp_law_told K C CE))
    (h_law_bent : Good P w K mg base "_law_bent" s_law_bent ["_law_pot_here", "_law_text_here"] 3 (sp_law_bent K C CE))
    (h_law_heard : Good P w K mg base "_law_heard" s_law_heard ["_law_text_here"] 9 (sp_law_heard K C CE))
    (h_law_draw : Good P w K mg base "_law_draw" s_law_draw ["_law_pot_here", "_law_size"] 1 (sp_law_draw K C CE))
    (h_law_times : Good P w K mg base "_law_times" s_law_times ["_law_readings_here"] 1 (sp_law_times K C CE))
    (hlot_text : Good P w K mg base "lot_text" slot_text ["lot"] 4 (splot_text K C CE))
    (hlot_of : GoodX P w K mg base "lot_of" slot_of ["text"] 8 (splot_of K C CE))
    (h_law_text_right : Good P w K mg base "_law_text_right" s_law_text_right ["_law_text_here"] 10 (sp_law_text_right K C CE))
    (h_law_told_texts : Good P w K mg base "_law_told_texts" s_law_told_texts [] 1 (sp_law_told_texts K C CE))
    (hLot___eq__ : GoodM P w K mg base C "__eq__" "Lot.__eq__" sLot___eq__ ["self", "other"] 1 (spLot___eq__ K C CE))
    (hLot___init__ : GoodJ P w K mg base C "__init__" "Lot.__init__" sLot___init__ ["self", "size", "readings"] 5 (spLot___init__ K C CE)) :
    Good P w K mg base "law" slaw ["_law_script"] 11 (splaw K C CE) := by
  refine D.good fun f fd F => ?_
  obtain ⟨f_law_pot, d_law_pot, O_law_pot, m_law_pot, k_law_pot, b_law_pot, F_law_pot⟩ := h_law_pot
  obtain ⟨f_law_readings, d_law_readings, O_law_readings, m_law_readings, k_law_readings, b_law_readings, F_law_readings⟩ := h_law_readings
  obtain ⟨f_law_told, d_law_told, O_law_told, m_law_told, k_law_told, b_law_told, F_law_told⟩ := h_law_told
  obtain ⟨f_law_bent, d_law_bent, O_law_bent, m_law_bent, k_law_bent, b_law_bent, F_law_bent⟩ := h_law_bent
  obtain ⟨f_law_heard, d_law_heard, O_law_heard, m_law_heard, k_law_heard, b_law_heard, F_law_heard⟩ := h_law_heard
  obtain ⟨f_law_draw, d_law_draw, O_law_draw, m_law_draw, k_law_draw, b_law_draw, F_law_draw⟩ := h_law_draw
  obtain ⟨f_law_times, d_law_times, O_law_times, m_law_times, k_law_times, b_law_times, F_law_times⟩ := h_law_times
  obtain ⟨flot_text, dlot_text, Olot_text, mlot_text, klot_text, blot_text, Flot_text⟩ := hlot_text
  obtain ⟨flot_of, dlot_of, Olot_of, mlot_of, klot_of, blot_of, Flot_of⟩ := hlot_of
  obtain ⟨f_law_text_right, d_law_text_right, O_law_text_right, m_law_text_right, k_law_text_right, b_law_text_right, F_law_text_right⟩ := h_law_text_right
  obtain ⟨f_law_told_texts, d_law_told_texts, O_law_told_texts, m_law_told_texts, k_law_told_texts, b_law_told_texts, F_law_told_texts⟩ := h_law_told_texts
  obtain ⟨fLot___eq__, dLot___eq__, OLot___eq__, tLot___eq__, bLot___eq__, FLot___eq__⟩ := hLot___eq__
  obtain ⟨fLot___init__, dLot___init__, OLot___init__, MK, bLot___init__, FLot___init__⟩ := hLot___init__
  have kb_lot_text_lot : KBinds K dlot_text ["lot"] ["lot"] g1 g1 := fun_kbinds Flot_text g1 g1 rel1 (fun _ _ _ _ _ _ us ws hl => by
    obtain ⟨rfl, a0, rfl⟩ := g1_inv hl
    rfl)
  refine F.ok sclaw (fun vs H Q E h => ?_) (fun cdv A outer s H vs Q E hr h => ?_)
  · obtain ⟨sa, ns, rfl, hs, h63, q'⟩ := h
    first | rfl | (rcases h with ⟨_, _, rfl, _⟩ | ⟨_, rfl, _⟩ <;> rfl)
  obtain ⟨sa, ns, rfl, hs, h63, q'⟩ := h
  refine ⟨_, (pss_cons (ps_for PassesOwn.never rfl (pi_list (pe_lst (pa_cons pe_non (pa_cons pe_int (pa_cons pe_bl (pa_cons (pe_lst pa_nil) (pa_cons (pe_tup (pa_cons pe_str pa_nil)) (pa_cons pe_dnewK pa_nil)))))))) (pg_name (i := 1) sclaw.nd rfl (by first | exact Or.inl rfl | exact Or.inr rfl))
    (pss_one (ps_if (pt_cmpR (op_neD hr.units) (pe_call O_law_heard (hr.mono (by decide)) rfl m_law_heard k_law_heard b_law_heard .nil pass0 (pa_cons (pv 1) pa_nil)) (pe_lst (pa_cons pe_str (pa_cons pe_non (pa_cons pe_bl pa_nil)))) (nomark _))
    (pss_one (ps_ret pe_bl)) pss_nil)))
  (pss_cons (ps_set (i := 2) sclaw.nd rfl (by first | exact Or.inl rfl | exact Or.inr rfl) (pe_call O_law_pot (hr.mono (by decide)) rfl m_law_pot k_law_pot b_law_pot .nil pass0 (pa_cons (pv 0) (pa_cons pe_int pa_nil))))
  (pss_cons (ps_par (i := 3) (j := 4) (by rfl) sclaw.nd rfl rfl (by decide) rfl rfl (pa_cons (pe_call O_law_readings (hr.mono (by decide)) rfl m_law_readings k_law_readings b_law_readings .nil pass0 (pa_cons (pv 2) (pa_cons (pe_call O_law_draw (hr.mono (by decide)) rfl m_law_draw k_law_draw b_law_draw .nil pass0 (pa_cons (pv 2) (pa_cons pe_int pa_nil))) pa_nil))) (pa_cons (pe_op op_add pe_int (pe_call O_law_draw (hr.mono (by decide)) rfl m_law_draw k_law_draw b_law_draw .nil pass0 (pa_cons (pv 2) (pa_cons pe_int pa_nil)))) pa_nil)) (by rfl))
  (pss_cons (ps_par (i := 5) (j := 6) (by rfl) sclaw.nd rfl rfl (by decide) rfl rfl (pa_cons (pe_make MK OLot___init__ (hr.mono (by decide)) rfl WK.mgC bLot___init__ .nil pass0 (pa_cons (pv 4) (pa_cons (pv 3) pa_nil))) (pa_cons (pe_call O_law_told (hr.mono (by decide)) rfl m_law_told k_law_told b_law_told .nil pass0 (pa_cons (pv 4) (pa_cons (pe_call O_law_times (hr.mono (by decide)) rfl m_law_times k_law_times b_law_times .nil pass0 (pa_cons (pv 3) pa_nil)) pa_nil))) pa_nil)) (by rfl))
  (pss_cons (ps_if (PW.pt (pw_or (pt_cmpR op_ne (pe_callKK Olot_text (hr.mono (by decide)) (by rfl) mlot_text klot_text kb_lot_text_lot pass0 (pk_cons (pv 5) pk_nil)) (pv 6) (nomark _)) (pw_or1 (pt_cmpR (op_neOwn OLot___eq__ (hr.mono (by decide)) WK.i4 WK.ne tLot___eq__.at_ tLot___eq__.fn bLot___eq__ pass0) (pe_callS Olot_of (hr.mono (by decide)) rfl mlot_of klot_of blot_of (fun σ => passAt takes0 σ) (pa_cons (pv 6) pa_nil)) (pv 5) (nomark _)))))
    (pss_one (ps_ret pe_bl)) pss_nil)
  (pss_cons (ps_for PassesOwn.never rfl (pi_range1 (by rfl) B.range (pa_cons pe_int pa_nil)) (pg_name (i := 7) sclaw.nd rfl (by first | exact Or.inl rfl | exact Or.inr rfl))
    (pss_cons (ps_set (i := 8) sclaw.nd rfl (by first | exact Or.inl rfl | exact Or.inr rfl) (pe_call O_law_bent (hr.mono (by decide)) rfl m_law_bent k_law_bent b_law_bent .nil pass0 (pa_cons (pv 2) (pa_cons (pv 6) pa_nil))))
  (pss_one (ps_if (PW.pt (pw_or (pt_not (pt_val (pe_call O_law_text_right hr rfl m_law_text_right k_law_text_right b_law_text_right .nil pass0 (pa_cons (pv 8) pa_nil)))) (pw_or1 (pt_not (pt_val (pe_call O_law_text_right hr rfl m_law_text_right k_law_text_right b_law_text_right .nil pass0 (pa_cons (pe_call O_law_bent (hr.mono (by decide)) rfl m_law_bent k_law_bent b_law_bent .nil pass0 (pa_cons (pv 2) (pa_cons (pe_op op_add_str (pv 8) pe_str) pa_nil))) pa_nil)))))))
    (pss_one (ps_ret pe_bl)) pss_nil))))
  (pss_one (ps_ret (pe_cmpR (op_eqD hr.units) (pe_lc (own := [("_law_told_here", 9)]) (g := gName 9) (by rfl) sclaw.nd (pi_list (pe_stepL (k := 2) (by decide) (pe_call0 O_law_told_texts (hr.mono (by decide)) rfl m_law_told_texts k_law_told_texts b_law_told_texts .nil pass0) (po_some (pe_call O_law_draw (hr.mono (by decide)) rfl m_law_draw k_law_draw b_law_draw .nil pass0 (pa_cons (pv 2) (pa_cons pe_int pa_nil)))) (po_some pe_int))) (blkOk_by (own := [("_law_told_here", 9)]) (N := ["_law_script", "_law_value", "_law_pot_here", "_law_readings_here", "_law_size", "_law_lot", "_law_text_here", "_law_turn", "_law_bent_here", "_law_told_here"]) (sc := defScope slaw) (by decide +kernel)) (fun _ _ _ _ _ => (pg_name (i := 9) sclaw.nd rfl (by first | exact Or.inl rfl | exact Or.inr rfl))) (fun _ _ _ _ _ => (pts_one (pt_not (pt_val (pe_call O_law_text_right hr rfl m_law_text_right k_law_text_right b_law_text_right .nil pass0 (pa_cons (pv 9) pa_nil)))))) (fun _ _ _ _ _ => pe_int)) (pe_lst pa_nil) (nomark _)))))))))), ?_⟩
  refine ⟨Nat.zero_le _, fun l0 nl0 => ?_⟩
  have S0 := same_new nl0 (.lst [])
  have h0 : upd H l0 (.lst []) l0 = some (.lst []) := upd_same
  generalize upd H l0 (.lst []) = H0 at S0 h0
  refine ⟨(by show 1 ≤ sizeLine; decide), fun t0 nt0 => ?_⟩
  have R1 := same_new nt0 (.tup [V.str (Str.ofString "size 2\n")])
  have h1 : upd H0 t0 (.tup [V.str (Str.ofString "size 2\n")]) t0 = some (.tup [V.str (Str.ofString "size 2\n")]) := upd_same
  generalize upd H0 t0 (.tup [V.str (Str.ofString "size 2\n")]) = H1 at R1 h1
  refine fun d0 nd0 => ?_
  have R2 := same_new nd0 (.dK [])
  have h2 : upd H1 d0 (.dK []) d0 = some (.dK []) := upd_same
  generalize upd H1 d0 (.dK []) = H2 at R2 h2
  refine ⟨(by show 6 ≤ sizeLine; decide), fun lv nlv => ?_⟩
  have R3 := same_new nlv (.lst [V.non, .int 5, .bl true, .ref l0, .ref t0, .ref d0])
  have h3 : upd H2 lv (.lst [V.non, .int 5, .bl true, .ref l0, .ref t0, .ref d0]) lv = some (.lst [V.non, .int 5, .bl true, .ref l0, .ref t0, .ref d0]) := upd_same
  generalize upd H2 lv (.lst [V.non, .int 5, .bl true, .ref l0, .ref t0, .ref d0]) = H3 at R3 h3
  have S3 := ((S0.trans R1).trans R2).trans R3
  have hodd : ∀ v ∈ [V.non, .int 5, .bl true, .ref l0, .ref t0, .ref d0], ∃ d, Vd H3 v d ∧ isS d = false := by
    intro v hv
    simp only [List.mem_cons, List.not_mem_nil, or_false] at hv
    rcases hv with rfl | rfl | rfl | rfl | rfl | rfl
    · exact ⟨_, .non, rfl⟩
    · exact ⟨_, .int 5, rfl⟩
    · exact ⟨_, .bl true, rfl⟩
    · exact ⟨_, .lst (R3 _ _ (R2 _ _ (R1 _ _ h0))) .nil, rfl⟩
    · exact ⟨_, .tup (R3 _ _ (R2 _ _ h1)) (.cons (.str _ (by decide +kernel)) .nil), rfl⟩
    · exact ⟨_, .emp (R3 _ _ h2), rfl⟩
  refine ⟨lv, rfl, ⟨_, SqL.of h3⟩, for_list (K := K) (a := lv) (xs := [V.non, .int 5, .bl true, .ref l0, .ref t0, .ref d0]) (fun i σ H' => ∃ v1 : Option V, σ = [some (.ref sa), v1, none, none, none, none, none, none, none, none] ∧ Same H3 H') ⟨none, rfl, fun b u e => e⟩ (fun i σ H' _ ⟨_, _, S'⟩ => SqL.of (S' _ _ h3)) ?_ ?_⟩
  · rintro i v σ H4 hv ⟨v1, rfl, S4⟩
    obtain ⟨d, hd, hsd⟩ := hodd v (List.mem_of_getElem? hv)
    refine ⟨_, rfl, v, d, rfl, hd.same S4, fun _ H5 l5 S5 nl5 hl5 => ?_, fun x hx => ?_⟩
    · refine ⟨(by show 3 ≤ sizeLine; decide), fun l6 nl6 => ?_⟩
      refine ⟨badD .none, badD .none, dp_bad (same_new nl6 _ _ _ hl5) .non, dp_bad upd_same .non, shaped_badN, shaped_badN, ?_⟩
      rw [SeqAt.eqv_refl _ (SeqAt.canLay_of_shaped shaped_badN)]
      exact ⟨_, rfl, iteF ⟨_, rfl, (S4.trans S5).trans (same_new nl6 _)⟩⟩
    · subst hx
      cases hd
      cases hsd
  rintro σ H4 ⟨v1, rfl, S4⟩
  have hs4 : SqL K H4 sa (ns.map V.int) := hs.ext (S3.trans S4)
  refine ⟨_, rfl, sa, ns, rfl, hs4, fun a H5 hp5 S5 na => ?_⟩
  refine ⟨_, rfl, _, rfl, a, 5, rfl, hp5, by decide, by decide, fun m H6 hm k6 p6 => ?_⟩
  refine ⟨a, m, rfl, p6, by omega, fun l L H7 hL hok k7 p7 nl hR => ?_⟩
  refine ⟨_, rfl, a, 7, rfl, p7, by decide, by decide, fun s7 H8 hs7 k8 p8 => ⟨_, _, rfl, rfl, _, _, rfl, ?_⟩⟩
  have hla : l ≠ a := p6.ne nl
  have hR8 := hR.kept k8 p7 hla
  refine ⟨_, rfl, _, rfl, fun x dx nx ndx ne => ?_⟩
  have N9 : Same H8 (upd (upd H8 dx (.own x)) x (.ins C dx [])) := fun b u e => by rw [upd_ne (ne_of_none e nx), upd_ne (ne_of_none e ndx)]; exact e
  have hR9 := hR8.same N9
  have hlen9 : ∀ e ∈ L, e.1.length ≤ 1000 := fun e he => by have := (hok e he).2.1; omega
  refine ⟨x, dx, 2 + s7, .ref l, rdD L, rfl, by omega, by omega, vd_rd hR9 hlen9, upd_same, fun l' L' el hR' _ H10 tl ntl hk10 hLot => ?_, areR_of (by omega) hok⟩
  cases el
  have eL : L' = L := by
    obtain ⟨ts, z1, z2⟩ := hR9
    exact RdS.unique hR' ⟨ts, .inl z1, z2⟩
  subst eL
  have nx8 : H8 x = none := nx
  have N10 : Same H8 H10 := fun b u e => hk10 _ _ (N9 _ _ e) (ne_of_none e nx8)
  obtain ⟨ts8, hl8, hP8⟩ := id hR8
  have hR10 := hR8.same N10
  have hsum := sumT_in (Pr := fun y => txB y = true ∧ y.length ≤ 5) (L := L') (D := []) (b := 0) (by omega) (fun e he => (nomatch he)) (fun e he => ⟨⟨tx_of (hok e he).1, (hok e he).2.1⟩, (hok e he).2.2⟩)
  have hEnt : ∀ e ∈ sumT [] L', EntOk e := fun e he => by
    obtain ⟨z1, z2, z3⟩ := hsum e he
    exact ⟨z1.1, z2, by omega⟩
  have hnd : ((sumT [] L').map Prod.fst).Nodup := sumT_nodup L' (by simp)
  have hslen : (sumT [] L').length ≤ 60 := by
    have := sumT_len L' []
    simp at this
    omega
  have hE2 : ∀ e ∈ told (sumT [] L'), EntOk e := fun e he => hEnt e (told_mem.mp he)
  have hr2 : Rise (told (sumT [] L')) := told_of hnd
  have hl2 : (told (sumT [] L')).length ≤ 60 := by rw [told_len]; exact hslen
  have hrt := readT_textOf (s := 2 + s7) (by omega) (by omega) hE2 hr2 hl2
  have hokT : ∀ e ∈ told (sumT [] L'), OkT e.1 := fun e he => txB_ok (hE2 e he).tx
  refine ⟨rfl, _, rfl, _, rfl, l, L', rfl, ⟨ts8, .inl (N10 _ _ hl8), paired_mono (fun t e ht => N10 _ _ ht) hP8⟩, by omega, fun H11 d N11 nd hd => ?_⟩
  refine ⟨2 + s7, d, sumT [] L', rfl, by omega, hd, hnd, hslen, hEnt, fun H12 N12 => ?_⟩
  have hLot12 := (hLot.same N11).same N12
  have N812 := (N10.trans N11).trans N12
  have hTl : (textOf (2 + s7) (told (sumT [] L'))).length ≤ 100 := text_short (by omega) hE2 (fun e he => (hsum e (told_mem.mp he)).1.2) (by rw [told_len]; have := sumT_len L' []; simp at this; omega)
  have hT0 : 0 < (textOf (2 + s7) (told (sumT [] L'))).length := text_long
  generalize hT : textOf (2 + s7) (told (sumT [] L')) = T at hrt hTl hT0
  generalize told (sumT [] L') = M at hE2 hr2 hl2 hokT hLot12 hrt hT
  refine ⟨_, _, rfl, ?_⟩
  refine ⟨_, rfl, x, tl, 2 + s7, M, rfl, hLot12, by omega, hl2, hE2, fun H13 N13 => ?_⟩
  rw [hT]
  refine ⟨_, rfl, rfl, _, rfl, iteNot' rfl ?_⟩
  have hLot13 := hLot12.same N13
  refine ⟨_, rfl, .str T, .str T, rfl, .str T (by omega), (fun z => by cases z), fun y hy => ⟨fun k hk => ?_, fun s' M' hM' H14 b tb N14 nb ntb hLotb => ?_⟩⟩
  · cases hy
    rw [hrt] at hk
    cases hk
  cases hy
  rw [hrt] at hM'
  cases hM'
  have hLot14 := hLot13.same N14
  obtain ⟨db, gb, _⟩ := id hLotb
  obtain ⟨dx', gx, _⟩ := id hLot14
  refine ⟨_, rfl, b, x, db, dx', _, _, rfl, rfl, gb, gx, b, tb, 2 + s7, M, x, rfl, hLotb, tl, 2 + s7, M, hLot14, hokT, hokT, ?_⟩
  rw [decide_eq_true (⟨rfl, rfl⟩ : 2 + s7 = 2 + s7 ∧ M = M)]
  refine ⟨_, rfl, _, rfl, iteF ?_⟩
  have p14 : PotAt H14 a := ((p8.same N812).same N13).same N14
  have ea1 : (Str.ofString "a").length = 1 := by decide +kernel
  refine ⟨12, rfl, by decide, by decide, for_range (lo := 0) (n := 12) (fun i σ H' => ∃ v7 v8 : Option V, σ = [some (.ref sa), v1, some (.ref a), some (.ref l), some (.int (2 + (s7 : Int))), some (.ref x), some (.str T), v7, v8, none] ∧ PotAt H' a) ⟨none, none, rfl, p14⟩ ?_ ?_⟩
  · rintro i σ G1 hi ⟨v7, v8, rfl, pg⟩
    refine ⟨_, rfl, _, rfl, a, T, rfl, pg, hT0, by omega, fun y G2 hy kg2 pg2 => ?_⟩
    refine ⟨_, rfl, y, rfl, by omega, fun G3 NG3 => ⟨_, rfl, iteF ?_⟩⟩
    have pg3 := pg2.same NG3
    refine ⟨_, rfl, _, rfl, _, _, rfl, rfl, line1000 (by omega), a, y ++ Str.ofString "a", rfl, pg3, by rw [str_app_len]; omega, by rw [str_app_len]; omega, fun z G4 hz kg4 pg4 => ?_⟩
    rw [str_app_len] at hz
    refine ⟨z, rfl, by omega, fun G5 NG5 => ⟨_, rfl, iteF ⟨_, _, rfl, pg4.same NG5⟩⟩⟩
  rintro σ G1 ⟨v7, v8, rfl, pg⟩
  refine ⟨rfl, fun G2 tl2 NG2 ntl2 hTx => ?_⟩
  have pg2 := pg.same NG2
  refine ⟨_, rfl, a, 2, rfl, pg2, by decide, by decide, fun dd G3 hdd kg3 pg3 => ?_⟩
  obtain ⟨xs, hx, hxa, hxc⟩ := hTx
  have hx3 := kg3 _ _ hx (pg.ne ntl2)
  refine ⟨_, rfl, tl2, xs, rfl, SqL.of hx3, fun pp npp hpk => ?_⟩
  have hmem : ∀ v ∈ pickV xs (some (dd : Int)) none (some 2), ∃ y : Str, v = .str y ∧ y.length ≤ 1000 := fun v hv => hxa v (pickV_mem hv)
  have hp4 : upd G3 pp (.lst (pickV xs (some (dd : Int)) none (some 2))) pp = some (.lst (pickV xs (some (dd : Int)) none (some 2))) := upd_same
  generalize upd G3 pp (.lst (pickV xs (some (dd : Int)) none (some 2))) = G4 at hp4
  generalize pickV xs (some (dd : Int)) none (some 2) = ys at hmem hp4
  refine ⟨pp, rfl, ⟨_, SqL.of hp4⟩, fun D nD => ?_⟩
  refine lc_list (K := K) (a := pp) (xs := ys) (fun i H' => Same G4 H' ∧ H' D = some (.lst [])) ⟨same_new nD _, upd_same⟩ (fun i H' _ ⟨z, _⟩ => SqL.of (z _ _ hp4)) ?_ ?_
  · rintro i v G5 hv ⟨NG5, hD5⟩
    obtain ⟨y, rfl, hy⟩ := hmem v (List.mem_of_getElem? hv)
    exact ⟨rfl, _, rfl, y, rfl, hy, fun G6 NG6 => ⟨_, rfl, iteF ⟨NG5.trans NG6, NG6 _ _ hD5⟩⟩⟩
  · rintro G5 ⟨NG5, hD5⟩
    refine ⟨Nat.zero_le _, fun e0 ne0 => ⟨_, _, .lst (SqL.of (same_new ne0 _ _ _ hD5)) .nil, .lst (SqL.of upd_same) .nil, by decide, by decide, q' _⟩⟩
end
end My
namespace My
open PySem L2 PyProof.Rows
/-! ### the end -/
abbrev sBadText___init__ : Stmt := inClass (topS 5) 0
theorem sc_exc : FnScope ["self", "line"] ["self", "line"] (defScope sBadText___init__) := ⟨rfl, rfl, rfl, by decide +kernel, rfl, by decide +kernel, by decide +kernel⟩
theorem kit_no {K : PySem.W.Frag} {C : Addr} (h1 : PySem.W.isClsIn K C = true) (h2 : PySem.W.typeIn K (.ref C) = some (.type "type")) (h3 : PySem.W.subIn K (.type "dict") (.ref C) = some false) : PySem.W.kitOne K (.type "dict") (.ref C) = some false := by
  unfold PySem.W.kitOne
  rw [if_neg (by simp)]
  show (if ((PySem.W.clsIn K C).isSome && PySem.W.typeIn K (.ref C) == some (.type "type")) = true then PySem.W.subIn K (.type "dict") (.ref C) else none) = some false
  have h1' : (PySem.W.clsIn K C).isSome = true := h1
  rw [h1', h2, if_pos (by simp)]
  exact h3
theorem fd_is {K : PySem.W.Frag} {x : Str} {st : Stmt} {f : Addr} {fd fe : FuncData} {oc : Value} {od : Option Addr} {sl : Array (Option Value)} (F : Fun K x x st f fd) (l : K.lookup f = some ⟨oc, od, .func fe, sl⟩) : fd = fe := by
  obtain ⟨oc2, od2, kV, doc, pm, an, cdv, ct, osl, e, lk, c⟩ := F.ex
  rw [lk] at l
  have := Option.some.inj l
  injection this with _ _ h3 _
  injection h3
set_option maxHeartbeats 4000000 in
theorem all_mk {l : PySem.W.OpenLaw} {w : World} {K : PySem.W.Frag} {h : Heap} {mg : Str → Option Value} {fa C : Addr} (X : K.In h) (G : h.Ns mainGlobals mg) (hfa : mg "law" = some (.ref fa))
    {fM0 : Addr} {odM0 anM0 : Option Addr} {slM0 : Array (Option Value)} {ocM0 kVM0 dcM0 pmM0 cdM0 ctM0 : Value} {fM1 : Addr} {odM1 anM1 : Option Addr} {slM1 : Array (Option Value)} {ocM1 kVM1 dcM1 pmM1 cdM1 ctM1 : Value} {fM2 : Addr} {odM2 anM2 : Option Addr} {slM2 : Array (Option Value)} {ocM2 kVM2 dcM2 pmM2 cdM2 ctM2 : Value} {pM2 : Addr} {rsM2 : List Value} {fM3 : Addr} {odM3 anM3 : Option Addr} {slM3 : Array (Option Value)} {ocM3 kVM3 dcM3 pmM3 cdM3 ctM3 : Value} {f0 : Addr} {od0 an0 : Option Addr} {sl0 : Array (Option Value)} {oc0 kV0 dc0 pm0 cd0 ct0 : Value} {f1 : Addr} {od1 an1 : Option Addr} {sl1 : Array (Option Value)} {oc1 kV1 dc1 pm1 cd1 ct1 : Value} {f2 : Addr} {od2 an2 : Option Addr} {sl2 : Array (Option Value)} {oc2 kV2 dc2 pm2 cd2 ct2 : Value} {f3 : Addr} {od3 an3 : Option Addr} {sl3 : Array (Option Value)} {oc3 kV3 dc3 pm3 cd3 ct3 : Value} {f4 : Addr} {od4 an4 : Option Addr} {sl4 : Array (Option Value)} {oc4 kV4 dc4 pm4 cd4 ct4 : Value} {f5 : Addr} {od5 an5 : Option Addr} {sl5 : Array (Option Value)} {oc5 kV5 dc5 pm5 cd5 ct5 : Value} {f6 : Addr} {od6 an6 : Option Addr} {sl6 : Array (Option Value)} {oc6 kV6 dc6 pm6 cd6 ct6 : Value} {f7 : Addr} {od7 an7 : Option Addr} {sl7 : Array (Option Value)} {oc7 kV7 dc7 pm7 cd7 ct7 : Value} {f8 : Addr} {od8 an8 : Option Addr} {sl8 : Array (Option Value)} {oc8 kV8 dc8 pm8 cd8 ct8 : Value} {f9 : Addr} {od9 an9 : Option Addr} {sl9 : Array (Option Value)} {oc9 kV9 dc9 pm9 cd9 ct9 : Value} {f10 : Addr} {od10 an10 : Option Addr} {sl10 : Array (Option Value)} {oc10 kV10 dc10 pm10 cd10 ct10 : Value} {f11 : Addr} {od11 an11 : Option Addr} {sl11 : Array (Option Value)} {oc11 kV11 dc11 pm11 cd11 ct11 : Value} {f12 : Addr} {od12 an12 : Option Addr} {sl12 : Array (Option Value)} {oc12 kV12 dc12 pm12 cd12 ct12 : Value} {f13 : Addr} {od13 an13 : Option Addr} {sl13 : Array (Option Value)} {oc13 kV13 dc13 pm13 cd13 ct13 : Value} {f14 : Addr} {od14 an14 : Option Addr} {sl14 : Array (Option Value)} {oc14 kV14 dc14 pm14 cd14 ct14 : Value} {f15 : Addr} {od15 an15 : Option Addr} {sl15 : Array (Option Value)} {oc15 kV15 dc15 pm15 cd15 ct15 : Value} {f16 : Addr} {od16 an16 : Option Addr} {sl16 : Array (Option Value)} {oc16 kV16 dc16 pm16 cd16 ct16 : Value} {f17 : Addr} {od17 an17 : Option Addr} {sl17 : Array (Option Value)} {oc17 kV17 dc17 pm17 cd17 ct17 : Value} {f18 : Addr} {od18 an18 : Option Addr} {sl18 : Array (Option Value)} {oc18 kV18 dc18 pm18 cd18 ct18 : Value} {f19 : Addr} {od19 an19 : Option Addr} {sl19 : Array (Option Value)} {oc19 kV19 dc19 pm19 cd19 ct19 : Value} {f20 : Addr} {od20 an20 : Option Addr} {sl20 : Array (Option Value)} {oc20 kV20 dc20 pm20 cd20 ct20 : Value} {f21 : Addr} {od21 an21 : Option Addr} {sl21 : Array (Option Value)} {oc21 kV21 dc21 pm21 cd21 ct21 : Value} {f22 : Addr} {od22 an22 : Option Addr} {sl22 : Array (Option Value)} {oc22 kV22 dc22 pm22 cd22 ct22 : Value} {f23 : Addr} {od23 an23 : Option Addr} {sl23 : Array (Option Value)} {oc23 kV23 dc23 pm23 cd23 ct23 : Value} {f24 : Addr} {od24 an24 : Option Addr} {sl24 : Array (Option Value)} {oc24 kV24 dc24 pm24 cd24 ct24 : Value} {f25 : Addr} {od25 an25 : Option Addr} {sl25 : Array (Option Value)} {oc25 kV25 dc25 pm25 cd25 ct25 : Value} {f26 : Addr} {od26 an26 : Option Addr} {sl26 : Array (Option Value)} {oc26 kV26 dc26 pm26 cd26 ct26 : Value} {f27 : Addr} {od27 an27 : Option Addr} {sl27 : Array (Option Value)} {oc27 kV27 dc27 pm27 cd27 ct27 : Value} {f28 : Addr} {od28 an28 : Option Addr} {sl28 : Array (Option Value)} {oc28 kV28 dc28 pm28 cd28 ct28 : Value} {f29 : Addr} {od29 an29 : Option Addr} {sl29 : Array (Option Value)} {oc29 kV29 dc29 pm29 cd29 ct29 : Value} {f30 : Addr} {od30 an30 : Option Addr} {sl30 : Array (Option Value)} {oc30 kV30 dc30 pm30 cd30 ct30 : Value} {f31 : Addr} {od31 an31 : Option Addr} {sl31 : Array (Option Value)} {oc31 kV31 dc31 pm31 cd31 ct31 : Value} {f32 : Addr} {od32 an32 : Option Addr} {sl32 : Array (Option Value)} {oc32 kV32 dc32 pm32 cd32 ct32 : Value} {f33 : Addr} {od33 an33 : Option Addr} {sl33 : Array (Option Value)} {oc33 kV33 dc33 pm33 cd33 ct33 : Value} {f34 : Addr} {od34 an34 : Option Addr} {sl34 : Array (Option Value)} {oc34 kV34 dc34 pm34 cd34 ct34 : Value} {CE CP : Addr} {fE : Addr} {odE anE : Option Addr} {slE : Array (Option Value)} {ocE kVE dcE pmE cdE ctE : Value} {nmE qnE : Str} {NE : Addr} {bsE bmE : List Value} {snE : List Str} {subE : List Value} {abE : Bool} {colE : Option Bool} {ddE : Option Addr} {kE0 kE1 kE2 kE3 kE5 : Option Value} {u0 : Tok} {t0 : Tok} {t1 : Tok} {t2 : Tok} {t3 : Tok}
    (aC : PySem.W.nsIn K mainGlobals "Lot" = some (some (.ref C)))
    (aM0 : PySem.W.findIn K (.ref C) "__init__" = some (some (.ref fM0))) (iM0 : PySem.W.isFn K (.ref fM0) = true) (lM0 : K.lookup fM0 = some ⟨ocM0, odM0, .func (PySem.W.fnOf "__init__" "Lot.__init__" (defArgs sLot___init__) (defBody sLot___init__) (defScope sLot___init__) .none kVM0 dcM0 pmM0 anM0 cdM0 ctM0), slM0⟩) (cM0 : PySem.W.codeIn K cdM0 "Lot.__init__" = true) (kM0 : PySem.W.keepIn K (.ref fM0) = true)
    (aM1 : PySem.W.findIn K (.ref C) "__eq__" = some (some (.ref fM1))) (iM1 : PySem.W.isFn K (.ref fM1) = true) (lM1 : K.lookup fM1 = some ⟨ocM1, odM1, .func (PySem.W.fnOf "__eq__" "Lot.__eq__" (defArgs sLot___eq__) (defBody sLot___eq__) (defScope sLot___eq__) .none kVM1 dcM1 pmM1 anM1 cdM1 ctM1), slM1⟩) (cM1 : PySem.W.codeIn K cdM1 "Lot.__eq__" = true) (kM1 : PySem.W.keepIn K (.ref fM1) = true)
    (aM2 : PySem.W.findIn K (.ref C) "size" = some (some (.ref pM2))) (gM2 : PySem.W.specialIn K (.ref pM2) "__get__" = some (some (.builtin "property.__get__"))) (tM2 : PySem.W.takesIn K (.ref pM2) = some true) (rM2 : PySem.W.recIn K pM2 "property" = some (.ref fM2 :: rsM2)) (lM2 : K.lookup fM2 = some ⟨ocM2, odM2, .func (PySem.W.fnOf "size" "Lot.size" (defArgs sLot_size) (defBody sLot_size) (defScope sLot_size) .none kVM2 dcM2 pmM2 anM2 cdM2 ctM2), slM2⟩) (cM2 : PySem.W.codeIn K cdM2 "Lot.size" = true) (kM2 : PySem.W.keepIn K (.ref fM2) = true)
    (aM3 : PySem.W.findIn K (.ref C) "readings" = some (some (.ref fM3))) (iM3 : PySem.W.isFn K (.ref fM3) = true) (lM3 : K.lookup fM3 = some ⟨ocM3, odM3, .func (PySem.W.fnOf "readings" "Lot.readings" (defArgs sLot_readings) (defBody sLot_readings) (defScope sLot_readings) .none kVM3 dcM3 pmM3 anM3 cdM3 ctM3), slM3⟩) (cM3 : PySem.W.codeIn K cdM3 "Lot.readings" = true) (kM3 : PySem.W.keepIn K (.ref fM3) = true)
    (a0 : PySem.W.nsIn K mainGlobals "is_integer" = some (some (.ref f0))) (l0 : K.lookup f0 = some ⟨oc0, od0, .func (PySem.W.fnOf "is_integer" "is_integer" (defArgs sis_integer) (defBody sis_integer) (defScope sis_integer) .none kV0 dc0 pm0 an0 cd0 ct0), sl0⟩) (c0 : PySem.W.codeIn K cd0 "is_integer" = true) (k0 : PySem.W.keepIn K (.ref f0) = true)
    (a1 : PySem.W.nsIn K mainGlobals "is_between" = some (some (.ref f1))) (l1 : K.lookup f1 = some ⟨oc1, od1, .func (PySem.W.fnOf "is_between" "is_between" (defArgs sis_between) (defBody sis_between) (defScope sis_between) .none kV1 dc1 pm1 an1 cd1 ct1), sl1⟩) (c1 : PySem.W.codeIn K cd1 "is_between" = true) (k1 : PySem.W.keepIn K (.ref f1) = true)
    (a2 : PySem.W.nsIn K mainGlobals "is_size" = some (some (.ref f2))) (l2 : K.lookup f2 = some ⟨oc2, od2, .func (PySem.W.fnOf "is_size" "is_size" (defArgs sis_size) (defBody sis_size) (defScope sis_size) .none kV2 dc2 pm2 an2 cd2 ct2), sl2⟩) (c2 : PySem.W.codeIn K cd2 "is_size" = true) (k2 : PySem.W.keepIn K (.ref f2) = true)
    (a3 : PySem.W.nsIn K mainGlobals "is_listed" = some (some (.ref f3))) (l3 : K.lookup f3 = some ⟨oc3, od3, .func (PySem.W.fnOf "is_listed" "is_listed" (defArgs sis_listed) (defBody sis_listed) (defScope sis_listed) .none kV3 dc3 pm3 an3 cd3 ct3), sl3⟩) (c3 : PySem.W.codeIn K cd3 "is_listed" = true) (k3 : PySem.W.keepIn K (.ref f3) = true)
    (a4 : PySem.W.nsIn K mainGlobals "is_letter" = some (some (.ref f4))) (l4 : K.lookup f4 = some ⟨oc4, od4, .func (PySem.W.fnOf "is_letter" "is_letter" (defArgs sis_letter) (defBody sis_letter) (defScope sis_letter) .none kV4 dc4 pm4 an4 cd4 ct4), sl4⟩) (c4 : PySem.W.codeIn K cd4 "is_letter" = true) (k4 : PySem.W.keepIn K (.ref f4) = true)
    (a5 : PySem.W.nsIn K mainGlobals "is_digit" = some (some (.ref f5))) (l5 : K.lookup f5 = some ⟨oc5, od5, .func (PySem.W.fnOf "is_digit" "is_digit" (defArgs sis_digit) (defBody sis_digit) (defScope sis_digit) .none kV5 dc5 pm5 an5 cd5 ct5), sl5⟩) (c5 : PySem.W.codeIn K cd5 "is_digit" = true) (k5 : PySem.W.keepIn K (.ref f5) = true)
    (a6 : PySem.W.nsIn K mainGlobals "count_of" = some (some (.ref f6))) (l6 : K.lookup f6 = some ⟨oc6, od6, .func (PySem.W.fnOf "count_of" "count_of" (defArgs scount_of) (defBody scount_of) (defScope scount_of) .none kV6 dc6 pm6 an6 cd6 ct6), sl6⟩) (c6 : PySem.W.codeIn K cd6 "count_of" = true) (k6 : PySem.W.keepIn K (.ref f6) = true)
    (a7 : PySem.W.nsIn K mainGlobals "need_size" = some (some (.ref f7))) (l7 : K.lookup f7 = some ⟨oc7, od7, .func (PySem.W.fnOf "need_size" "need_size" (defArgs sneed_size) (defBody sneed_size) (defScope sneed_size) .none kV7 dc7 pm7 an7 cd7 ct7), sl7⟩) (c7 : PySem.W.codeIn K cd7 "need_size" = true) (k7 : PySem.W.keepIn K (.ref f7) = true)
    (a8 : PySem.W.nsIn K mainGlobals "is_text" = some (some (.ref f8))) (l8 : K.lookup f8 = some ⟨oc8, od8, .func (PySem.W.fnOf "is_text" "is_text" (defArgs sis_text) (defBody sis_text) (defScope sis_text) .none kV8 dc8 pm8 an8 cd8 ct8), sl8⟩) (c8 : PySem.W.codeIn K cd8 "is_text" = true) (k8 : PySem.W.keepIn K (.ref f8) = true)
    (a9 : PySem.W.nsIn K mainGlobals "is_times" = some (some (.ref f9))) (l9 : K.lookup f9 = some ⟨oc9, od9, .func (PySem.W.fnOf "is_times" "is_times" (defArgs sis_times) (defBody sis_times) (defScope sis_times) .none kV9 dc9 pm9 an9 cd9 ct9), sl9⟩) (c9 : PySem.W.codeIn K cd9 "is_times" = true) (k9 : PySem.W.keepIn K (.ref f9) = true)
    (a10 : PySem.W.nsIn K mainGlobals "are_readings" = some (some (.ref f10))) (l10 : K.lookup f10 = some ⟨oc10, od10, .func (PySem.W.fnOf "are_readings" "are_readings" (defArgs sare_readings) (defBody sare_readings) (defScope sare_readings) .none kV10 dc10 pm10 an10 cd10 ct10), sl10⟩) (c10 : PySem.W.codeIn K cd10 "are_readings" = true) (k10 : PySem.W.keepIn K (.ref f10) = true)
    (a11 : PySem.W.nsIn K mainGlobals "need_lot" = some (some (.ref f11))) (l11 : K.lookup f11 = some ⟨oc11, od11, .func (PySem.W.fnOf "need_lot" "need_lot" (defArgs sneed_lot) (defBody sneed_lot) (defScope sneed_lot) .none kV11 dc11 pm11 an11 cd11 ct11), sl11⟩) (c11 : PySem.W.codeIn K cd11 "need_lot" = true) (k11 : PySem.W.keepIn K (.ref f11) = true)
    (a12 : PySem.W.nsIn K mainGlobals "_times_together" = some (some (.ref f12))) (l12 : K.lookup f12 = some ⟨oc12, od12, .func (PySem.W.fnOf "_times_together" "_times_together" (defArgs s_times_together) (defBody s_times_together) (defScope s_times_together) .none kV12 dc12 pm12 an12 cd12 ct12), sl12⟩) (c12 : PySem.W.codeIn K cd12 "_times_together" = true) (k12 : PySem.W.keepIn K (.ref f12) = true)
    (a13 : PySem.W.nsIn K mainGlobals "lot_told" = some (some (.ref f13))) (l13 : K.lookup f13 = some ⟨oc13, od13, .func (PySem.W.fnOf "lot_told" "lot_told" (defArgs slot_told) (defBody slot_told) (defScope slot_told) .none kV13 dc13 pm13 an13 cd13 ct13), sl13⟩) (c13 : PySem.W.codeIn K cd13 "lot_told" = true) (k13 : PySem.W.keepIn K (.ref f13) = true)
    (a14 : PySem.W.nsIn K mainGlobals "lot_text" = some (some (.ref f14))) (l14 : K.lookup f14 = some ⟨oc14, od14, .func (PySem.W.fnOf "lot_text" "lot_text" (defArgs slot_text) (defBody slot_text) (defScope slot_text) .none kV14 dc14 pm14 an14 cd14 ct14), sl14⟩) (c14 : PySem.W.codeIn K cd14 "lot_text" = true) (k14 : PySem.W.keepIn K (.ref f14) = true)
    (a15 : PySem.W.nsIn K mainGlobals "lot_of" = some (some (.ref f15))) (l15 : K.lookup f15 = some ⟨oc15, od15, .func (PySem.W.fnOf "lot_of" "lot_of" (defArgs slot_of) (defBody slot_of) (defScope slot_of) .none kV15 dc15 pm15 an15 cd15 ct15), sl15⟩) (c15 : PySem.W.codeIn K cd15 "lot_of" = true) (k15 : PySem.W.keepIn K (.ref f15) = true)
    (a16 : PySem.W.nsIn K mainGlobals "_is_right" = some (some (.ref f16))) (l16 : K.lookup f16 = some ⟨oc16, od16, .func (PySem.W.fnOf "_is_right" "_is_right" (defArgs s_is_right) (defBody s_is_right) (defScope s_is_right) .none kV16 dc16 pm16 an16 cd16 ct16), sl16⟩) (c16 : PySem.W.codeIn K cd16 "_is_right" = true) (k16 : PySem.W.keepIn K (.ref f16) = true)
    (a17 : PySem.W.nsIn K mainGlobals "_size_of" = some (some (.ref f17))) (l17 : K.lookup f17 = some ⟨oc17, od17, .func (PySem.W.fnOf "_size_of" "_size_of" (defArgs s_size_of) (defBody s_size_of) (defScope s_size_of) .none kV17 dc17 pm17 an17 cd17 ct17), sl17⟩) (c17 : PySem.W.codeIn K cd17 "_size_of" = true) (k17 : PySem.W.keepIn K (.ref f17) = true)
    (a18 : PySem.W.nsIn K mainGlobals "_reading_of" = some (some (.ref f18))) (l18 : K.lookup f18 = some ⟨oc18, od18, .func (PySem.W.fnOf "_reading_of" "_reading_of" (defArgs s_reading_of) (defBody s_reading_of) (defScope s_reading_of) .none kV18 dc18 pm18 an18 cd18 ct18), sl18⟩) (c18 : PySem.W.codeIn K cd18 "_reading_of" = true) (k18 : PySem.W.keepIn K (.ref f18) = true)
    (a19 : PySem.W.nsIn K mainGlobals "_law_pot" = some (some (.ref f19))) (l19 : K.lookup f19 = some ⟨oc19, od19, .func (PySem.W.fnOf "_law_pot" "_law_pot" (defArgs s_law_pot) (defBody s_law_pot) (defScope s_law_pot) .none kV19 dc19 pm19 an19 cd19 ct19), sl19⟩) (c19 : PySem.W.codeIn K cd19 "_law_pot" = true) (k19 : PySem.W.keepIn K (.ref f19) = true)
    (a20 : PySem.W.nsIn K mainGlobals "_law_draw" = some (some (.ref f20))) (l20 : K.lookup f20 = some ⟨oc20, od20, .func (PySem.W.fnOf "_law_draw" "_law_draw" (defArgs s_law_draw) (defBody s_law_draw) (defScope s_law_draw) .none kV20 dc20 pm20 an20 cd20 ct20), sl20⟩) (c20 : PySem.W.codeIn K cd20 "_law_draw" = true) (k20 : PySem.W.keepIn K (.ref f20) = true)
    (a21 : PySem.W.nsIn K mainGlobals "_law_pick" = some (some (.ref f21))) (l21 : K.lookup f21 = some ⟨oc21, od21, .func (PySem.W.fnOf "_law_pick" "_law_pick" (defArgs s_law_pick) (defBody s_law_pick) (defScope s_law_pick) .none kV21 dc21 pm21 an21 cd21 ct21), sl21⟩) (c21 : PySem.W.codeIn K cd21 "_law_pick" = true) (k21 : PySem.W.keepIn K (.ref f21) = true)
    (a22 : PySem.W.nsIn K mainGlobals "_law_text" = some (some (.ref f22))) (l22 : K.lookup f22 = some ⟨oc22, od22, .func (PySem.W.fnOf "_law_text" "_law_text" (defArgs s_law_text) (defBody s_law_text) (defScope s_law_text) .none kV22 dc22 pm22 an22 cd22 ct22), sl22⟩) (c22 : PySem.W.codeIn K cd22 "_law_text" = true) (k22 : PySem.W.keepIn K (.ref f22) = true)
    (a23 : PySem.W.nsIn K mainGlobals "_law_readings" = some (some (.ref f23))) (l23 : K.lookup f23 = some ⟨oc23, od23, .func (PySem.W.fnOf "_law_readings" "_law_readings" (defArgs s_law_readings) (defBody s_law_readings) (defScope s_law_readings) .none kV23 dc23 pm23 an23 cd23 ct23), sl23⟩) (c23 : PySem.W.codeIn K cd23 "_law_readings" = true) (k23 : PySem.W.keepIn K (.ref f23) = true)
    (a24 : PySem.W.nsIn K mainGlobals "_law_times" = some (some (.ref f24))) (l24 : K.lookup f24 = some ⟨oc24, od24, .func (PySem.W.fnOf "_law_times" "_law_times" (defArgs s_law_times) (defBody s_law_times) (defScope s_law_times) .none kV24 dc24 pm24 an24 cd24 ct24), sl24⟩) (c24 : PySem.W.codeIn K cd24 "_law_times" = true) (k24 : PySem.W.keepIn K (.ref f24) = true)
    (a25 : PySem.W.nsIn K mainGlobals "_law_sorted" = some (some (.ref f25))) (l25 : K.lookup f25 = some ⟨oc25, od25, .func (PySem.W.fnOf "_law_sorted" "_law_sorted" (defArgs s_law_sorted) (defBody s_law_sorted) (defScope s_law_sorted) .none kV25 dc25 pm25 an25 cd25 ct25), sl25⟩) (c25 : PySem.W.codeIn K cd25 "_law_sorted" = true) (k25 : PySem.W.keepIn K (.ref f25) = true)
    (a26 : PySem.W.nsIn K mainGlobals "_law_number" = some (some (.ref f26))) (l26 : K.lookup f26 = some ⟨oc26, od26, .func (PySem.W.fnOf "_law_number" "_law_number" (defArgs s_law_number) (defBody s_law_number) (defScope s_law_number) .none kV26 dc26 pm26 an26 cd26 ct26), sl26⟩) (c26 : PySem.W.codeIn K cd26 "_law_number" = true) (k26 : PySem.W.keepIn K (.ref f26) = true)
    (a27 : PySem.W.nsIn K mainGlobals "_law_letters" = some (some (.ref f27))) (l27 : K.lookup f27 = some ⟨oc27, od27, .func (PySem.W.fnOf "_law_letters" "_law_letters" (defArgs s_law_letters) (defBody s_law_letters) (defScope s_law_letters) .none kV27 dc27 pm27 an27 cd27 ct27), sl27⟩) (c27 : PySem.W.codeIn K cd27 "_law_letters" = true) (k27 : PySem.W.keepIn K (.ref f27) = true)
    (a28 : PySem.W.nsIn K mainGlobals "_law_read" = some (some (.ref f28))) (l28 : K.lookup f28 = some ⟨oc28, od28, .func (PySem.W.fnOf "_law_read" "_law_read" (defArgs s_law_read) (defBody s_law_read) (defScope s_law_read) .none kV28 dc28 pm28 an28 cd28 ct28), sl28⟩) (c28 : PySem.W.codeIn K cd28 "_law_read" = true) (k28 : PySem.W.keepIn K (.ref f28) = true)
    (a29 : PySem.W.nsIn K mainGlobals "_law_told" = some (some (.ref f29))) (l29 : K.lookup f29 = some ⟨oc29, od29, .func (PySem.W.fnOf "_law_told" "_law_told" (defArgs s_law_told) (defBody s_law_told) (defScope s_law_told) .none kV29 dc29 pm29 an29 cd29 ct29), sl29⟩) (c29 : PySem.W.codeIn K cd29 "_law_told" = true) (k29 : PySem.W.keepIn K (.ref f29) = true)
    (a30 : PySem.W.nsIn K mainGlobals "_law_bent" = some (some (.ref f30))) (l30 : K.lookup f30 = some ⟨oc30, od30, .func (PySem.W.fnOf "_law_bent" "_law_bent" (defArgs s_law_bent) (defBody s_law_bent) (defScope s_law_bent) .none kV30 dc30 pm30 an30 cd30 ct30), sl30⟩) (c30 : PySem.W.codeIn K cd30 "_law_bent" = true) (k30 : PySem.W.keepIn K (.ref f30) = true)
    (a31 : PySem.W.nsIn K mainGlobals "_law_heard" = some (some (.ref f31))) (l31 : K.lookup f31 = some ⟨oc31, od31, .func (PySem.W.fnOf "_law_heard" "_law_heard" (defArgs s_law_heard) (defBody s_law_heard) (defScope s_law_heard) .none kV31 dc31 pm31 an31 cd31 ct31), sl31⟩) (c31 : PySem.W.codeIn K cd31 "_law_heard" = true) (k31 : PySem.W.keepIn K (.ref f31) = true)
    (a32 : PySem.W.nsIn K mainGlobals "_law_text_right" = some (some (.ref f32))) (l32 : K.lookup f32 = some ⟨oc32, od32, .func (PySem.W.fnOf "_law_text_right" "_law_text_right" (defArgs s_law_text_right) (defBody s_law_text_right) (defScope s_law_text_right) .none kV32 dc32 pm32 an32 cd32 ct32), sl32⟩) (c32 : PySem.W.codeIn K cd32 "_law_text_right" = true) (k32 : PySem.W.keepIn K (.ref f32) = true)
    (a33 : PySem.W.nsIn K mainGlobals "_law_told_texts" = some (some (.ref f33))) (l33 : K.lookup f33 = some ⟨oc33, od33, .func (PySem.W.fnOf "_law_told_texts" "_law_told_texts" (defArgs s_law_told_texts) (defBody s_law_told_texts) (defScope s_law_told_texts) .none kV33 dc33 pm33 an33 cd33 ct33), sl33⟩) (c33 : PySem.W.codeIn K cd33 "_law_told_texts" = true) (k33 : PySem.W.keepIn K (.ref f33) = true)
    (a34 : PySem.W.nsIn K mainGlobals "law" = some (some (.ref f34))) (l34 : K.lookup f34 = some ⟨oc34, od34, .func (PySem.W.fnOf "law" "law" (defArgs slaw) (defBody slaw) (defScope slaw) .none kV34 dc34 pm34 an34 cd34 ct34), sl34⟩) (c34 : PySem.W.codeIn K cd34 "law" = true) (k34 : PySem.W.keepIn K (.ref f34) = true)
    (pg : PySem.W.plainGet K C Str.empty = true) (hd : PySem.W.hasDictIn K C = true) (po : PySem.W.plainOver K C = true) (sa : PySem.W.findIn K (.ref C) "__setattr__" = some (some (.builtin "object.__setattr__"))) (mk : PySem.W.makesIn K C = true) (kc : PySem.W.keepIn K (.ref C) = true)
    (n0 : PySem.W.findIn K (.ref C) "_size" = some none)
    (n1 : PySem.W.findIn K (.ref C) "_told" = some none)
    (q1 : PySem.W.findIn K (.ref C) "__class__" = some (some (.builtin "object.__class__"))) (q2 : PySem.W.specialIn K (.builtin "object.__class__") "__get__" = some (some (.builtin "getset_descriptor.__get__"))) (q3 : PySem.W.takesIn K (.builtin "object.__class__") = some true) (q4 : PySem.W.mroIn K C (.type "object") = some true)
    (xC : PySem.W.nsIn K mainGlobals "BadText" = some (some (.ref CE))) (xO : K.lookup CE = some (excClassObj nmE qnE CE NE bsE bmE true snE subE abE colE ddE kE0 kE1 kE2 kE3 kE5 "ValueError.__new__")) (xR : PySem.HandSPX.refsVE bmE = true) (xsa : PySem.W.findIn K (.ref CE) "__setattr__" = some (some (.builtin "object.__setattr__"))) (xb : PySem.W.subIn K (.ref CE) (.type "BaseException") = some true) (xt : PySem.W.typeIn K (.ref CE) = some (.type "type")) (xk : PySem.W.keepIn K (.ref CE) = true) (xi : PySem.W.findIn K (.ref CE) "__init__" = some (some (.ref fE))) (xf : PySem.W.typeIn K (.ref fE) = some (.type "function")) (lE : K.lookup fE = some ⟨ocE, odE, .func (PySem.W.fnOf "__init__" "BadText.__init__" (defArgs sBadText___init__) (defBody sBadText___init__) (defScope sBadText___init__) .none kVE dcE pmE anE cdE ctE), slE⟩) (cE : PySem.W.codeIn K cdE "BadText.__init__" = true) (kE : PySem.W.keepIn K (.ref fE) = true)
    (xga : PySem.W.findIn K (.ref CE) "__getattribute__" = some (some (.builtin "BaseException.__getattribute__"))) (xgg : PySem.W.findIn K (.ref CE) "__getattr__" = some none) (xhd : PySem.W.hasDictIn K CE = true) (xno : PySem.W.findIn K (.ref CE) "line" = some none) (xss : PySem.W.subIn K (.ref CE) (.ref CE) = some true) (ks : PySem.W.subIn K (.ref C) (.type "list") = some false) (w1 : PySem.W.findIn K (.ref C) "__ne__" = some (some (.builtin "object.__ne__"))) (aP : PySem.W.nsIn K mainGlobals "PieceError" = some (some (.ref CP))) (iP : PySem.W.isIn K (.ref CE) CP = true)
    (z0 : PySem.W.nsIn K mainGlobals "isinstance" = some none)
    (z1 : PySem.W.nsIn K mainGlobals "int" = some none)
    (z2 : PySem.W.nsIn K mainGlobals "bool" = some none)
    (z3 : PySem.W.nsIn K mainGlobals "str" = some none)
    (z4 : PySem.W.nsIn K mainGlobals "list" = some none)
    (z5 : PySem.W.nsIn K mainGlobals "tuple" = some none)
    (z6 : PySem.W.nsIn K mainGlobals "len" = some none)
    (z7 : PySem.W.nsIn K mainGlobals "range" = some none)
    (z8 : PySem.W.nsIn K mainGlobals "abs" = some none)
    (z9 : PySem.W.nsIn K mainGlobals "max" = some none)
    (z10 : PySem.W.nsIn K mainGlobals "divmod" = some none)
    (z11 : PySem.W.nsIn K mainGlobals "sorted" = some none)
    (z12 : PySem.W.nsIn K mainGlobals "dict" = some none)
    (z13 : PySem.W.nsIn K mainGlobals "all" = some none)
    (z14 : PySem.W.nsIn K mainGlobals "enumerate" = some none)
    (v0 : PySem.W.nsIn K mainGlobals "EMPTY" = some (some (.str (Str.ofString "-") u0)))
    (y0 : PySem.W.nsIn K mainGlobals "MOST_READINGS" = some (some (.int 60 t0)))
    (y1 : PySem.W.nsIn K mainGlobals "MOST_LETTERS" = some (some (.int 400 t1)))
    (y2 : PySem.W.nsIn K mainGlobals "MOST_TIMES" = some (some (.int 1200 t2)))
    (y3 : PySem.W.nsIn K mainGlobals "MOST_DIGITS" = some (some (.int 4 t3)))
    : ∃ fd : FuncData, (∀ (s : Shared) (v : Value), BindsTo s fd ⟨[v], []⟩ [("_law_script", v)]) ∧ ∀ base : Heap, K.In base → base.Ns mainGlobals mg → FnOk l.prog w K mg base CX0 11 fa fd ["_law_script"] (splaw K 0 0) := by
  have e := hfa.symm.trans (PySem.W.mg_of X G a34)
  cases e
  have B : Bs mg := ⟨PySem.W.mg_none_of X G z0, PySem.W.mg_none_of X G z1, PySem.W.mg_none_of X G z2, PySem.W.mg_none_of X G z3, PySem.W.mg_none_of X G z4, PySem.W.mg_none_of X G z5, PySem.W.mg_none_of X G z6, PySem.W.mg_none_of X G z7, PySem.W.mg_none_of X G z8, PySem.W.mg_none_of X G z9, PySem.W.mg_none_of X G z10, PySem.W.mg_none_of X G z11, PySem.W.mg_none_of X G z12, PySem.W.mg_none_of X G z13, PySem.W.mg_none_of X G z14⟩
  have Glb : Glo mg := ⟨⟨t0, PySem.W.mg_of X G y0⟩, ⟨t1, PySem.W.mg_of X G y1⟩, ⟨t2, PySem.W.mg_of X G y2⟩, ⟨t3, PySem.W.mg_of X G y3⟩, ⟨u0, PySem.W.mg_of X G v0⟩⟩
  have WK : WebK K mg C := ⟨⟨pg, hd, po, sa⟩, n0, n1, PySem.W.mg_of X G aC, q1, q2, q3, q4, (by unfold PySem.W.kitOne; exact if_pos (beq_self_eq_true _)), w1⟩
  have DLot___init__ : DefI K C "__init__" "Lot.__init__" sLot___init__ ["self", "size", "readings"] := ⟨fM0, _, fun_mk (st := sLot___init__) lM0 cM0 kM0, ⟨mk, aM0, iM0, kc⟩, (fun_mk (st := sLot___init__) lM0 cM0 kM0).binds (ps := ["self", "size", "readings"]) fun _ _ _ _ _ _ us hl => match us, hl with | [_, _, _], _ => rfl⟩
  have DLot___eq__ : DefM K C "__eq__" "Lot.__eq__" sLot___eq__ ["self", "other"] := ⟨fM1, _, fun_mk (st := sLot___eq__) lM1 cM1 kM1, ⟨aM1, iM1, kM1⟩, (fun_mk (st := sLot___eq__) lM1 cM1 kM1).binds (ps := ["self", "other"]) fun _ _ _ _ _ _ us hl => match us, hl with | [_, _], _ => rfl⟩
  have DLot_size : DefP K C "size" "Lot.size" sLot_size ["self"] := ⟨pM2, fM2, _, fun_mk (st := sLot_size) lM2 cM2 kM2, ⟨aM2, gM2, tM2, _, rM2⟩, (fun_mk (st := sLot_size) lM2 cM2 kM2).binds (ps := ["self"]) fun _ _ _ _ _ _ us hl => match us, hl with | [_], _ => rfl⟩
  have DLot_readings : DefM K C "readings" "Lot.readings" sLot_readings ["self"] := ⟨fM3, _, fun_mk (st := sLot_readings) lM3 cM3 kM3, ⟨aM3, iM3, kM3⟩, (fun_mk (st := sLot_readings) lM3 cM3 kM3).binds (ps := ["self"]) fun _ _ _ _ _ _ us hl => match us, hl with | [_], _ => rfl⟩
  have Dis_integer : Def K mg "is_integer" sis_integer ["value"] := def_mk X G a0 l0 c0 k0 fun _ _ _ _ _ _ us hl => match us, hl with | [_], _ => rfl
  have Dis_between : Def K mg "is_between" sis_between ["value", "least", "most"] := def_mk X G a1 l1 c1 k1 fun _ _ _ _ _ _ us hl => match us, hl with | [_, _, _], _ => rfl
  have Dis_size : Def K mg "is_size" sis_size ["value"] := def_mk X G a2 l2 c2 k2 fun _ _ _ _ _ _ us hl => match us, hl with | [_], _ => rfl
  have Dis_listed : Def K mg "is_listed" sis_listed ["value"] := def_mk X G a3 l3 c3 k3 fun _ _ _ _ _ _ us hl => match us, hl with | [_], _ => rfl
  have Dis_letter : Def K mg "is_letter" sis_letter ["sign"] := def_mk X G a4 l4 c4 k4 fun _ _ _ _ _ _ us hl => match us, hl with | [_], _ => rfl
  have Dis_digit : Def K mg "is_digit" sis_digit ["sign"] := def_mk X G a5 l5 c5 k5 fun _ _ _ _ _ _ us hl => match us, hl with | [_], _ => rfl
  have Dcount_of : Def K mg "count_of" scount_of ["signs", "most"] := def_mk X G a6 l6 c6 k6 fun _ _ _ _ _ _ us hl => match us, hl with | [_, _], _ => rfl
  have Dneed_size : Def K mg "need_size" sneed_size ["size"] := def_mk X G a7 l7 c7 k7 fun _ _ _ _ _ _ us hl => match us, hl with | [_], _ => rfl
  have Dis_text : Def K mg "is_text" sis_text ["value"] := def_mk X G a8 l8 c8 k8 fun _ _ _ _ _ _ us hl => match us, hl with | [_], _ => rfl
  have Dis_times : Def K mg "is_times" sis_times ["value"] := def_mk X G a9 l9 c9 k9 fun _ _ _ _ _ _ us hl => match us, hl with | [_], _ => rfl
  have Dare_readings : Def K mg "are_readings" sare_readings ["value"] := def_mk X G a10 l10 c10 k10 fun _ _ _ _ _ _ us hl => match us, hl with | [_], _ => rfl
  have Dneed_lot : Def K mg "need_lot" sneed_lot ["lot"] := def_mk X G a11 l11 c11 k11 fun _ _ _ _ _ _ us hl => match us, hl with | [_], _ => rfl
  have D_times_together : Def K mg "_times_together" s_times_together ["readings"] := def_mk X G a12 l12 c12 k12 fun _ _ _ _ _ _ us hl => match us, hl with | [_], _ => rfl
  have Dlot_told : Def K mg "lot_told" slot_told ["size", "told"] := def_mk X G a13 l13 c13 k13 fun _ _ _ _ _ _ us hl => match us, hl with | [_, _], _ => rfl
  have Dlot_text : Def K mg "lot_text" slot_text ["lot"] := def_mk X G a14 l14 c14 k14 fun _ _ _ _ _ _ us hl => match us, hl with | [_], _ => rfl
  have Dlot_of : Def K mg "lot_of" slot_of ["text"] := def_mk X G a15 l15 c15 k15 fun _ _ _ _ _ _ us hl => match us, hl with | [_], _ => rfl
  have D_is_right : Def K mg "_is_right" s_is_right ["line", "at", "told"] := def_mk X G a16 l16 c16 k16 fun _ _ _ _ _ _ us hl => match us, hl with | [_, _, _], _ => rfl
  have D_size_of : Def K mg "_size_of" s_size_of ["line"] := def_mk X G a17 l17 c17 k17 fun _ _ _ _ _ _ us hl => match us, hl with | [_], _ => rfl
  have D_reading_of : Def K mg "_reading_of" s_reading_of ["line"] := def_mk X G a18 l18 c18 k18 fun _ _ _ _ _ _ us hl => match us, hl with | [_], _ => rfl
  have D_law_pot : Def K mg "_law_pot" s_law_pot ["_law_script", "_law_k"] := def_mk X G a19 l19 c19 k19 fun _ _ _ _ _ _ us hl => match us, hl with | [_, _], _ => rfl
  have D_law_draw : Def K mg "_law_draw" s_law_draw ["_law_pot_here", "_law_size"] := def_mk X G a20 l20 c20 k20 fun _ _ _ _ _ _ us hl => match us, hl with | [_, _], _ => rfl
  have D_law_pick : Def K mg "_law_pick" s_law_pick ["_law_pot_here", "_law_some"] := def_mk X G a21 l21 c21 k21 fun _ _ _ _ _ _ us hl => match us, hl with | [_, _], _ => rfl
  have D_law_text : Def K mg "_law_text" s_law_text ["_law_pot_here", "_law_most"] := def_mk X G a22 l22 c22 k22 fun _ _ _ _ _ _ us hl => match us, hl with | [_, _], _ => rfl
  have D_law_readings : Def K mg "_law_readings" s_law_readings ["_law_pot_here", "_law_many"] := def_mk X G a23 l23 c23 k23 fun _ _ _ _ _ _ us hl => match us, hl with | [_, _], _ => rfl
  have D_law_times : Def K mg "_law_times" s_law_times ["_law_readings_here"] := def_mk X G a24 l24 c24 k24 fun _ _ _ _ _ _ us hl => match us, hl with | [_], _ => rfl
  have D_law_sorted : Def K mg "_law_sorted" s_law_sorted ["_law_told_here"] := def_mk X G a25 l25 c25 k25 fun _ _ _ _ _ _ us hl => match us, hl with | [_], _ => rfl
  have D_law_number : Def K mg "_law_number" s_law_number ["_law_word", "_law_least", "_law_most"] := def_mk X G a26 l26 c26 k26 fun _ _ _ _ _ _ us hl => match us, hl with | [_, _, _], _ => rfl
  have D_law_letters : Def K mg "_law_letters" s_law_letters ["_law_word"] := def_mk X G a27 l27 c27 k27 fun _ _ _ _ _ _ us hl => match us, hl with | [_], _ => rfl
  have D_law_read : Def K mg "_law_read" s_law_read ["_law_text_here"] := def_mk X G a28 l28 c28 k28 fun _ _ _ _ _ _ us hl => match us, hl with | [_], _ => rfl
  have D_law_told : Def K mg "_law_told" s_law_told ["_law_size", "_law_told_here"] := def_mk X G a29 l29 c29 k29 fun _ _ _ _ _ _ us hl => match us, hl with | [_, _], _ => rfl
  have D_law_bent : Def K mg "_law_bent" s_law_bent ["_law_pot_here", "_law_text_here"] := def_mk X G a30 l30 c30 k30 fun _ _ _ _ _ _ us hl => match us, hl with | [_, _], _ => rfl
  have D_law_heard : Def K mg "_law_heard" s_law_heard ["_law_text_here"] := def_mk X G a31 l31 c31 k31 fun _ _ _ _ _ _ us hl => match us, hl with | [_], _ => rfl
  have D_law_text_right : Def K mg "_law_text_right" s_law_text_right ["_law_text_here"] := def_mk X G a32 l32 c32 k32 fun _ _ _ _ _ _ us hl => match us, hl with | [_], _ => rfl
  have D_law_told_texts : Def K mg "_law_told_texts" s_law_told_texts [] := def_mk X G a33 l33 c33 k33 fun _ _ _ _ _ _ us hl => match us, hl with | [], _ => rfl
  have Dlaw : Def K mg "law" slaw ["_law_script"] := def_mk X G a34 l34 c34 k34 fun _ _ _ _ _ _ us hl => match us, hl with | [_], _ => rfl
  refine ⟨PySem.W.fnOf "law" "law" (defArgs slaw) (defBody slaw) (defScope slaw) .none kV34 dc34 pm34 an34 cd34 ct34, fun s v => .of_eq rfl, fun base _ _ => ?_⟩
  have FE := fun_mk (st := sBadText___init__) lE cE kE
  have EX : ExcF l.prog w K mg base "line" "BadText" CE := excF_mk (st := sBadText___init__) ⟨⟨_, _, _, _, _, _, _, _, _, _, _, _, _, _, _, xO, xR⟩, xsa, xb, xt, xk⟩ (PySem.W.mg_of X G xC) xi xf FE (FE.binds (ps := ["self", "line"]) (fun _ _ _ _ _ _ us hl => match us, hl with | [_, _], _ => rfl)) sc_exc rfl ⟨xga, xgg, xb, xhd⟩ xno
  have EXe : PySem.W.exmOne K (.ref CE) (.ref CE) = some true := PySem.W.exm_ref xb xhd xt xss
  have kS : PySem.W.kitOne K (.ref C) (.type "list") = some false := by
    unfold PySem.W.kitOne
    rw [if_neg (by simp)]
    show (if PySem.W.kitMeta "list" = true then PySem.W.subIn K (.ref C) (.type "list") else none) = some false
    rw [if_pos (by decide +kernel)]
    exact ks
  have PX : PErr K mg CE CP := ⟨PySem.W.mg_of X G aP, iP⟩
  have H_law_pot := ok_law_pot (P := l.prog) (w := w) (base := base) D_law_pot B Glb WK EX EXe kS PX
  have H_law_draw := ok_law_draw (P := l.prog) (w := w) (base := base) D_law_draw B Glb WK EX EXe kS PX
  have H_law_pick := ok_law_pick (P := l.prog) (w := w) (base := base) D_law_pick B Glb WK EX EXe kS PX H_law_draw
  have H_law_text := ok_law_text (P := l.prog) (w := w) (base := base) D_law_text B Glb WK EX EXe kS PX H_law_draw H_law_pick
  have H_law_readings := ok_law_readings (P := l.prog) (w := w) (base := base) D_law_readings B Glb WK EX EXe kS PX H_law_text H_law_draw
  have H_law_sorted := ok_law_sorted (P := l.prog) (w := w) (base := base) D_law_sorted B Glb WK EX EXe kS PX
  have H_law_told := ok_law_told (P := l.prog) (w := w) (base := base) D_law_told B Glb WK EX EXe kS PX H_law_sorted
  have H_law_bent := ok_law_bent (P := l.prog) (w := w) (base := base) D_law_bent B Glb WK EX EXe kS PX H_law_draw H_law_pick
  have His_integer := okis_integer (P := l.prog) (w := w) (base := base) Dis_integer B Glb WK EX EXe kS PX
  have His_between := okis_between (P := l.prog) (w := w) (base := base) Dis_between B Glb WK EX EXe kS PX His_integer
  have His_size := okis_size (P := l.prog) (w := w) (base := base) Dis_size B Glb WK EX EXe kS PX His_between
  have Hneed_size := okneed_size (P := l.prog) (w := w) (base := base) Dneed_size B Glb WK EX EXe kS PX His_size
  have His_listed := okis_listed (P := l.prog) (w := w) (base := base) Dis_listed B Glb WK EX EXe kS PX
  have His_letter := okis_letter (P := l.prog) (w := w) (base := base) Dis_letter B Glb WK EX EXe kS PX
  have His_text := okis_text (P := l.prog) (w := w) (base := base) Dis_text B Glb WK EX EXe kS PX His_letter
  have His_times := okis_times (P := l.prog) (w := w) (base := base) Dis_times B Glb WK EX EXe kS PX His_between
  have Hare_readings := okare_readings (P := l.prog) (w := w) (base := base) Dare_readings B Glb WK EX EXe kS PX His_listed His_text His_times
  have H_times_together := ok_times_together (P := l.prog) (w := w) (base := base) D_times_together B Glb WK EX EXe kS PX
  have HLot___init__ := okLot___init__ (P := l.prog) (w := w) (base := base) DLot___init__ B Glb WK EX EXe kS PX Hneed_size Hare_readings H_times_together
  have Hlot_told := oklot_told (P := l.prog) (w := w) (base := base) Dlot_told B Glb WK EX EXe kS PX HLot___init__
  have His_digit := okis_digit (P := l.prog) (w := w) (base := base) Dis_digit B Glb WK EX EXe kS PX
  have Hcount_of := okcount_of (P := l.prog) (w := w) (base := base) Dcount_of B Glb WK EX EXe kS PX His_between His_digit
  have H_size_of := ok_size_of (P := l.prog) (w := w) (base := base) D_size_of B Glb WK EX EXe kS PX Hcount_of His_size
  have H_reading_of := ok_reading_of (P := l.prog) (w := w) (base := base) D_reading_of B Glb WK EX EXe kS PX Hcount_of His_between His_text
  have H_is_right := ok_is_right (P := l.prog) (w := w) (base := base) D_is_right B Glb WK EX EXe kS PX H_reading_of H_size_of
  have Hlot_of := oklot_of (P := l.prog) (w := w) (base := base) Dlot_of B Glb WK EX EXe kS PX Hlot_told H_size_of H_is_right H_reading_of
  have H_law_heard := ok_law_heard (P := l.prog) (w := w) (base := base) D_law_heard B Glb WK EX EXe kS PX Hlot_of
  have H_law_times := ok_law_times (P := l.prog) (w := w) (base := base) D_law_times B Glb WK EX EXe kS PX
  have Hneed_lot := okneed_lot (P := l.prog) (w := w) (base := base) Dneed_lot B Glb WK EX EXe kS PX
  have HLot_readings := okLot_readings (P := l.prog) (w := w) (base := base) DLot_readings B Glb WK EX EXe kS PX
  have HLot_size := okLot_size (P := l.prog) (w := w) (base := base) DLot_size B Glb WK EX EXe kS PX
  have Hlot_text := oklot_text (P := l.prog) (w := w) (base := base) Dlot_text B Glb WK EX EXe kS PX Hneed_lot HLot_readings HLot_size
  have H_law_number := ok_law_number (P := l.prog) (w := w) (base := base) D_law_number B Glb WK EX EXe kS PX
  have H_law_letters := ok_law_letters (P := l.prog) (w := w) (base := base) D_law_letters B Glb WK EX EXe kS PX
  have H_law_read := ok_law_read (P := l.prog) (w := w) (base := base) D_law_read B Glb WK EX EXe kS PX H_law_number H_law_letters
  have H_law_text_right := ok_law_text_right (P := l.prog) (w := w) (base := base) D_law_text_right B Glb WK EX EXe kS PX H_law_read H_law_heard Hlot_text HLot_size HLot_readings
  have H_law_told_texts := ok_law_told_texts (P := l.prog) (w := w) (base := base) D_law_told_texts B Glb WK EX EXe kS PX
  have HLot___eq__ := okLot___eq__ (P := l.prog) (w := w) (base := base) DLot___eq__ B Glb WK EX EXe kS PX
  have Hlaw := oklaw (P := l.prog) (w := w) (base := base) Dlaw B Glb WK EX EXe kS PX H_law_pot H_law_readings H_law_told H_law_bent H_law_heard H_law_draw H_law_times Hlot_text Hlot_of H_law_text_right H_law_told_texts HLot___eq__ HLot___init__
  obtain ⟨f, fd, O, m, k, b, F⟩ := Hlaw
  have e2 := m.symm.trans hfa
  cases e2
  rw [fd_is F l34] at O
  exact O
theorem walk {l : PySem.W.OpenLaw} {q : Program} {loose : List Str} {XP : (Str → Option Value) → Heap → Prop} {YP : World → Heap → Prop} {d : DefRec} {K : Params → PySem.W.Frag} (hn : l.most = some 63) (hdf : d.params.defaults = [])
    (hY : ∀ (w : World) (h : Heap), YP w h → (K w.params).In h)
    (F : ∀ (w : World) (mg : Str → Option Value) (fa : Addr) (h : Heap), (K w.params).In h → h.Ns mainGlobals mg → mg d.name = some (.ref fa) →
      ∃ fd : FuncData, (∀ (s : Shared) (u : Value), BindsTo s fd ⟨[u], []⟩ [("_law_script", u)]) ∧ ∀ base : Heap, (K w.params).In base → base.Ns mainGlobals mg → FnOk l.prog w (K w.params) mg base CX0 11 fa fd ["_law_script"] (splaw (K w.params) 0 0)) :
    PySem.W.WalkO q loose XP YP l.row.toRowW d [] (fun f vs => PySem.call f vs) :=
  L2.walk_of (n := 63) (k := 11) (x := "_law_script") (CX := fun _ => CX0) (sp := fun w => splaw (K w.params) 0 0) hn (by decide) hdf ⟨rfl, by decide, by decide⟩ hY F (fun _ _ a ns hl _ hS => ⟨a, ns, rfl, hS, hl, fun _ => rfl⟩) fun _ _ _ _ _ z => z
end My
open PySem PySem.W PyProof.Rows
set_option maxRecDepth 100000 in
set_option maxHeartbeats 0 in
theorem PySem.Challenge.cw_suretexts_k18_any_text_as_a_lot_holds : PySem.Challenge.rw_suretexts_k18_any_text_as_a_lot.Holds := by
  w_on; o_law; k_head; (case hw => w_witness2)
  k_fill
  refine My.walk (l := PySem.Challenge.rw_suretexts_k18_any_text_as_a_lot) rfl rfl (fun w h Y => PySem.W.kIn_of Y) ?F
  case F =>
    intro w mg fa h KX G hmg
    refine' My.all_mk KX G hmg ?aC ?aM0 ?iM0 ?lM0 ?cM0 ?kM0 ?aM1 ?iM1 ?lM1 ?cM1 ?kM1 ?aM2 ?gM2 ?tM2 ?rM2 ?lM2 ?cM2 ?kM2 ?aM3 ?iM3 ?lM3 ?cM3 ?kM3 ?a0 ?l0 ?c0 ?k0 ?a1 ?l1 ?c1 ?k1 ?a2 ?l2 ?c2 ?k2 ?a3 ?l3 ?c3 ?k3 ?a4 ?l4 ?c4 ?k4 ?a5 ?l5 ?c5 ?k5 ?a6 ?l6 ?c6 ?k6 ?a7 ?l7 ?c7 ?k7 ?a8 ?l8 ?c8 ?k8 ?a9 ?l9 ?c9 ?k9 ?a10 ?l10 ?c10 ?k10 ?a11 ?l11 ?c11 ?k11 ?a12 ?l12 ?c12 ?k12 ?a13 ?l13 ?c13 ?k13 ?a14 ?l14 ?c14 ?k14 ?a15 ?l15 ?c15 ?k15 ?a16 ?l16 ?c16 ?k16 ?a17 ?l17 ?c17 ?k17 ?a18 ?l18 ?c18 ?k18 ?a19 ?l19 ?c19 ?k19 ?a20 ?l20 ?c20 ?k20 ?a21 ?l21 ?c21 ?k21 ?a22 ?l22 ?c22 ?k22 ?a23 ?l23 ?c23 ?k23 ?a24 ?l24 ?c24 ?k24 ?a25 ?l25 ?c25 ?k25 ?a26 ?l26 ?c26 ?k26 ?a27 ?l27 ?c27 ?k27 ?a28 ?l28 ?c28 ?k28 ?a29 ?l29 ?c29 ?k29 ?a30 ?l30 ?c30 ?k30 ?a31 ?l31 ?c31 ?k31 ?a32 ?l32 ?c32 ?k32 ?a33 ?l33 ?c33 ?k33 ?a34 ?l34 ?c34 ?k34 ?pg ?hd ?po ?sa ?mk ?kc ?n0 ?n1 ?q1 ?q2 ?q3 ?q4 ?xC ?xO ?xR ?xsa ?xb ?xt ?xk ?xi ?xf ?lE ?cE ?kE ?xga ?xgg ?xhd ?xno ?xss ?ks ?w1 ?aP ?iP ?z0 ?z1 ?z2 ?z3 ?z4 ?z5 ?z6 ?z7 ?z8 ?z9 ?z10 ?z11 ?z12 ?z13 ?z14 ?v0 ?y0 ?y1 ?y2 ?y3
    (case aC => k_is)
    (case aM0 => k_is)
    (case iM0 => k_is)
    (case lM0 => k_is)
    (case cM0 => k_is)
    (case kM0 => k_is)
    (case aM1 => k_is)
    (case iM1 => k_is)
    (case lM1 => k_is)
    (case cM1 => k_is)
    (case kM1 => k_is)
    (case aM2 => k_is)
    (case gM2 => k_is)
    (case tM2 => k_is)
    (case rM2 => k_is)
    (case lM2 => k_is)
    (case cM2 => k_is)
    (case kM2 => k_is)
    (case aM3 => k_is)
    (case iM3 => k_is)
    (case lM3 => k_is)
    (case cM3 => k_is)
    (case kM3 => k_is)
    (case a0 => k_is)
    (case l0 => k_is)
    (case c0 => k_is)
    (case k0 => k_is)
    (case a1 => k_is)
    (case l1 => k_is)
    (case c1 => k_is)
    (case k1 => k_is)
    (case a2 => k_is)
    (case l2 => k_is)
    (case c2 => k_is)
    (case k2 => k_is)
    (case a3 => k_is)
    (case l3 => k_is)
    (case c3 => k_is)
    (case k3 => k_is)
    (case a4 => k_is)
    (case l4 => k_is)
    (case c4 => k_is)
    (case k4 => k_is)
    (case a5 => k_is)
    (case l5 => k_is)
    (case c5 => k_is)
    (case k5 => k_is)
    (case a6 => k_is)
    (case l6 => k_is)
    (case c6 => k_is)
    (case k6 => k_is)
    (case a7 => k_is)
    (case l7 => k_is)
    (case c7 => k_is)
    (case k7 => k_is)
    (case a8 => k_is)
    (case l8 => k_is)
    (case c8 => k_is)
    (case k8 => k_is)
    (case a9 => k_is)
    (case l9 => k_is)
    (case c9 => k_is)
    (case k9 => k_is)
    (case a10 => k_is)
    (case l10 => k_is)
    (case c10 => k_is)
    (case k10 => k_is)
    (case a11 => k_is)
    (case l11 => k_is)
    (case c11 => k_is)
    (case k11 => k_is)
    (case a12 => k_is)
    (case l12 => k_is)
    (case c12 => k_is)
    (case k12 => k_is)
    (case a13 => k_is)
    (case l13 => k_is)
    (case c13 => k_is)
    (case k13 => k_is)
    (case a14 => k_is)
    (case l14 => k_is)
    (case c14 => k_is)
    (case k14 => k_is)
    (case a15 => k_is)
    (case l15 => k_is)
    (case c15 => k_is)
    (case k15 => k_is)
    (case a16 => k_is)
    (case l16 => k_is)
    (case c16 => k_is)
    (case k16 => k_is)
    (case a17 => k_is)
    (case l17 => k_is)
    (case c17 => k_is)
    (case k17 => k_is)
    (case a18 => k_is)
    (case l18 => k_is)
    (case c18 => k_is)
    (case k18 => k_is)
    (case a19 => k_is)
    (case l19 => k_is)
    (case c19 => k_is)
    (case k19 => k_is)
    (case a20 => k_is)
    (case l20 => k_is)
    (case c20 => k_is)
    (case k20 => k_is)
    (case a21 => k_is)
    (case l21 => k_is)
    (case c21 => k_is)
    (case k21 => k_is)
    (case a22 => k_is)
    (case l22 => k_is)
    (case c22 => k_is)
    (case k22 => k_is)
    (case a23 => k_is)
    (case l23 => k_is)
    (case c23 => k_is)
    (case k23 => k_is)
    (case a24 => k_is)
    (case l24 => k_is)
    (case c24 => k_is)
    (case k24 => k_is)
    (case a25 => k_is)
    (case l25 => k_is)
    (case c25 => k_is)
    (case k25 => k_is)
    (case a26 => k_is)
    (case l26 => k_is)
    (case c26 => k_is)
    (case k26 => k_is)
    (case a27 => k_is)
    (case l27 => k_is)
    (case c27 => k_is)
    (case k27 => k_is)
    (case a28 => k_is)
    (case l28 => k_is)
    (case c28 => k_is)
    (case k28 => k_is)
    (case a29 => k_is)
    (case l29 => k_is)
    (case c29 => k_is)
    (case k29 => k_is)
    (case a30 => k_is)
    (case l30 => k_is)
    (case c30 => k_is)
    (case k30 => k_is)
    (case a31 => k_is)
    (case l31 => k_is)
    (case c31 => k_is)
    (case k31 => k_is)
    (case a32 => k_is)
    (case l32 => k_is)
    (case c32 => k_is)
    (case k32 => k_is)
    (case a33 => k_is)
    (case l33 => k_is)
    (case c33 => k_is)
    (case k33 => k_is)
    (case a34 => k_is)
    (case l34 => k_is)
    (case c34 => k_is)
    (case k34 => k_is)
    (case pg => k_is)
    (case hd => k_is)
    (case po => k_is)
    (case sa => k_is)
    (case mk => k_is)
    (case kc => k_is)
    (case n0 => k_is)
    (case n1 => k_is)
    (case q1 => k_is)
    (case q2 => k_is)
    (case q3 => k_is)
    (case q4 => k_is)
    (case xC => k_is)
    (case xO => k_is)
    (case xR => rfl)
    (case xsa => k_is)
    (case xb => k_is)
    (case xt => k_is)
    (case xk => k_is)
    (case xi => k_is)
    (case xf => k_is)
    (case lE => k_is)
    (case cE => k_is)
    (case kE => k_is)
    (case xga => k_is)
    (case xgg => k_is)
    (case xhd => k_is)
    (case xno => k_is)
    (case xss => k_is)
    (case ks => k_is)
    (case w1 => k_is)
    (case aP => k_is)
    (case iP => k_is)
    (case z0 => k_is)
    (case z1 => k_is)
    (case z2 => k_is)
    (case z3 => k_is)
    (case z4 => k_is)
    (case z5 => k_is)
    (case z6 => k_is)
    (case z7 => k_is)
    (case z8 => k_is)
    (case z9 => k_is)
    (case z10 => k_is)
    (case z11 => k_is)
    (case z12 => k_is)
    (case z13 => k_is)
    (case z14 => k_is)
    (case v0 => k_is)
    (case y0 => k_is)
    (case y1 => k_is)
    (case y2 => k_is)
    (case y3 => k_is)
