import PyProof.Rows.All
import Wide.All
import OpenK.AllK
import Wide.FinOn
import HandS.ForMost
import HandS.IsInst
import HandS.SortInts
import HandS.Walk
import HandS.Property
import HandS.Style
import PyProof.ListRange
import HandS.Conv
import HandS.OwnEq
import PyProof.InstNe
import KE.GoesMore
import KE.GoesEnum
import HandS.Iter
import HandS.DictTup
import KE.SortData
import KE.KDictWalk
import KE.DataMinMax
import PyProof.Rows.StrStep
import HandS.Deep
import HandS.ForExc
import HandS.TryOnly
import HandS.ExcOwn
import HandS.ExcIs
import HandS.MakeKwOnly
import HandS.ExcInit
import HandS.ExcField
import HandS.DictComp
import HandS.Small
import HandS.Lambda
import HandS.TryMany
import HandS.Set
import HandS.Strs
import HandS.SetFor
import HandS.Zip
import PyProof.Rows.ReprOcc
import HandS.Dict
import KE.KDictDisplayH
import PyProof.DictTable
import HandS.EndTab
import PySem.Challenge.RW_suretexts_k20_webs_and_parts_refused
set_option Elab.async false
set_option maxRecDepth 100000
set_option linter.all false
namespace My
/-! ### reading round and round -/
def rd (l : List Nat) (p n : Nat) : List Nat := (List.range n).map fun k => l.getD ((p + k) % l.length) 0
theorem rd_len (l : List Nat) (p n : Nat) : (rd l p n).length = n := by simp [rd]
theorem rd_zero (l : List Nat) (p : Nat) : rd l p 0 = [] := rfl
theorem rd_succ (l : List Nat) (p n : Nat) : rd l p (n + 1) = rd l p n ++ [l.getD ((p + n) % l.length) 0] := by
  simp [rd, List.range_succ]
theorem rd_get (l : List Nat) (p n k : Nat) (h : k < n) : (rd l p n)[k]? = some (l.getD ((p + k) % l.length) 0) := by
  simp [rd, h]
theorem rd_drop (l : List Nat) (p n k : Nat) : (rd l p n).drop k = rd l (p + k) (n - k) := by
  apply List.ext_getElem?
  intro i
  rw [List.getElem?_drop]
  by_cases h : k + i < n
  · rw [rd_get _ _ _ _ h, rd_get _ _ _ _ (by omega), Nat.add_assoc]
  · rw [List.getElem?_eq_none (by rw [rd_len]; omega), List.getElem?_eq_none (by rw [rd_len]; omega)]
theorem rd_mod (l : List Nat) (p n : Nat) : rd l (p % l.length) n = rd l p n := by
  unfold rd
  apply List.map_congr_left
  intro k _
  rw [Nat.mod_add_mod]
theorem rd_self (l : List Nat) : rd l 0 l.length = l := by
  apply List.ext_getElem?
  intro i
  by_cases h : i < l.length
  · rw [rd_get _ _ _ _ h, Nat.zero_add, Nat.mod_eq_of_lt h, List.getElem?_eq_getElem h, List.getD_eq_getElem?_getD, List.getElem?_eq_getElem h]
    rfl
  · rw [List.getElem?_eq_none (by rw [rd_len]; omega), List.getElem?_eq_none (by omega)]
/-- turned -/
theorem rd_turn (l : List Nat) (p : Nat) (h : p < l.length) : rd l p l.length = l.drop p ++ l.take p := by
  apply List.ext_getElem?
  intro i
  by_cases hi : i < l.length
  · rw [rd_get _ _ _ _ hi]
    by_cases h2 : i < l.length - p
    · rw [List.getElem?_append_left (by rw [List.length_drop]; exact h2), List.getElem?_drop, Nat.mod_eq_of_lt (by omega), List.getElem?_eq_getElem (by omega), List.getD_eq_getElem?_getD, List.getElem?_eq_getElem (by omega)]
      rfl
    · rw [List.getElem?_append_right (by rw [List.length_drop]; omega), List.length_drop, List.getElem?_take_of_lt (by omega)]
      have e : (p + i) % l.length = i - (l.length - p) := by
        rw [Nat.mod_eq_sub_mod (by omega), Nat.mod_eq_of_lt (by omega)]
        omega
      rw [e, List.getElem?_eq_getElem (by omega), List.getD_eq_getElem?_getD, List.getElem?_eq_getElem (by omega)]
      rfl
  · rw [List.getElem?_eq_none (by rw [rd_len]; omega), List.getElem?_eq_none (by rw [List.length_append, List.length_drop, List.length_take]; omega)]
/-- reading from a turned ring -/
theorem rd_turned (l : List Nat) (b p n : Nat) (hl : 0 < l.length) : rd (rd l b l.length) p n = rd l (b + p) n := by
  unfold rd
  apply List.map_congr_left
  intro k _
  have e : ((List.range l.length).map fun k => l.getD ((b + k) % l.length) 0).length = l.length := by simp
  rw [e]
  have h2 : (p + k) % l.length < l.length := Nat.mod_lt _ hl
  rw [List.getD_eq_getElem?_getD, List.getElem?_map, List.getElem?_range h2]
  show l.getD ((b + (p + k) % l.length) % l.length) 0 = _
  rw [Nat.add_mod_mod, Nat.add_assoc]

/-! ### beginnings that are endings -/
def Pre (w t : List Nat) (k : Nat) : Prop := k ≤ w.length ∧ w.take k <:+ t
def Longest (w t : List Nat) (k : Nat) : Prop := Pre w t k ∧ ∀ k', Pre w t k' → k' ≤ k
def IsLB (p : List Nat) (b : Nat) : Prop := b < p.length ∧ p.take b <:+ p ∧ ∀ b', b' < p.length → p.take b' <:+ p → b' ≤ b
def At (w t : List Nat) (c k : Nat) : Prop := Pre w t k ∧ ∀ k', Pre w t k' → w[k']? = some c → k' ≤ k
theorem suff_one {a t : List Nat} {x c : Nat} : a ++ [x] <:+ t ++ [c] ↔ a <:+ t ∧ x = c := by
  constructor
  · rintro ⟨u, hu⟩
    rw [← List.append_assoc] at hu
    have h := List.append_inj' hu rfl
    exact ⟨⟨u, h.1⟩, by simpa using h.2⟩
  · rintro ⟨⟨u, hu⟩, rfl⟩
    exact ⟨u, by rw [← hu, List.append_assoc]⟩
theorem pre_succ {w t : List Nat} {c k : Nat} : Pre w (t ++ [c]) (k + 1) ↔ Pre w t k ∧ w[k]? = some c := by
  unfold Pre
  constructor
  · rintro ⟨h1, h2⟩
    have hk : k < w.length := by omega
    rw [List.take_succ_eq_append_getElem hk, suff_one] at h2
    exact ⟨⟨by omega, h2.1⟩, by rw [List.getElem?_eq_getElem hk, h2.2]⟩
  · rintro ⟨⟨h1, h2⟩, h3⟩
    have hk : k < w.length := by
      rw [List.getElem?_eq_some_iff] at h3
      exact h3.1
    rw [List.take_succ_eq_append_getElem hk, suff_one]
    rw [List.getElem?_eq_getElem hk] at h3
    exact ⟨by omega, h2, Option.some.inj h3⟩
theorem pre_zero (w t : List Nat) : Pre w t 0 := ⟨Nat.zero_le _, by simp⟩
theorem at_start {w t : List Nat} {c k : Nat} (h : Longest w t k) : At w t c k := ⟨h.1, fun k' h' _ => h.2 k' h'⟩
theorem at_fall {w t : List Nat} {c k b : Nat} (h : At w t c k) (hne : w[k]? ≠ some c) (hb : IsLB (w.take k) b) : At w t c b := by
  obtain ⟨h1, h2⟩ := h
  obtain ⟨b1, b2, b3⟩ := hb
  have lk : (w.take k).length = k := by rw [List.length_take]; have := h1.1; omega
  rw [lk] at b1 b3
  have tk : ∀ j, j ≤ k → (w.take k).take j = w.take j := fun j hj => by rw [List.take_take, Nat.min_eq_left hj]
  refine ⟨⟨by have := h1.1; omega, ?_⟩, fun k' p' e' => ?_⟩
  · rw [← tk b (by omega)]
    exact b2.trans h1.2
  · have l1 := h2 k' p' e'
    have l2 : k' ≠ k := by rintro rfl; exact hne e'
    have l3 : k' < k := by omega
    refine b3 k' l3 ?_
    rw [tk k' (by omega)]
    refine List.suffix_of_suffix_length_le p'.2 h1.2 ?_
    rw [List.length_take, List.length_take]
    have := h1.1
    omega
theorem at_hit {w t : List Nat} {c k : Nat} (h : At w t c k) (he : w[k]? = some c) : Longest w (t ++ [c]) (k + 1) := by
  refine ⟨pre_succ.mpr ⟨h.1, he⟩, fun k' p' => ?_⟩
  cases k' with
  | zero => omega
  | succ j =>
    have q := pre_succ.mp p'
    have := h.2 j q.1 q.2
    omega
theorem at_miss {w t : List Nat} {c : Nat} (h : At w t c 0) (he : w[0]? ≠ some c) : Longest w (t ++ [c]) 0 := by
  refine ⟨pre_zero _ _, fun k' p' => ?_⟩
  cases k' with
  | zero => omega
  | succ j =>
    have q := pre_succ.mp p'
    have l := h.2 j q.1 q.2
    have e : j = 0 := by omega
    subst e
    exact absurd q.2 he
theorem longest_nil (w : List Nat) : Longest w [] 0 := by
  refine ⟨pre_zero _ _, fun k' p' => ?_⟩
  have h := List.suffix_nil.mp p'.2
  have h2 : (w.take k').length = 0 := by rw [h]; rfl
  rw [List.length_take] at h2
  have := p'.1
  omega
theorem longest_le {w t : List Nat} {k : Nat} (h : Longest w t k) : k ≤ t.length := by
  have h1 := h.1.2.length_le
  rw [List.length_take] at h1
  have := h.1.1
  omega
/-- the longest beginning that ends the letters behind the first one is the longest border -/
theorem lb_of_longest {w : List Nat} {i k : Nat} (hi : i < w.length) (h : Longest w ((w.drop 1).take i) k) : IsLB (w.take (i + 1)) k := by
  have hk := longest_le h
  have ht : ((w.drop 1).take i).length = i := by rw [List.length_take, List.length_drop]; omega
  rw [ht] at hk
  have hl : (w.take (i + 1)).length = i + 1 := by rw [List.length_take]; omega
  have tk : ∀ j, j ≤ i + 1 → (w.take (i + 1)).take j = w.take j := fun j hj => by rw [List.take_take, Nat.min_eq_left hj]
  obtain ⟨a, r, rfl⟩ : ∃ a r, w = a :: r := by
    cases w with
    | nil => simp at hi
    | cons a r => exact ⟨a, r, rfl⟩
  have e : (a :: r).take (i + 1) = a :: ((a :: r).drop 1).take i := by simp
  refine ⟨by omega, ?_, fun b' hb' hs => ?_⟩
  · rw [tk k (by omega), e]
    exact h.1.2.trans (List.suffix_cons _ _)
  · rw [hl] at hb'
    refine h.2 b' ⟨by omega, ?_⟩
    rw [tk b' (by omega), e, List.suffix_cons_iff] at hs
    rcases hs with hs | hs
    · have hq := congrArg List.length hs
      rw [List.length_take, ← e, hl] at hq
      omega
    · exact hs
theorem lb_one {w : List Nat} (h : 0 < w.length) : IsLB (w.take 1) 0 := lb_of_longest h (by simpa using longest_nil w)
theorem lb_unique {p : List Nat} {a b : Nat} (h1 : IsLB p a) (h2 : IsLB p b) : a = b := by
  have := h1.2.2 b h2.1 h2.2.1
  have := h2.2.2 a h1.1 h1.2.1
  omega
/-- the list of the longest borders -/
def Bords (w : List Nat) (L : List Nat) : Prop := L.length = w.length ∧ ∀ j, j < w.length → ∃ b, L[j]? = some b ∧ IsLB (w.take (j + 1)) b
theorem bords_unique {w A B : List Nat} (h1 : Bords w A) (h2 : Bords w B) : A = B := by
  apply List.ext_getElem?
  intro i
  by_cases h : i < w.length
  · obtain ⟨a, ea, la⟩ := h1.2 i h
    obtain ⟨b, eb, lb⟩ := h2.2 i h
    rw [ea, eb, lb_unique la lb]
  · rw [List.getElem?_eq_none (by rw [h1.1]; omega), List.getElem?_eq_none (by rw [h2.1]; omega)]
/-- some first ones of them -/
def BordsTo (w : List Nat) (n : Nat) (L : List Nat) : Prop := L.length = n ∧ ∀ j, j < n → ∃ b, L[j]? = some b ∧ IsLB (w.take (j + 1)) b
theorem bordsTo_one {w : List Nat} (h : 0 < w.length) : BordsTo w 1 [0] := by
  refine ⟨rfl, fun j hj => ?_⟩
  have e : j = 0 := by omega
  subst e
  exact ⟨0, rfl, lb_one h⟩
theorem bordsTo_succ {w L : List Nat} {i k : Nat} (hi : i < w.length) (hB : BordsTo w i L) (h : Longest w ((w.drop 1).take i) k) : BordsTo w (i + 1) (L ++ [k]) := by
  refine ⟨by rw [List.length_append, hB.1]; rfl, fun j hj => ?_⟩
  by_cases hji : j < i
  · obtain ⟨b, e, l⟩ := hB.2 j hji
    exact ⟨b, by rw [List.getElem?_append_left (by rw [hB.1]; exact hji)]; exact e, l⟩
  · have e : j = i := by omega
    subst e
    refine ⟨k, ?_, lb_of_longest hi h⟩
    rw [List.getElem?_append_right (by rw [hB.1]; omega), hB.1, Nat.sub_self]
    rfl
theorem bordsTo_at {w L : List Nat} {n k : Nat} (hB : BordsTo w n L) (h0 : 0 < k) (hk : k ≤ n) : ∃ b, L[k - 1]? = some b ∧ IsLB (w.take k) b ∧ b < k := by
  obtain ⟨b, e, l⟩ := hB.2 (k - 1) (by omega)
  rw [show k - 1 + 1 = k by omega] at l
  refine ⟨b, e, l, ?_⟩
  have := l.1
  rw [List.length_take] at this
  omega
theorem bords_of {w L : List Nat} : BordsTo w w.length L ↔ Bords w L := Iff.rfl

/-! ### a word begins at a place -/
def due (l w : List Nat) : List Nat := (List.range l.length).filter fun p => rd l p w.length == w
theorem mem_due {l w : List Nat} {p : Nat} : p ∈ due l w ↔ p < l.length ∧ rd l p w.length = w := by
  simp [due]
/-- of the first n letters read -/
def dueTo (l w : List Nat) (n : Nat) : List Nat := (List.range n).filter fun p => rd l p w.length == w
theorem dueTo_all (l w : List Nat) : dueTo l w l.length = due l w := rfl
theorem dueTo_succ_yes {l w : List Nat} {n : Nat} (h : rd l n w.length = w) : dueTo l w (n + 1) = dueTo l w n ++ [n] := by
  simp [dueTo, List.range_succ, List.filter_append, h]
theorem dueTo_succ_no {l w : List Nat} {n : Nat} (h : ¬ rd l n w.length = w) : dueTo l w (n + 1) = dueTo l w n := by
  simp [dueTo, List.range_succ, List.filter_append, h]
/-- the whole word was just read -/
theorem longest_full {l w : List Nat} {n k : Nat} (h : Longest w (rd l 0 n) k) : k = w.length ↔ w.length ≤ n ∧ rd l (n - w.length) w.length = w := by
  have key : w <:+ rd l 0 n ↔ w.length ≤ n ∧ rd l (n - w.length) w.length = w := by
    constructor
    · intro hs
      have hl := hs.length_le
      rw [rd_len] at hl
      refine ⟨hl, ?_⟩
      have e := List.suffix_iff_eq_drop.mp hs
      rw [rd_len, rd_drop, Nat.zero_add, show n - (n - w.length) = w.length by omega] at e
      exact e.symm
    · rintro ⟨hl, e⟩
      rw [List.suffix_iff_eq_drop, rd_len, rd_drop, Nat.zero_add, show n - (n - w.length) = w.length by omega]
      exact e.symm
  rw [← key]
  constructor
  · rintro rfl
    have := h.1.2
    rw [List.take_length] at this
    exact this
  · intro hs
    have h1 := h.1.1
    have h2 := h.2 w.length ⟨Nat.le_refl _, by rw [List.take_length]; exact hs⟩
    omega

/-! ### the period -/
theorem getD_lt {l : List Nat} {i : Nat} (h : i < l.length) : l[i]? = some (l.getD i 0) := by
  rw [List.getD_eq_getElem?_getD, List.getElem?_eq_getElem h]
  rfl
theorem line_period {l : List Nat} {b : Nat} (h : IsLB l b) (i : Nat) (hi : i + (l.length - b) < l.length) : l.getD (i + (l.length - b)) 0 = l.getD i 0 := by
  have hb := h.1
  have e := List.suffix_iff_eq_drop.mp h.2.1
  have hl : (l.take b).length = b := by rw [List.length_take]; omega
  rw [hl] at e
  have e2 := congrArg (fun z : List Nat => z[i]?) e
  simp only [List.getElem?_take, List.getElem?_drop] at e2
  rw [if_pos (by omega)] at e2
  rw [List.getD_eq_getElem?_getD, List.getD_eq_getElem?_getD, e2, Nat.add_comm]
theorem line_mult {l : List Nat} {s : Nat} (h : ∀ i, i + s < l.length → l.getD (i + s) 0 = l.getD i 0) : ∀ (m i : Nat), i + m * s < l.length → l.getD (i + m * s) 0 = l.getD i 0
  | 0, i, _ => by simp
  | m + 1, i, hi => by
    have e : i + (m + 1) * s = (i + m * s) + s := by rw [Nat.succ_mul]; omega
    rw [e] at hi ⊢
    rw [h _ hi]
    exact line_mult h m i (by omega)
theorem round_period {l : List Nat} {s : Nat} (_hs : 0 < s) (hsl : s ≤ l.length) (hd : l.length % s = 0) (h : ∀ i, i + s < l.length → l.getD (i + s) 0 = l.getD i 0) (i : Nat) (hi : i < l.length) : l.getD ((i + s) % l.length) 0 = l.getD i 0 := by
  by_cases hlt : i + s < l.length
  · rw [Nat.mod_eq_of_lt hlt]
    exact h i hlt
  · have e1 : (i + s) % l.length = i + s - l.length := by
      rw [Nat.mod_eq_sub_mod (by omega), Nat.mod_eq_of_lt (by omega)]
    rw [e1]
    obtain ⟨q, hq⟩ : ∃ q, l.length = s * q := ⟨l.length / s, by rw [Nat.mul_div_cancel' (Nat.dvd_of_mod_eq_zero hd)]⟩
    have hq0 : 0 < q := by
      rcases Nat.eq_zero_or_pos q with z | z
      · subst z; omega
      · exact z
    obtain ⟨r, rfl⟩ : ∃ r, q = r + 1 := ⟨q - 1, by omega⟩
    have e2 : l.length = r * s + s := by rw [hq, Nat.mul_succ, Nat.mul_comm]
    have e3 : i = (i + s - l.length) + r * s := by omega
    have := line_mult h r (i + s - l.length) (by omega)
    rw [← e3] at this
    exact this.symm
/-- the told period -/
def per (l : List Nat) (b : Nat) : Nat := if l.length % (l.length - b) = 0 then l.length - b else l.length
theorem per_turns {l : List Nat} {b : Nat} (h : IsLB l b) (i : Nat) (hi : i < l.length) : l.getD ((i + per l b) % l.length) 0 = l.getD i 0 := by
  have hb := h.1
  unfold per
  split
  · exact round_period (by omega) (by omega) (by assumption) (fun j hj => line_period h j hj) i hi
  · rw [Nat.add_mod_right, Nat.mod_eq_of_lt hi]
theorem rd_per {l : List Nat} {b : Nat} (h : IsLB l b) (p n : Nat) : rd l (p + per l b) n = rd l p n := by
  have hb := h.1
  unfold rd
  apply List.map_congr_left
  intro k _
  rw [show p + per l b + k = (p + k) + per l b by omega, ← Nat.mod_add_mod]
  rw [per_turns h ((p + k) % l.length) (Nat.mod_lt _ (by omega))]
theorem per_pos {l : List Nat} {b : Nat} (h : IsLB l b) : 0 < per l b ∧ per l b ≤ l.length := by
  have hb := h.1
  unfold per
  split <;> omega

/-! ### rising lists of the same numbers are one list -/
theorem rising_ext : ∀ {a b : List Int}, a.Pairwise (· < ·) → b.Pairwise (· < ·) → (∀ x, x ∈ a ↔ x ∈ b) → a = b
  | [], [], _, _, _ => rfl
  | [], y :: ys, _, _, h => by have := (h y).mpr (by simp); simp at this
  | x :: xs, [], _, _, h => by have := (h x).mp (by simp); simp at this
  | x :: xs, y :: ys, ha, hb, h => by
    rw [List.pairwise_cons] at ha hb
    have e : x = y := by
      have h1 := (h x).mp (by simp)
      have h2 := (h y).mpr (by simp)
      rw [List.mem_cons] at h1 h2
      rcases h1 with h1 | h1
      · exact h1
      · rcases h2 with h2 | h2
        · exact h2.symm
        · have := ha.1 y h2
          have := hb.1 x h1
          omega
    subst e
    congr 1
    refine rising_ext ha.2 hb.2 fun z => ?_
    constructor
    · intro hz
      have := (h z).mp (List.mem_cons_of_mem _ hz)
      rw [List.mem_cons] at this
      rcases this with rfl | this
      · have := ha.1 _ hz; omega
      · exact this
    · intro hz
      have := (h z).mpr (List.mem_cons_of_mem _ hz)
      rw [List.mem_cons] at this
      rcases this with rfl | this
      · have := hb.1 _ hz; omega
      · exact this
theorem rising_of {s : List Int} (h : s.Pairwise (· ≤ ·)) (n : s.Nodup) : s.Pairwise (· < ·) := by
  have := h.and n
  exact this.imp fun ⟨h1, h2⟩ => by omega
/-- sorted, and the same numbers, none twice: that is it -/
theorem sorted_is {s m d : List Int} (hp : List.Perm s m) (hs : s.Pairwise (· ≤ ·)) (hn : m.Nodup) (hd : d.Pairwise (· < ·)) (h : ∀ x, x ∈ m ↔ x ∈ d) : s = d := by
  refine rising_ext (rising_of hs (hp.nodup_iff.mpr hn)) hd fun x => ?_
  rw [hp.mem_iff]
  exact h x
theorem due_rising (l w : List Nat) : ((due l w).map fun n : Nat => (n : Int)).Pairwise (· < ·) := by
  rw [List.pairwise_map]
  refine List.Pairwise.imp (fun {a b} (h : a < b) => by omega) ?_
  exact List.Pairwise.filter _ List.pairwise_lt_range
end My
namespace My
open PySem L2 PyProof.Rows
/-- a text by its letters -/
abbrev T (l : List Nat) : V := .str ⟨l.toArray⟩
section
variable {X : Cx}
theorem mul_flat (l : List Nat) (n : Nat) : ((List.replicate n l.toArray).foldl (· ++ ·) (#[] : Array Nat)) = (List.replicate n l).flatten.toArray := by
  have h : ∀ (m : Nat) (acc : List Nat), (List.replicate m l.toArray).foldl (· ++ ·) acc.toArray = (acc ++ (List.replicate m l).flatten).toArray := by
    intro m
    induction m with
    | zero => intro acc; simp
    | succ m ih =>
      intro acc
      rw [List.replicate_succ, List.foldl_cons]
      have e : acc.toArray ++ l.toArray = (acc ++ l).toArray := by simp
      rw [e, ih, List.replicate_succ, List.flatten_cons, List.append_assoc]
  have := h n []
  simpa using this
theorem op_mul_str : OpR X (binaryOp .Mult) (fun x y H Q => ∃ l n, x = T l ∧ y = .int (n : Nat) ∧ 1 ≤ n ∧ n ≤ 1000 ∧ l.length ≤ 1000 ∧ Q (T (List.replicate n l).flatten) H) := by
  intro pins s σ H x y v u Q I rx ry h
  obtain ⟨l, n, rfl, rfl, h1, h2, h3, q⟩ := h
  obtain ⟨t, rfl⟩ := rx
  obtain ⟨t', rfl⟩ := ry
  have hlen : (⟨l.toArray⟩ : Str).length = l.length := by simp [Str.length]
  have ok : MulOk ⟨l.toArray⟩ (n : Int) := by
    refine ⟨?_, fun _ _ => ?_, fun _ _ => ?_⟩
    · have a1 : decide ((n : Int) < -(2 ^ 63 : Int)) = false := decide_eq_false (by omega)
      have a2 : decide ((n : Int) ≥ 2 ^ 63) = false := decide_eq_false (by omega)
      rw [a1, a2]
      rfl
    · rw [hlen]
      have : (1000000 : Int) ≤ (2 ^ 63 - 1) / (n : Int) := by
        rw [Int.le_ediv_iff_mul_le (by omega)]
        omega
      omega
    · rw [hlen]
      have e : (n : Int).toNat = n := by omega
      rw [e]
      have : l.length * n ≤ 1000 * 1000 := Nat.mul_le_mul h3 h2
      have z : (1000000 : Nat) ≤ sizeLine := by decide
      simp [Builtin.Str.tooLong]
      omega
  refine SB.mul ok fun t'' k => ?_
  have em : Txt.mul ⟨l.toArray⟩ (n : Int) = ⟨(List.replicate n l).flatten.toArray⟩ := by
    unfold Txt.mul
    rw [if_neg (by omega)]
    split
    · rename_i c
      rw [hlen] at c
      simp at c
      rcases c with c | c
      · have : n = 1 := by omega
        subst this
        simp
      · subst c
        simp
    · have e : (n : Int).toNat = n := by omega
      rw [e]
      exact congrArg Str.mk (mul_flat l n)
  rw [em]
  exact ⟨.str _, H, I.tok _, ⟨_, rfl⟩, q⟩
theorem call_repr_bl : CallR X (.builtin "repr") (fun xs H Q => ∃ b, xs = [.bl b] ∧ Q (.str (if b then "True" else "False")) H) := by
  intro pins s σ H xs us Q I r h
  obtain ⟨b, rfl, q⟩ := h
  obtain ⟨u, rfl, e⟩ := vals1 r
  cases e
  exact PySem.P.repr_of_bool ⟨.str _, H, I.tok _, ⟨_, rfl⟩, q⟩
/-- a module's constant that is an int -/
theorem pe_globI {x : Str} {n : Int} {pos : Pos} (h : ∃ t, X.mg x = some (.int n t)) (hg : Gl X x := by rfl) (hd : (x == ("__debug__" : Str)) = false := by decide) : PE X (.Name x pos) (tC (.int n)) := by
  obtain ⟨t, e⟩ := h
  exact pe_glob (v := .int n) hg e ⟨t, rfl⟩ hd
variable {CX : CXT} {k : Nat} {f : Addr} {fd : FuncData} {ps ks : List Str} {sp : Sp} {E : XK} {x : Str} {p pos : Pos} {kws : List Keyword} {tk : TA} {g : List Value → List Value → List Value} {gV : List V → List V → List V}
/-- f(a=.., b=..) -/
theorem pe_callKK (F : FnOk X.prog X.w X.K X.mg X.base CX k f fd ps sp) (hr : Room k X.A) (hg : Gl X x) (hm : X.mg x = some (.ref f)) (hk : PySem.W.keepIn X.K (.ref f) = true) (hb : KBinds X.K fd ps ks g gV) (hx : Passes CX X E)
    (hkw : PK X kws tk) (hall : (backToKw pos (keywordEach kws X.env)).all (·.1.isSome) = true := by rfl) (hks : (backToKw pos (keywordEach kws X.env)).filterMap (·.1) = ks := by rfl)
    (hdb : (x == ("__debug__" : Str)) = false := by decide)
    (hpl : ((backTo pos (starEach [] X.env)).any (·.1) || (backToKw pos (keywordEach kws X.env)).any (·.1.isNone)) = false := by rfl) :
    PE X (.Call (.Name x p) [] kws pos) (tCallK sp gV E tNil tk) := by
  refine ⟨fun pins s σ H Q I h => ?_⟩
  refine wpAny_Call_Name_kw (ld_glob I hg hm ?_ hdb)
  refine PySem.W.callWith_KW0 (h₀ := X.base) I.ok.mod.kin hk hall (thn (hkw.run pos pins s σ H _ I h) fun ws s2 ⟨zs, H2, I2, rz, q2⟩ => ⟨I2.kIn, ?_⟩) hpl
  rw [hks]
  exact run_fnk F hr hb hx I2 .nil rz q2
end
/-! ### a def that stands, and one that keeps a promise -/
def Def (K : PySem.W.Frag) (mg : Str → Option Value) (x : Str) (st : Stmt) (ps : List Str) : Prop := ∃ (f : Addr) (fd : FuncData), Fun K x x st f fd ∧ mg x = some (.ref f) ∧ Binds K fd ps []
section
variable {P : Program} {w : World} {K : PySem.W.Frag} {mg : Str → Option Value} {base : Heap}
def Good (P : Program) (w : World) (K : PySem.W.Frag) (mg : Str → Option Value) (base : Heap) (x : Str) (st : Stmt) (ps : List Str) (k : Nat) (sp : Sp) : Prop := ∃ (f : Addr) (fd : FuncData), FnOk P w K mg base CX0 k f fd ps sp ∧ mg x = some (.ref f) ∧ PySem.W.keepIn K (.ref f) = true ∧ Binds K fd ps [] ∧ Fun K x x st f fd
theorem Def.good {x : Str} {st : Stmt} {ps : List Str} {k : Nat} {sp : Sp} (D : Def K mg x st ps) (h : ∀ f fd, Fun K x x st f fd → FnOk P w K mg base CX0 k f fd ps sp) : Good P w K mg base x st ps k sp := by
  obtain ⟨f, fd, F, m, b⟩ := D
  exact ⟨f, fd, h f fd F, m, F.kp, b, F⟩
theorem def_mk {h : Heap} (X : K.In h) (G : h.Ns mainGlobals mg) {x : Str} {st : Stmt} {ps : List Str} {f : Addr} {oc : Value} {od an : Option Addr} {osl : Array (Option Value)} {kV doc pm cdv ct : Value} (a : PySem.W.nsIn K mainGlobals x = some (some (.ref f)))
    (l : K.lookup f = some ⟨oc, od, .func (PySem.W.fnOf x x (defArgs st) (defBody st) (defScope st) .none kV doc pm an cdv ct), osl⟩) (c : PySem.W.codeIn K cdv x = true) (k : PySem.W.keepIn K (.ref f) = true)
    (hb : ∀ (kV doc pm : Value) (an : Option Addr) (cdv ct : Value) (us : List Value), us.length = ps.length → bindArgs (PySem.W.fnOf x x (defArgs st) (defBody st) (defScope st) .none kV doc pm an cdv ct) ⟨us, []⟩ = pure (ps.zip us)) : Def K mg x st ps :=
  ⟨f, _, fun_mk l c k, PySem.W.mg_of X G a, (fun_mk l c k).binds hb⟩
theorem fun_kbinds {x qual : Str} {st : Stmt} {f : Addr} {fd : FuncData} {ps ks : List Str} (F : Fun K x qual st f fd) (g : List Value → List Value → List Value) (gV : List V → List V → List V)
    (hrel : ∀ {vs : List V} {us : List Value} {zs : List V} {ws : List Value}, Vals vs us → Vals zs ws → Vals (gV vs zs) (g us ws))
    (h : ∀ (kV doc pm : Value) (an : Option Addr) (cdv ct : Value) (us ws : List Value), (g us ws).length = ps.length → bindArgs (PySem.W.fnOf x qual (defArgs st) (defBody st) (defScope st) .none kV doc pm an cdv ct) ⟨us, ks.zip ws⟩ = pure (ps.zip (g us ws))) : KBinds K fd ps ks g gV := by
  obtain ⟨oc, od, kV, doc, pm, an, cdv, ct, osl, rfl, lk, hcd⟩ := F.ex
  exact ⟨fun s us ws X hl => .of_eq (h kV doc pm an cdv ct us ws hl), hrel⟩
/-- two keywords, in the parameters' order, or turned; one -/
def g12 {α : Type} : List α → List α → List α | [], [a, b] => [a, b] | _, _ => []
def g21 {α : Type} : List α → List α → List α | [], [a, b] => [b, a] | _, _ => []
def g1 {α : Type} : List α → List α → List α | [], [a] => [a] | _, _ => []
theorem g12_inv {α : Type} {us ws : List α} (h : (g12 us ws).length = 2) : us = [] ∧ ∃ a b, ws = [a, b] := by
  match us, ws, h with
  | [], [a, b], _ => exact ⟨rfl, a, b, rfl⟩
  | [], [], h => exact absurd h (by simp [g12, g21, g1])
  | [], [_], h => exact absurd h (by simp [g12])
  | [], _ :: _ :: _ :: _, h => exact absurd h (by simp [g12])
  | _ :: _, _, h => exact absurd h (by simp [g12])
theorem g21_inv {α : Type} {us ws : List α} (h : (g21 us ws).length = 2) : us = [] ∧ ∃ a b, ws = [a, b] := by
  match us, ws, h with
  | [], [a, b], _ => exact ⟨rfl, a, b, rfl⟩
  | [], [], h => exact absurd h (by simp [g12, g21, g1])
  | [], [_], h => exact absurd h (by simp [g21])
  | [], _ :: _ :: _ :: _, h => exact absurd h (by simp [g21])
  | _ :: _, _, h => exact absurd h (by simp [g21])
theorem g1_inv {α : Type} {us ws : List α} (h : (g1 us ws).length = 1) : us = [] ∧ ∃ a, ws = [a] := by
  match us, ws, h with
  | [], [a], _ => exact ⟨rfl, a, rfl⟩
  | [], [], h => exact absurd h (by simp [g12, g21, g1])
  | [], _ :: _ :: _, h => exact absurd h (by simp [g1])
  | _ :: _, _, h => exact absurd h (by simp [g1])
theorem rel12 {vs : List V} {us : List Value} {zs : List V} {ws : List Value} (a : Vals vs us) (b : Vals zs ws) : Vals (g12 vs zs) (g12 us ws) := by
  cases a with
  | nil =>
    cases b with
    | nil => exact .nil
    | cons r b =>
      cases b with
      | nil => exact .nil
      | cons r2 b =>
        cases b with
        | nil => exact .cons r (.cons r2 .nil)
        | cons r3 b => exact .nil
  | cons r a => exact .nil
theorem rel21 {vs : List V} {us : List Value} {zs : List V} {ws : List Value} (a : Vals vs us) (b : Vals zs ws) : Vals (g21 vs zs) (g21 us ws) := by
  cases a with
  | nil =>
    cases b with
    | nil => exact .nil
    | cons r b =>
      cases b with
      | nil => exact .nil
      | cons r2 b =>
        cases b with
        | nil => exact .cons r2 (.cons r .nil)
        | cons r3 b => exact .nil
  | cons r a => exact .nil
theorem rel1 {vs : List V} {us : List Value} {zs : List V} {ws : List Value} (a : Vals vs us) (b : Vals zs ws) : Vals (g1 vs zs) (g1 us ws) := by
  cases a with
  | nil =>
    cases b with
    | nil => exact .nil
    | cons r b =>
      cases b with
      | nil => exact .cons r .nil
      | cons r3 b => exact .nil
  | cons r a => exact .nil
end
end My
namespace My
open PySem L2 PyProof.Rows
/-! ### methods, properties, __init__ of a class at C -/
section
variable {P : Program} {w : World} {K : PySem.W.Frag} {mg : Str → Option Value} {base : Heap} {C : Addr}
def DefM (K : PySem.W.Frag) (C : Addr) (x qual : Str) (st : Stmt) (ps : List Str) : Prop := ∃ (f : Addr) (fd : FuncData), Fun K x qual st f fd ∧ Meth K C x f ∧ Binds K fd ps []
def DefP (K : PySem.W.Frag) (C : Addr) (x qual : Str) (st : Stmt) (ps : List Str) : Prop := ∃ (p f : Addr) (fd : FuncData), Fun K x qual st f fd ∧ PropOf K C x p f ∧ Binds K fd ps []
def DefI (K : PySem.W.Frag) (C : Addr) (x qual : Str) (st : Stmt) (ps : List Str) : Prop := ∃ (f : Addr) (fd : FuncData), Fun K x qual st f fd ∧ Mk K C f ∧ Binds K fd ps []
def GoodM (P : Program) (w : World) (K : PySem.W.Frag) (mg : Str → Option Value) (base : Heap) (C : Addr) (x qual : Str) (st : Stmt) (ps : List Str) (k : Nat) (sp : Sp) : Prop := ∃ (f : Addr) (fd : FuncData), FnOk P w K mg base CX0 k f fd ps sp ∧ Meth K C x f ∧ Binds K fd ps [] ∧ Fun K x qual st f fd
def GoodP (P : Program) (w : World) (K : PySem.W.Frag) (mg : Str → Option Value) (base : Heap) (C : Addr) (x _qual : Str) (_st : Stmt) (ps : List Str) (k : Nat) (sp : Sp) : Prop := ∃ (p f : Addr) (fd : FuncData), FnOk P w K mg base CX0 k f fd ps sp ∧ PropOf K C x p f ∧ Binds K fd ps []
def GoodI (P : Program) (w : World) (K : PySem.W.Frag) (mg : Str → Option Value) (base : Heap) (C : Addr) (x _qual : Str) (_st : Stmt) (ps : List Str) (k : Nat) (sp : Sp) : Prop := ∃ (f : Addr) (fd : FuncData), FnOk P w K mg base CX0 k f fd ps sp ∧ Mk K C f ∧ Binds K fd ps []
theorem DefM.good {x qual : Str} {st : Stmt} {ps : List Str} {k : Nat} {sp : Sp} (D : DefM K C x qual st ps) (h : ∀ f fd, Fun K x qual st f fd → FnOk P w K mg base CX0 k f fd ps sp) : GoodM P w K mg base C x qual st ps k sp := by
  obtain ⟨f, fd, F, m, b⟩ := D
  exact ⟨f, fd, h f fd F, m, b, F⟩
theorem DefP.good {x qual : Str} {st : Stmt} {ps : List Str} {k : Nat} {sp : Sp} (D : DefP K C x qual st ps) (h : ∀ f fd, Fun K x qual st f fd → FnOk P w K mg base CX0 k f fd ps sp) : GoodP P w K mg base C x qual st ps k sp := by
  obtain ⟨p, f, fd, F, m, b⟩ := D
  exact ⟨p, f, fd, h f fd F, m, b⟩
theorem DefI.good {x qual : Str} {st : Stmt} {ps : List Str} {k : Nat} {sp : Sp} (D : DefI K C x qual st ps) (h : ∀ f fd, Fun K x qual st f fd → FnOk P w K mg base CX0 k f fd ps sp) : GoodI P w K mg base C x qual st ps k sp := by
  obtain ⟨f, fd, F, m, b⟩ := D
  exact ⟨f, fd, h f fd F, m, b⟩
end
def g123 {α : Type} : List α → List α → List α | [], [a, b, c] => [a, b, c] | _, _ => []
theorem g123_inv {α : Type} {us ws : List α} (h : (g123 us ws).length = 3) : us = [] ∧ ∃ a b c, ws = [a, b, c] := by
  unfold g123 at h
  split at h
  · exact ⟨rfl, _, _, _, rfl⟩
  · simp at h
theorem rel123 {vs : List V} {us : List Value} {zs : List V} {ws : List Value} (a : Vals vs us) (b : Vals zs ws) : Vals (g123 vs zs) (g123 us ws) := by
  cases a with
  | cons h t => exact .nil
  | nil => cases b with
    | nil => exact .nil
    | cons h1 t => cases t with
      | nil => exact .nil
      | cons h2 t => cases t with
        | nil => exact .nil
        | cons h3 t => cases t with
          | nil => exact .cons h1 (.cons h2 (.cons h3 .nil))
          | cons h4 t => exact .nil
/-- self, then one keyword -/
def gm1 {α : Type} : List α → List α → List α | [a], [b] => [a, b] | _, _ => []
theorem gm1_inv {α : Type} {us ws : List α} (h : (gm1 us ws).length = 2) : ∃ a b, us = [a] ∧ ws = [b] := by
  unfold gm1 at h
  split at h
  · exact ⟨_, _, rfl, rfl⟩
  · simp at h
theorem relm1 {vs : List V} {us : List Value} {zs : List V} {ws : List Value} (a : Vals vs us) (b : Vals zs ws) : Vals (gm1 vs zs) (gm1 us ws) := by
  cases a with
  | nil => exact .nil
  | cons h t => cases t with
    | cons h2 t => exact .nil
    | nil => cases b with
      | nil => exact .nil
      | cons h1 t => cases t with
        | nil => exact .cons h (.cons h1 .nil)
        | cons h2 t => exact .nil
/-! ### a list or a tuple, gone through -/
section
variable {X : Cx}
theorem pi_or {tg e : Expr} {w1 w2 : TI} (h1 : PI X tg e w1) (h2 : PI X tg e w2) : PI X tg e (fun σ H R => w1 σ H R ∨ w2 σ H R) := by
  constructor
  intro pins s σ H R I h
  rcases h with h | h
  · exact h1.run pins s σ H R I h
  · exact h2.run pins s σ H R I h
end
end My
/-! list(range(n)) -/
namespace My
open PySem PySem.Spec PyProof.Rows L2
section
variable {X : Cx}
theorem cr_range1 : CallR X (.type "range") (fun vs H Q => ∃ j, vs = [V.int j] ∧ ∀ p, H p = none → Q (.ref p) (upd H p (.rng 0 j))) := by
  intro pins s σ H vs us Q I r h
  obtain ⟨j, rfl, q⟩ := h
  obtain ⟨u1, rfl, ri⟩ := vals1 r
  obtain ⟨t, rfl⟩ := ri
  refine call_range_1 ⟨.ref s.heap.objs.size, upd H s.heap.objs.size (.rng 0 j), I.laid (t' := s.toks + 1 + 1) (fun b o e => Heap.get?_push_of_some _ e) (Nat.le_refl _) ?_, rfl, q _ (I.hok.fresh (Nat.le_refl _))⟩
  exact ⟨s.toks, t, s.toks + 1, Heap.get?_push_size _ rfl⟩
theorem call_listRng (hc : X.calm = true) : CallR X (.type "list") (fun xs H Q => ∃ (p : Addr) (n : Nat), xs = [.ref p] ∧ H p = some (.rng 0 (n : Int)) ∧ n ≤ 1000 ∧ ∀ q, H q = none → Q (.ref q) (upd H q (.lst ((List.range n).map fun i : Nat => V.int (i : Int))))) := by
  intro pins s σ H xs us Q I r h
  obtain ⟨p, n, e, hk, hn, q⟩ := h
  subst e
  obtain ⟨u, eu, rx⟩ := vals1 r
  subst eu
  obtain rfl : u = Value.ref p := rx
  obtain ⟨t1, t2, t3, ho⟩ := (show ObjOk X.prog X.w H s.heap p (.rng 0 (n : Int)) from I.hok p _ hk)
  refine call_list_range (n := n) (I.ok.hd hc) ho (small_one (by omega) (by omega) (by omega) (by omega)) (by rw [rangeSize_one]; split <;> omega) (by omega) fun h' tk items cap hkeep hS hacc => ?_
  refine ⟨.ref s.heap.objs.size, upd H s.heap.objs.size (.lst ((List.range n).map fun i : Nat => V.int (i : Int))), I.laid hkeep (Nat.le_refl _) (show ObjOk X.prog X.w _ _ _ (.lst ((List.range n).map fun i : Nat => V.int (i : Int))) from ⟨?_, items.toList, cap, ?_, ?_⟩), rfl, q _ (I.hok.fresh (Nat.le_refl _))⟩
  · rw [List.length_map, List.length_range]; exact Nat.le_trans hn (by decide)
  · have el : items.toList.length = n := by rw [Array.length_toList]; exact hacc.1
    refine vals_of_at (by rw [List.length_map, List.length_range, el]) fun j x z h1 h2 => ?_
    obtain ⟨t, e⟩ := hacc.2 j z (by rw [← Array.getElem?_toList]; exact h2)
    have hj : j < n := by rw [← el]; exact (List.getElem?_eq_some_iff.mp h2).1
    rw [List.getElem?_map, List.getElem?_range hj] at h1
    cases h1
    exact ⟨t, by rw [e]; simp⟩
  · rw [Array.toArray_toList]; exact hS
end
end My
namespace My
open PySem L2 PyProof.Rows
/-! ### == by an own __eq__, whatever it answers -/
section
variable {X : Cx}
theorem op_eqOwn {CX : CXT} {k : Nat} {C f : Addr} {fd : FuncData} {ps : List Str} {sp : Sp} {E : XK} (F : FnOk X.prog X.w X.K X.mg X.base CX k f fd ps sp) (hr : Room k X.A)
    (hs : PySem.W.findIn X.K (.ref C) "__eq__" = some (some (.ref f))) (hf : PySem.W.isFn X.K (.ref f) = true) (hb : Binds X.K fd ps []) (hx : Passes CX X E) :
    OpR X (compareOp .Eq) (fun x y H Q => ∃ a b dx dy fs gs, x = .ref a ∧ y = .ref b ∧ H a = some (.ins C dx fs) ∧ H b = some (.ins C dy gs) ∧ sp [x, y] H (fun v H' => ∃ c, v = .bl c ∧ Q (.bl c) H') E) := by
  intro pins s σ H x y v u Q I rx ry h
  obtain ⟨a, b, dx, dy, fs, gs, rfl, rfl, ha, hb', hsp⟩ := h
  cases rx
  cases ry
  show wpAny (model X.prog X.w) X.A (richCompare .Eq (.ref a) (.ref b)) (EP X pins σ Q) X.xe s
  obtain ⟨_, J, _⟩ := ins_get I.hok ha
  obtain ⟨_, J', _⟩ := ins_get I.hok hb'
  obtain ⟨_, J, _⟩ := J.look
  obtain ⟨_, J', _⟩ := J'.look
  obtain ⟨m, hF⟩ := I.fr
  refine PySem.W.cmp_K (op := .Eq) (tb := .ref C) hr.units0 hF I.ok.mod.kin J J'.type (by simp [PySem.W.notFirst]) hs hf ?_
  have vals : Vals [V.ref a, V.ref b] [Value.ref a, Value.ref b] := .cons rfl (.cons rfl .nil)
  have e0 : Env0 X.prog X.w X.K X.mg X.base X.A X.stack s H := I.env0
  have hl := F.len _ _ _ _ hsp
  refine wpAny_call (codeAny_mono (F.run X.A X.stack s H ⟨[.ref a, .ref b], []⟩ [.ref a, .ref b] [.ref a, .ref b] _ E hr e0 (by
    have bd := hb s [.ref a, .ref b] I.kIn (by simpa using hl)
    simpa using bd) vals hsp) fun r s' hq => ?_)
  cases r with
  | error e => exact hx pins σ H s e s' I hq
  | ok fl =>
    cases fl with
    | ret w =>
      obtain ⟨z, H', I', rz, c, ez, qz⟩ := I.after hq
      subst ez
      cases rz
      exact ⟨.bl c, H', I', rfl, qz⟩
    | next => exact False.elim hq
    | brk => exact False.elim hq
    | cont => exact False.elim hq
end
end My
namespace My
open PySem L2 PyProof.Rows PySem.W
/-! ### != of instances with an own __eq__ and the object's __ne__ -/
section
variable {prog : Program} {w : World} {A : Around} {E : Value → Shared → Prop} {s : Shared} {K : PySem.W.Frag} {x y C L f : Addr} {h₀ : Heap} {m : Str → Option Value} {ox : Obj} {od : Option Obj}
theorem check_ne {Q : Unit → Shared → Prop} (X : K.In s.heap) (I : PySem.W.InstAt s.heap x ox C od) (hm : PySem.W.mroIn K C (.type "object") = some true) (hq : Q () s) :
    wpAny (model prog w) A (checkBuiltinCall "object.__ne__" ⟨[.ref x, .ref y], []⟩) Q E s := by
  have L1 := PySem.W.looks_mroIn (M := model prog w) X hm
  simp only [checkBuiltinCall, F.cmpKind_ne, F.cmpSplit_ne]
  refine wpAny_bind ?_
  unfold isInstance
  refine wpAny_bind (I.type.here (L1.here ?_))
  simp only [Bool.not_true, Bool.false_eq_true, if_false]
  exact wpAny_pure hq
theorem entry_ne {Q : Fin → Shared → Prop} (hu : A.units < cLine) (X : K.In s.heap) (I : PySem.W.InstAt s.heap x ox C od) (hs : PySem.W.findIn K (.ref C) "__eq__" = some (some (.ref f))) (hf : PySem.W.isFn K (.ref f) = true)
    (hcall : wpAny (model prog w) A (call (.ref f) [.ref x, .ref y]) (fun v s' => ∃ b, v = .bool b ∧ Q (.done (.ret (.bool (!b)))) s') E s) :
    wpAny (model prog w) A (Builtin.«object.__ne__» ⟨[.ref x, .ref y], []⟩) Q E s := by
  unfold Builtin.«object.__ne__»
  repeat (first
    | with_reducible refine wpAny_cRoomFor hu ?_
    | (refine wpAny_bind (m := callSpecialIfBound? (.ref x) (Str.ofString "__eq__") [.ref y])
        (PySem.W.ifBound_K X I hs hf (wpAny_mono hcall (fun r s' hr => by
          obtain ⟨b, rfl, hq⟩ := hr
          repeat (first | exact hq | exact wpAny_pure hq | exact wpAny_truthy_bool hq | (refine wpAny_bind (m := truthy (.bool _)) (wpAny_truthy_bool ?_)) | wp_step)) fun _ _ e => e)))
    | wp_step)
theorem try_ne {Q : Option Value → Shared → Prop} (hu : A.units + 1 < cLine) (X : K.In s.heap) (I : PySem.W.InstAt s.heap x ox C od) (hm : PySem.W.mroIn K C (.type "object") = some true) (hn : PySem.W.findIn K (.ref C) "__ne__" = some (some (.builtin "object.__ne__")))
    (hs : PySem.W.findIn K (.ref C) "__eq__" = some (some (.ref f))) (hf : PySem.W.isFn K (.ref f) = true)
    (hcall : wpAny (model prog w) A.in1 (call (.ref f) [.ref x, .ref y]) (fun v s' => ∃ b, v = .bool b ∧ Q (some (.bool (!b))) s') E s) :
    wpAny (model prog w) A (tryCompare (.ref x) "__ne__" (.ref y)) Q E s := by
  have S := F.cmp_object.ne
  have one : wpAny (model prog w) A (callSpecialIfBound? (.ref x) "__ne__" [.ref y]) (fun r s' => ∃ b, r = some (.bool b) ∧ Q (some (.bool b)) s') E s := by
    simp only [callSpecialIfBound?, bindSpecialIfBound?]
    refine wpAny_holding (wpAny_bind (wpAny_bind (wpAny_bind (I.type.here ((PySem.W.looks_findIn X hn).here ?_)))))
    simp only [S.bind]
    refine wpAny_bind (wpAny_askSetting (wpAny_ite ?_))
    have fin : wpAny (model prog w) A (call (.builtin "object.__ne__") ([.ref x] ++ [.ref y]) >>= fun v => pure (some v)) (fun r s' => ∃ b, r = some (.bool b) ∧ Q (some (.bool b)) s') E s := by
      refine wpAny_bind (wpAny_call (codeAny_call_builtin S.plain F.cmpEntry_ne (check_ne X I hm (entry_ne (A := A.in1) hu X I hs hf (wpAny_mono hcall (fun v s' hv => ?_) fun _ _ e => e)))))
      obtain ⟨b, rfl, hq⟩ := hv
      exact ⟨b, rfl, wpAny_pure ⟨_, rfl, hq⟩⟩
    split
    · exact wpAny_bind (wpAny_pure (wpAny_pure fin))
    · exact wpAny_tryCatch (wpAny_bind (wpAny_pure (wpAny_pure fin)))
  unfold tryCompare
  refine wpAny_bind (wpAny_mono one (fun v s' hv => ?_) fun _ _ e => e)
  obtain ⟨b, rfl, hq⟩ := hv
  exact wpAny_pure hq
theorem ne_own {Q : Value → Shared → Prop} {oy : Obj} {odY : Option Obj} (hu : A.units + 1 < cLine) (X : K.In s.heap) (I : PySem.W.InstAt s.heap x ox C od) (J : PySem.W.InstAt s.heap y oy C odY) (hm : PySem.W.mroIn K C (.type "object") = some true) (hn : PySem.W.findIn K (.ref C) "__ne__" = some (some (.builtin "object.__ne__")))
    (hs : PySem.W.findIn K (.ref C) "__eq__" = some (some (.ref f))) (hf : PySem.W.isFn K (.ref f) = true)
    (hcall : wpAny (model prog w) A.in1 (call (.ref f) [.ref x, .ref y]) (fun v s' => ∃ b, v = .bool b ∧ Q (.bool (!b)) s') E s) :
    wpAny (model prog w) A (richCompare .NotEq (.ref x) (.ref y)) Q E s := by
  unfold richCompare
  simp only [oneThing_ref]
  refine wpAny_holding ?_
  refine wpAny_bind (wpAny_cRoomFor (Nat.lt_of_succ_lt hu) ?_)
  rw [cmpInfo_NotEq]
  dsimp only
  refine wpAny_bind (I.type.here (wpAny_bind (J.type.here ?_)))
  rw [show (Value.ref C != Value.ref C) = false from by simp]
  simp only [Bool.false_eq_true, if_false]
  refine wpAny_bind (wpAny_pure ?_)
  simp only [Bool.false_eq_true, if_false]
  refine wpAny_bind (try_ne hu X I hm hn hs hf (wpAny_mono hcall (fun v s' hv => ?_) fun _ _ e => e))
  obtain ⟨b, rfl, hq⟩ := hv
  exact ⟨b, rfl, wpAny_pure hq⟩
end
section
variable {X : Cx}
theorem op_neOwn {CX : CXT} {k : Nat} {C f : Addr} {fd : FuncData} {ps : List Str} {sp : Sp} {E : XK} (F : FnOk X.prog X.w X.K X.mg X.base CX k f fd ps sp) (hr : Room (k + 1) X.A) (hm : PySem.W.mroIn X.K C (.type "object") = some true) (hn : PySem.W.findIn X.K (.ref C) "__ne__" = some (some (.builtin "object.__ne__")))
    (hs : PySem.W.findIn X.K (.ref C) "__eq__" = some (some (.ref f))) (hf : PySem.W.isFn X.K (.ref f) = true) (hb : Binds X.K fd ps []) (hx : Passes CX X E) :
    OpR X (compareOp .NotEq) (fun x y H Q => ∃ a b dx dy fs gs, x = .ref a ∧ y = .ref b ∧ H a = some (.ins C dx fs) ∧ H b = some (.ins C dy gs) ∧ sp [x, y] H (fun v H' => ∃ c, v = .bl c ∧ Q (.bl (!c)) H') E) := by
  intro pins s σ H x y v u Q I rx ry h
  obtain ⟨a, b, dx, dy, fs, gs, rfl, rfl, ha, hb', hsp⟩ := h
  cases rx
  cases ry
  show wpAny (model X.prog X.w) X.A (richCompare .NotEq (.ref a) (.ref b)) (EP X pins σ Q) X.xe s
  obtain ⟨_, J, _⟩ := ins_get I.hok ha
  obtain ⟨_, J', _⟩ := ins_get I.hok hb'
  obtain ⟨_, J, _⟩ := J.look
  obtain ⟨_, J', _⟩ := J'.look
  have hu : X.A.units + 1 < cLine := hu_of hr
  refine ne_own hu I.kIn J J' hm hn hs hf ?_
  have vals : Vals [V.ref a, V.ref b] [Value.ref a, Value.ref b] := .cons rfl (.cons rfl .nil)
  have e0 : Env0 X.prog X.w X.K X.mg X.base X.A.in1 X.stack s H := I.env0.in1
  have hl := F.len _ _ _ _ hsp
  refine wpAny_call (codeAny_mono (F.run X.A.in1 X.stack s H ⟨[.ref a, .ref b], []⟩ [.ref a, .ref b] [.ref a, .ref b] _ E hr.in1 e0 (by
    have bd := hb s [.ref a, .ref b] I.kIn (by simpa using hl)
    simpa using bd) vals hsp) fun r s' hq => ?_)
  cases r with
  | error e => exact hx pins σ H s e s' I hq
  | ok fl =>
    cases fl with
    | ret w =>
      obtain ⟨z, H', I', rz, c, ez, qz⟩ := I.after hq
      subst ez
      cases rz
      exact ⟨c, rfl, .bl (!c), H', I', rfl, qz⟩
    | next => exact False.elim hq
    | brk => exact False.elim hq
    | cont => exact False.elim hq
/-- == of an instance with an own __eq__ and a dict -/
theorem op_eqDict {CX : CXT} {k : Nat} {C f : Addr} {fd : FuncData} {ps : List Str} {sp : Sp} {E : XK} (F : FnOk X.prog X.w X.K X.mg X.base CX k f fd ps sp) (hr : Room k X.A)
    (hs : PySem.W.findIn X.K (.ref C) "__eq__" = some (some (.ref f))) (hf : PySem.W.isFn X.K (.ref f) = true) (hnf : PySem.W.notFirst X.K C (.type "dict") = true) (hb : Binds X.K fd ps []) (hx : Passes CX X E) :
    OpR X (compareOp .Eq) (fun x y H Q => ∃ a d dx fs kvs, x = .ref a ∧ y = .ref d ∧ H a = some (.ins C dx fs) ∧ H d = some (.dK kvs) ∧ sp [x, y] H (fun v H' => ∃ c, v = .bl c ∧ Q (.bl c) H') E) := by
  intro pins s σ H x y v u Q I rx ry h
  obtain ⟨a, b, dx, fs, kvs, rfl, rfl, ha, hb', hsp⟩ := h
  cases rx
  cases ry
  show wpAny (model X.prog X.w) X.A (richCompare .Eq (.ref a) (.ref b)) (EP X pins σ Q) X.xe s
  obtain ⟨_, J, _⟩ := ins_get I.hok ha
  obtain ⟨_, J, _⟩ := J.look
  obtain ⟨_, _, _, _, ob, es, ep, e, ⟨hcls, _⟩, _⟩ := (show ObjOk X.prog X.w H s.heap b (.dK kvs) from I.hok b _ hb')
  have hty : PySem.W.Looks (model X.prog X.w) s.heap (typeOf (.ref b)) (.type "dict") := hcls ▸ (PySem.W.Looks.ld e).andThen .now
  obtain ⟨m, hF⟩ := I.fr
  refine PySem.W.cmp_K (op := .Eq) (tb := .type "dict") hr.units0 hF I.ok.mod.kin J hty hnf hs hf ?_
  have vals : Vals [V.ref a, V.ref b] [Value.ref a, Value.ref b] := .cons rfl (.cons rfl .nil)
  have e0 : Env0 X.prog X.w X.K X.mg X.base X.A X.stack s H := I.env0
  have hl := F.len _ _ _ _ hsp
  refine wpAny_call (codeAny_mono (F.run X.A X.stack s H ⟨[.ref a, .ref b], []⟩ [.ref a, .ref b] [.ref a, .ref b] _ E hr e0 (by
    have bd := hb s [.ref a, .ref b] I.kIn (by simpa using hl)
    simpa using bd) vals hsp) fun r s' hq => ?_)
  cases r with
  | error e => exact hx pins σ H s e s' I hq
  | ok fl =>
    cases fl with
    | ret w =>
      obtain ⟨z, H', I', rz, c, ez, qz⟩ := I.after hq
      subst ez
      cases rz
      exact ⟨.bl c, H', I', rfl, qz⟩
    | next => exact False.elim hq
    | brk => exact False.elim hq
    | cont => exact False.elim hq
def tMethKK (C : Addr) (m : Str) (sp : Sp) (gV : List V → List V → List V) (E : XK) (ta : TE) (tk : TA) : TE := fun σ H Q => ta σ H fun x H1 => ∃ a dx fs, x = .ref a ∧ H1 a = some (.ins C dx fs) ∧ fs.lookup m = none ∧ tk σ H1 fun zs H2 => sp (gV [x] zs) H2 Q E
/-- o.m(a=.., b=..) -/
theorem pe_methKK {CX : CXT} {k : Nat} {f C : Addr} {fd : FuncData} {ps ks : List Str} {sp : Sp} {E : XK} {m : Str} {pos apos : Pos} {o : Expr} {kws : List Keyword} {ta : TE} {tk : TA} {g : List Value → List Value → List Value} {gV : List V → List V → List V} {pl : Sem Bool} (he : PE X o ta) (c : Cls X.K C) (hm : Meth X.K C m f) (F : FnOk X.prog X.w X.K X.mg X.base CX k f fd ps sp) (hr : Room k X.A) (hb : KBinds X.K fd ps ks g gV) (hx : Passes CX X E)
    (hkw : PK X kws tk) (hall : (backToKw pos (keywordEach kws X.env)).all (·.1.isSome) = true := by rfl) (hks : (backToKw pos (keywordEach kws X.env)).filterMap (·.1) = ks := by rfl)
    (hpl : ((backTo pos (starEach [] X.env)).any (·.1) || (backToKw pos (keywordEach kws X.env)).any (·.1.isNone)) = false := by rfl)
    (ht : eval (.Call (.Attribute o m apos) [] kws pos) X.env = (do
      let ov ← eval o X.env
      standAt apos.atName
      let (f, first) ← holding [ov] (getMethod ov m pl)
      callWith pos f first (backTo pos (starEach [] X.env)) (backToKw pos (keywordEach kws X.env))) := by rfl) :
    PE X (.Call (.Attribute o m apos) [] kws pos) (tMethKK C m sp gV E ta tk) := by
  refine ⟨fun pins s σ H Q I h => ?_⟩
  refine PySem.W.methodCall_KW (pl := pl) (thn (he.run pins s σ H _ I h) fun u s1 ⟨x, H1, I1, rx, a, dx, fs, ex, ea, l, q⟩ => ?_) ht
  subst ex
  obtain rfl : u = Value.ref a := rx
  refine getmeth_ok I1 ea c hm l ?_
  refine PySem.W.callWith_KW0 (first := [.ref a]) (h₀ := X.base) I.ok.mod.kin hm.kp hall (thn (hkw.run pos pins s1 σ H1 _ I1 q) fun ws s2 ⟨zs, H2, I2, rz, q2⟩ => ⟨I2.kIn, ?_⟩) hpl
  rw [hks]
  exact run_fnk (us := [.ref a]) (vs := [.ref a]) F hr hb hx I2 (.cons rfl .nil) rz q2
end
end My
/-! enumerate(t), t a tuple -/
namespace My
open PySem PySem.Spec PyProof.Rows L2
open AutoSeq1 (wpAny_loadPart')
theorem enum_new_tup (q : Addr) (ys : Array Value) (m : Nat) (dc : Option Addr) (sl : Array (Option Value)) :
    Meets (Builtin.«enumerate.__new__» ⟨[.type "enumerate", .ref q], []⟩) (fun _ R s => s.heap.get? q = some { cls := .type "tuple", dict := dc, data := .seq ys m, slots := sl } ∧
      R (.ok (.ret (.ref (s.heap.push { cls := .type "tuple_iterator", data := .fields #[.ref q, .int 0 0] }).objs.size)))
        { s with heap := (s.heap.push { cls := .type "tuple_iterator", data := .fields #[.ref q, .int 0 0] }).push { cls := .type "enumerate", data := .fields #[.none, .bool false, .ref s.heap.objs.size, rawInt 0, .none, .none] } }) :=
  .of_wp fun prog w A R s k => by
    obtain ⟨hh, g, dr, tk, os⟩ := s
    obtain ⟨kq, k⟩ := k
    have hsub := sub_enumerate
    have hT : Heap.IsTuple (Shared.heap ⟨hh, g, dr, tk, os⟩) q ys := ⟨_, kq, rfl, m, rfl⟩
    wp_walk using wpAny_loadPart' kq
    refine wpAny_stack_any fun _ => wpAny_pure ?_
    split
    · rename_i c _ _ _ _ _
      cases (c == Value.type "enumerate") <;>
        (wp_walk using wpAny_loadPart' kq, wpAny_pyIter_tuple hT
         exact ⟨_, rfl, k⟩)
    · wp_walk using wpAny_loadPart' kq, wpAny_pyIter_tuple hT
      exact ⟨_, rfl, k⟩
section
variable {prog : Program} {w : World} {A : Around} {E : Value → Shared → Prop} {s : Shared}
theorem call_enum_tup {q : Addr} {ys : Array Value} {Q : Value → Shared → Prop} (hT : s.heap.IsTuple q ys)
    (k : ∀ h', IsEnum h' (s.heap.objs.size + 1) s.heap.objs.size 0 .none → h'.IsTupleIter s.heap.objs.size q 0 → h'.objs.size = s.heap.objs.size + 2 →
      (∀ b o, s.heap.get? b = some o → h'.get? b = some o) → Q (.ref (s.heap.objs.size + 1)) { s with heap := h' }) :
    wpAny (model prog w) A (call (.type "enumerate") [.ref q]) Q E s := by
  obtain ⟨⟨cl, dc, dt, sl⟩, kq, ec, m, ed⟩ := hT
  cases (show cl = .type "tuple" from ec)
  cases (show dt = .seq ys m from ed)
  refine callType_new F.called_enumerate (by decide) (F.typeCall_enumerate_1 _) (F.newCall_enumerate_1 _) (fun obj => F.args_object_init_2 obj _) F.entry_enumerate_new
    (enum_new_tup q ys m dc sl) ⟨kq, ?_⟩
  have z1 : (s.heap.push { cls := .type "tuple_iterator", data := .fields #[.ref q, .int 0 0] }).objs.size = s.heap.objs.size + 1 := Heap.size_push ..
  show _ ∧ _
  rw [z1]
  have he : IsEnum ((s.heap.push { cls := .type "tuple_iterator", data := .fields #[.ref q, .int 0 0] }).push
      { cls := .type "enumerate", data := .fields #[.none, .bool false, .ref s.heap.objs.size, rawInt 0, .none, .none] }) (s.heap.objs.size + 1) s.heap.objs.size 0 .none := by
    have z2 := Heap.get?_push_size (s.heap.push { cls := .type "tuple_iterator", data := .fields #[.ref q, .int 0 0] })
      (o := { cls := .type "enumerate", data := .fields #[.none, .bool false, .ref s.heap.objs.size, rawInt 0, .none, .none] }) rfl
    rwa [z1] at z2
  exact ⟨⟨_, he, rfl⟩, k _ he ⟨_, Heap.get?_push_of_some _ (Heap.get?_push_size _ rfl), rfl, rfl⟩ (by rw [Heap.size_push, z1]) fun b o x => Heap.get?_push_of_some _ (Heap.get?_push_of_some _ x)⟩
end
/-- the tuple at a, each item in a new pair -/
def Ity (K : PySem.W.Frag) (a : Addr) : It :=
  ⟨fun i H => ∃ (xs : List V) (x : V), SqT K H a xs ∧ xs[i]? = some x, fun i H v H' => ∃ T x, v = .ref T ∧ H T = none ∧ H' = upd H T (.tup [.int (i : Nat), x]) ∧ ∀ xs, SqT K H a xs → xs[i]? = some x, fun i H => ∃ xs : List V, SqT K H a xs ∧ xs.length = i⟩
theorem walk_enumT {K : PySem.W.Frag} {a : Addr} {xs : List V} : Walk (Ity K a) xs.length (fun H => SqT K H a xs) (YPair (fun i => some (.int (i : Nat))) (fun i => xs[i]?)) := by
  refine ⟨fun i _ hi q => ⟨xs, xs[i], q, List.getElem?_eq_getElem hi⟩, fun _ q => ⟨xs, q, rfl⟩, fun i H v H' _ q y => ?_⟩
  obtain ⟨T, x, y1, y2, y3, y4⟩ := y
  exact ⟨T, .int (i : Nat), x, y1, y2, y3, rfl, y4 xs q⟩
theorem turn_enumT {P : Program} {w : World} {K : PySem.W.Frag} {elts : List Expr} {kk : Nat} {tpos : Pos} (a e it : Addr) (nai : a ≠ it) (nea : e ≠ a) :
    Turn P w K (.Tuple elts kk tpos) (Ity K a) [e, it] e (fun i h => (∃ old, IsEnum h e it ((i : Nat) : Int) old) ∧ h.IsTupleIter it a i ∧ e ≠ it) where
  mem := by simp
  obj := fun i h st b hb => by
    obtain ⟨⟨old, he⟩, ⟨o, ho, hc, hd⟩, _⟩ := st
    rcases (show b = e ∨ b = it by simpa using hb) with z | z
    · subst z; exact ⟨_, he, fun v q => nomatch q⟩
    · subst z; exact ⟨o, ho, fun v q => by rw [hd] at q; cases q⟩
  keep := fun i h h' st k => let ⟨⟨old, he⟩, hi, hne⟩ := st; ⟨⟨old, k e (by simp) _ he⟩, hi.at fun o q => k it (by simp) o q, hne⟩
  item := by
    intro X hP hw hK hc i pins s σ H E I hf st hg
    subst hP hw hK
    obtain ⟨⟨old, he⟩, hit, hne⟩ := st
    obtain ⟨xs, x, hq, hx⟩ := hg
    obtain ⟨its, rv, p, hz⟩ := I.tuple hq
    obtain ⟨u, hu, ru⟩ := rv.get hx
    have le : e < s.heap.objs.size := Heap.lt_size he
    have li : it < s.heap.objs.size := by obtain ⟨_, q, _⟩ := hit; exact Heap.lt_size q
    have small : i < its.toArray.size := by
      have := (List.getElem?_eq_some_iff.mp hu).1
      simpa using this
    refine wpAny_pyNext_enum_itemD (Draws.tuple (A := X.A.in1) (I.ok.hd hc) it a nai its.toArray) he ⟨hit, (show s.heap.IsTuple a its.toArray from p)⟩ small hne (by simp [hne, nea]) fun x' h' tk hx' ho hst hT hsz hk => ?_
    have ex : x' = u := by
      have : its[i]? = some x' := by simpa using hx'
      rw [hu] at this
      exact (Option.some.inj this).symm
    subst ex
    obtain ⟨hst1, hst2⟩ := hst
    refine ⟨_, rfl, wpAny_letOwnedTupleGo_enum (s := { s with heap := h', toks := tk + 1 }) ho fun h2 he2 sb => ?_⟩
    have gT : h2.get? s.heap.objs.size = some { cls := .type "tuple", data := .seq #[.int i tk, x'] } := (sb.2 _ (Nat.ne_of_gt le)).trans hT
    have okT : ObjOk X.prog X.w (upd H s.heap.objs.size (.tup [.int (i : Nat), x])) h2 s.heap.objs.size (.tup [.int (i : Nat), x]) :=
      ⟨by show 2 ≤ sizeLine; decide, [.int i tk, x'], .cons ⟨_, rfl⟩ (.cons ru .nil), ⟨_, gT, rfl, _, rfl⟩⟩
    have I2 : Inv X pins σ (upd H s.heap.objs.size (.tup [.int (i : Nat), x])) { s with heap := h2, toks := tk + 1 } :=
      I.turnedNew (t' := tk + 1) (ch := [e, it]) (fun b ob hb q => (sb.2 b (fun z => hb (by simp [z]))).trans (hk b ob (fun z => hb (by simp [z])) (fun z => hb (by simp [z])) q)) hf (Nat.le_refl _) okT
    refine ⟨.ref s.heap.objs.size, _, I2, rfl, ⟨_, x, rfl, I.hok.fresh (Nat.le_refl _), rfl, fun ys hy => by rw [I.tuple_inj hy hq]; exact hx⟩, ⟨⟨x', ?_⟩, hst1.at fun o q => (sb.2 it (Ne.symm hne)).trans q, hne⟩, fun b hb => ?_⟩
    · rw [show ((i + 1 : Nat) : Int) = (i : Int) + 1 by omega]
      exact he2
    · have lb : b < s.heap.objs.size := by
        rcases (show b = e ∨ b = it by simpa using hb) with z | z
        · rw [z]; exact le
        · rw [z]; exact li
      rw [upd_ne (Nat.ne_of_lt lb)]
      exact (hf b hb).1
  done := by
    intro X hP hw hK hc i pins s σ H E I hf st hg
    subst hP hw hK
    obtain ⟨⟨old, he⟩, hit, hne⟩ := st
    obtain ⟨xs, hq, hx⟩ := hg
    obtain ⟨its, rv, p, hz⟩ := I.tuple hq
    obtain ⟨f0, f1, f2, f3, f4, f5⟩ := hf it (by simp)
    have hl := rv.length
    have hsz : i = its.toArray.size := by
      rw [List.size_toArray]
      omega
    rw [hsz] at hit
    exact wpAny_pyNext_enum_endD (Draws.tuple (A := X.A.in1) (I.ok.hd hc) it a nai its.toArray) he ⟨hit, (show s.heap.IsTuple a its.toArray from p)⟩ fun h' eb => ⟨rfl, I.turned (t' := s.toks) (fun b o hb e => eb b o hb e) f0 f1 f3 f4 f5⟩
  self := fun A i s Q E st h => let ⟨⟨_, he⟩, _⟩ := st; wpAny_pyIter_enum he h
def iEnumT (K : PySem.W.Frag) (ta : TA) : TI := fun σ H R => ta σ H fun vs H1 => ∃ a xs, vs = [.ref a] ∧ SqT K H1 a xs ∧ R (Ity K a) H1
theorem pi_enumT {X : Cx} {e : Expr} {ta : TA} {p pos tpos : Pos} {elts : List Expr} {kk : Nat} (hg : Gl X "enumerate") (hm : X.mg "enumerate" = none) (ha : PA X [e] ta) (hs : starEach [e] X.env = [(false, eval e X.env)] := by rfl) :
    PI X (.Tuple elts kk tpos) (.Call (.Name "enumerate" p) [e] [] pos) (iEnumT X.K ta) := by
  constructor
  intro pins s σ H R I h
  refine Call_ (ld_blt I hg hm boot_enumerate (PyProof.Rows.callWith_type1 (thn (ha.run pos pins s σ H _ I h) fun us s1 ⟨vs, H1, I1, r1, q1⟩ => ?_) hs rfl))
  obtain ⟨a, xs, rfl, hq, q⟩ := q1
  obtain rfl := Vals.ref1 r1
  obtain ⟨its, rv, p', hz⟩ := I1.tuple hq
  have la : a < s1.heap.objs.size := by obtain ⟨_, z, _⟩ := p'; exact Heap.lt_size z
  refine call_enum_tup (show s1.heap.IsTuple a its.toArray from p') fun h' he hit hsz hk => wpAny_pyIter_enum he ?_
  have I2 : Inv X pins σ H1 { s1 with heap := h' } := I1.kept (t' := s1.toks) hk
  refine ⟨s1.heap.objs.size + 1, [s1.heap.objs.size + 1, s1.heap.objs.size], _, _, H1, rfl, I2, turn_enumT a (s1.heap.objs.size + 1) s1.heap.objs.size (Nat.ne_of_lt la) (Nat.ne_of_gt (Nat.lt_succ_of_lt la)), ⟨⟨.none, he⟩, hit, Nat.succ_ne_self _⟩, fun b hb => ?_, q⟩
  have hle : s1.heap.objs.size ≤ b := by
    rcases (show b = s1.heap.objs.size + 1 ∨ b = s1.heap.objs.size by simpa using hb) with z | z
    · rw [z]; exact Nat.le_succ _
    · rw [z]; exact Nat.le_refl _
  exact I1.fpOk hle (I1.hok.fresh hle)
end My
namespace My
open PySem PySem.W L2 L2.DX PyProof.Rows
/-! ### d.items() of a dict by texts, sorted -/
section
variable {X : Cx}
def rItemsK : V → List V → Hp → VK → Prop := fun x xs H Q => ∃ (a : Addr) (kvs : List (Key × V)), x = .ref a ∧ xs = [] ∧ H a = some (.dK kvs) ∧ ∀ p, H p = none → Q (.ref p) (upd H p (itemsO p a))
theorem mt_itemsK : MtR X "dict.items" rItemsK := by
  intro pins s σ H x xs v us Q I rx rxs h
  obtain ⟨d, kvs, rfl, rfl, hd0, q⟩ := h
  cases rx
  cases rxs
  obtain ⟨_, hd, vs, rel, dof⟩ := dk_of I.hok hd0
  obtain ⟨es, ep, raw, _, _⟩ := PySem.Heap.DictOf.raw dof
  exact DT.callItems (es := es) (ep := ep) hd raw ⟨.ref s.heap.objs.size, upd H s.heap.objs.size (itemsO s.heap.objs.size d), I.laid (t' := s.toks) (fun b u e => Heap.get?_push_of_some _ e) (Nat.le_refl _) (itemsO_ok (Heap.get?_push_size _ rfl)), rfl, q _ (I.hok.fresh (Nat.le_refl _))⟩
/-- an entry: a text and a number -/
abbrev entSI (e : Str × Int) : Key × V := (Sum.inr e.1, .int e.2)
abbrev encSI (e : Str × Int) : PyData := .tuple [.str e.1, .int e.2]
theorem kv_at : ∀ {kvs : List (Key × V)} {vs : List (Key × Value)}, KV kvs vs → ∀ {j : Nat} {p : Key × V}, kvs[j]? = some p → ∃ q, vs[j]? = some q ∧ p.1 = q.1 ∧ RelV p.2 q.2
  | _, _, .nil, _, _, h => by simp at h
  | _, _, .cons r _, 0, _, h => by
    cases h
    exact ⟨_, rfl, r⟩
  | _, _, .cons _ t, j + 1, p, h => by
    obtain ⟨q, h1, h2⟩ := kv_at t (j := j) (by simpa using h)
    exact ⟨q, by simpa using h1, h2⟩
theorem eachIs_of {α β : Type} {R : α → β → Prop} : ∀ {as : List α} {bs : List β}, as.length = bs.length → (∀ (j : Nat) (a : α) (b : β), as[j]? = some a → bs[j]? = some b → R a b) → PySem.W.EachIs R as bs
  | [], [], _, _ => .nil
  | [], _ :: _, h, _ => by simp at h
  | _ :: _, [], h, _ => by simp at h
  | a :: as, b :: bs, h, k => .cons (k 0 a b rfl rfl) (eachIs_of (by simpa using h) fun j x y hx hy => k (j + 1) x y (by simpa using hx) (by simpa using hy))
theorem encSI_alike (kvs : List (Str × Int)) : AllAlike (kvs.map encSI) := by
  intro d hd d' hd'
  obtain ⟨e, _, rfl⟩ := List.mem_map.mp hd
  obtain ⟨e', _, rfl⟩ := List.mem_map.mp hd'
  rfl
theorem encSI_sortable (kvs : List (Str × Int)) : Sortable (kvs.map encSI) := .tuples fun b => ⟨_, _, rfl⟩
theorem eachIs_refs {β : Type} {as : List Addr} {bs : List β} : ∀ {out : List Value} {cs : List β}, PySem.W.EachIs (fun v b => ∃ (j : Nat) (x : Addr), v = Value.ref x ∧ as[j]? = some x ∧ bs[j]? = some b) out cs →
    ∃ ts : List Addr, out = ts.map Value.ref ∧ Paired (fun (x : Addr) (b : β) => ∃ j : Nat, as[j]? = some x ∧ bs[j]? = some b) ts cs
  | _, _, .nil => ⟨[], rfl, .nil⟩
  | _, _, .cons h t => by
    obtain ⟨j, x, rfl, h1, h2⟩ := h
    obtain ⟨ts, rfl, hp⟩ := eachIs_refs t
    exact ⟨x :: ts, rfl, .cons ⟨j, h1, h2⟩ hp⟩
theorem paired_imp {α β : Type} {F G : α → β → Prop} (h : ∀ a b, F a b → G a b) : ∀ {l1 : List α} {l2 : List β}, Paired F l1 l2 → Paired G l1 l2
  | _, _, .nil => .nil
  | _, _, .cons a r => .cons (h _ _ a) (paired_imp h r)
theorem vals_refs : ∀ ts : List Addr, Vals (ts.map V.ref) (ts.map Value.ref)
  | [] => .nil
  | _ :: r => .cons rfl (vals_refs r)
/-- the told list is new, its pairs too -/
def rSortItK : List V → Hp → VK → Prop := fun vs H Q => ∃ (p a : Addr) (kvs : List (Str × Int)), vs = [.ref p] ∧ H p = some (itemsO p a) ∧ H a = some (.dK (kvs.map entSI)) ∧ kvs.length ≤ 100000 ∧
  ∀ (H' : Hp) (l : Addr) (ts : List Addr), (∀ b o, H b = some o → H' b = some o) → H l = none → H' l = some (.lst (ts.map V.ref)) → Paired (fun t (e : Str × Int) => H' t = some (.tup [.str e.1, .int e.2])) ts (kvs.mergeSort (dataLe false encSI)) → Q (.ref l) H'
theorem cr_sortItK (hc : X.calm = true) (hu : X.A.units + 64 < cLine) : CallR X (.builtin "sorted") rSortItK := by
  intro pins s σ H xs us Q I r h
  obtain ⟨p, a, kvs, rfl, hp, ha, hlen, q⟩ := h
  obtain rfl := Vals.ref1 r
  have vw : s.heap.IsItemsView p a := by
    have z : ObjOk X.prog X.w H s.heap p (itemsO p a) := I.hok p _ hp
    exact z.1
  obtain ⟨_, hd, vs, rel, dof⟩ := dk_of I.hok ha
  obtain ⟨es, ep, raw, hsz, hent⟩ := PySem.Heap.DictOf.raw dof
  have l1 : vs.length = kvs.length := by
    have := Paired.length rel
    rw [List.length_map] at this
    exact this.symm
  have small : kvs.length ≤ sizeLine := Nat.le_trans hlen (by decide)
  refine DT.sortedI (es := es) (ep := ep) (I.ok.hd hc) vw raw (by rw [hsz, l1]; exact small) fun h' tk as kpt hlt hl mde => ?_
  have lak : as.length = kvs.length := by rw [hl, hsz, l1]
  have nod : as.Nodup := List.Pairwise.imp (fun h => Nat.ne_of_lt h) mde.rise
  have pr : ∀ (j : Nat) (b : Addr), as[j]? = some b → ∃ (e : Str × Int) (t t' : Tok), kvs[j]? = some e ∧ h'.get? b = some { cls := .type "tuple", data := .seq #[Value.str e.1 t, Value.int e.2 t'] } := fun j b ej => by
    obtain ⟨en, ee, gh⟩ := mde.pairs j b ej
    have hj2 : j < es.size := (Array.getElem?_eq_some_iff.mp ee).1
    have hj3 : j < kvs.length := by rw [← l1, ← hsz]; exact hj2
    obtain ⟨⟨k, v⟩, g1, g2, g3⟩ := kv_at rel (j := j) (p := entSI kvs[j]) (by rw [List.getElem?_map, List.getElem?_eq_getElem hj3]; rfl)
    obtain ⟨m1, m2⟩ := hent j hj2 k v g1
    have e1 : es[j] = en := (Array.getElem?_eq_some_iff.mp ee).2
    rw [e1] at m1 m2
    have g2' : k = Sum.inr kvs[j].1 := g2.symm
    subst g2'
    obtain ⟨t', ev⟩ : ∃ t', v = Value.int kvs[j].2 t' := g3
    rcases keyIs_shape (show keyIs (Sum.inr kvs[j].1) en.key = true from m1) with ⟨i, t, z, _⟩ | ⟨x, t, z, ek⟩
    · cases z
    · have ex : kvs[j].1 = x := Sum.inr.inj z
      refine ⟨kvs[j], t, t', List.getElem?_eq_getElem hj3, ?_⟩
      rw [gh, ek, m2, ev, ex]
  have gl : (h'.push { cls := .type "list", data := .seq (as.map Value.ref).toArray }).get? h'.objs.size = some (seqObj "list" (as.map Value.ref).toArray 0) := Heap.get?_push_size _ rfl
  have far : ∀ b o, h'.get? b = some o → b ≠ h'.objs.size := fun b o e => Nat.ne_of_lt (Heap.lt_size e)
  have kp : ∀ b o, h'.get? b = some o → (h'.push { cls := .type "list", data := .seq (as.map Value.ref).toArray }).get? b = some o := fun b o e => Heap.get?_push_of_some _ e
  generalize h'.push { cls := .type "list", data := .seq (as.map Value.ref).toArray } = h2 at gl kp ⊢
  have at_ : ∀ (j : Nat) (v : Value) (e : Str × Int), (as.map Value.ref)[j]? = some v → kvs[j]? = some e → ∃ b, v = .ref b ∧ as[j]? = some b := fun j v e hv _ => by
    rw [List.getElem?_map] at hv
    cases z : as[j]? with
    | none => rw [z] at hv; cases hv
    | some b => rw [z] at hv; exact ⟨b, (Option.some.inj hv).symm, rfl⟩
  refine list_sort_data (s := { s with heap := h2, toks := tk }) (R := fun v e => ∃ (j : Nat) (x : Addr), v = Value.ref x ∧ as[j]? = some x ∧ kvs[j]? = some e) (enc := encSI) (bs := kvs) gl (eachIs_of (by rw [List.length_map]; exact lak) fun j v e hv ee => ?_) (eachIs_of (by rw [List.length_map]; exact lak) fun j v e hv ee => ?_) (encSI_alike kvs) (encSI_sortable kvs) small (fun b _ => ?_) fun out ho1 ho2 => ?_
  · obtain ⟨b, e1, e2⟩ := at_ j v e hv ee
    exact ⟨j, b, e1, e2, ee⟩
  · obtain ⟨b, rfl, e2⟩ := at_ j v e hv ee
    obtain ⟨e', t, t', g1, g2⟩ := pr j b e2
    rw [ee] at g1
    cases g1
    exact ⟨[] ++ ([] ++ []), .tuple (kp _ _ g2) rfl rfl (.cons (.str _ _) (.cons (.int _ _) .nil)), by simp⟩
  · show X.A.units + 1 + 1 + 1 < cLine
    omega
  obtain ⟨ts, rfl, hts⟩ := eachIs_refs ho2
  show EP X pins σ Q (.ref h'.objs.size) { s with heap := sortedHeap h2 h'.objs.size (as.map Value.ref) (ts.map Value.ref).toArray, toks := tk }
  have kF : ∀ b o, b ≠ h'.objs.size → h2.get? b = some o → (sortedHeap h2 h'.objs.size (as.map Value.ref) (ts.map Value.ref).toArray).get? b = some o := fun b o hb e => (PyProof.Rows.sortedHeap_old hb (Heap.lt_size e)).trans e
  have kS : ∀ b o, s.heap.get? b = some o → (sortedHeap h2 h'.objs.size (as.map Value.ref) (ts.map Value.ref).toArray).get? b = some o := fun b o e => kF b o (far _ _ (kpt b o e)) (kp b o (kpt b o e))
  obtain ⟨eF, heF⟩ := PyProof.Rows.sortedHeap_at (vs := as.map Value.ref) (out := (ts.map Value.ref).toArray) gl
  generalize sortedHeap h2 h'.objs.size (as.map Value.ref) (ts.map Value.ref).toArray = hz at kF kS heF ⊢
  have free0 : H h'.objs.size = none := I.hok.fresh (Nat.le_of_lt hlt)
  have htl : (ts.map V.ref).length ≤ sizeLine := by
    rw [List.length_map] at ho1 ⊢
    rw [ho1]
    exact small
  have I2 : Inv X pins σ (upd H h'.objs.size (.lst (ts.map V.ref))) { s with heap := hz, toks := tk } :=
    (I.kept (t' := tk) kS).take (h' := hz) (t' := tk) (fun b ob _ e => e) (I.fpOk (Nat.le_of_lt hlt) free0) ⟨htl, ts.map Value.ref, eF, vals_refs ts, heF⟩
  obtain ⟨H2, I3, g, qt⟩ := takeT (P := fun b vs => ∃ (j : Nat) (e : Str × Int), as[j]? = some b ∧ kvs[j]? = some e ∧ vs = [.str e.1, .int e.2]) I as _ I2 nod fun b hb => by
    obtain ⟨j, ej⟩ := List.mem_iff_getElem?.mp hb
    obtain ⟨e, t, t', ee, gh⟩ := pr j b ej
    have big : s.heap.objs.size ≤ b := Nat.le_of_lt (mde.above b hb)
    refine ⟨big, by rw [upd_ne (far _ _ gh)]; exact I.hok.fresh big, [.str e.1, .int e.2], ⟨j, e, ej, ee, rfl⟩, fun H3 => ⟨(by show 2 ≤ sizeLine; decide), [Value.str e.1 t, Value.int e.2 t'], .cons ⟨t, rfl⟩ (.cons ⟨t', rfl⟩ .nil), ⟨_, kF _ _ (far _ _ gh) (kp _ _ gh), rfl, 0, rfl⟩⟩⟩
  refine ⟨.ref h'.objs.size, H2, I3, rfl, q H2 h'.objs.size ts (fun b o e => g b o (by rw [upd_ne (ne_of_none e free0)]; exact e)) free0 (g _ _ upd_same) (paired_imp (fun x e hx => ?_) hts)⟩
  obtain ⟨i, i1, i2⟩ := hx
  obtain ⟨vs', ⟨j, e', j1, j2, ev⟩, hH⟩ := qt x (List.mem_of_getElem? i1)
  have eqi : i = j := (List.getElem?_inj (List.getElem?_eq_some_iff.mp i1).1 nod).mp (i1.trans j1.symm)
  subst eqi
  rw [i2] at j2
  cases j2
  rw [ev] at hH
  exact hH
end
end My
namespace My
open PySem PySem.W L2 L2.DX PyProof.Rows
section
variable {X : Cx}
theorem dp_at {K : PySem.W.Frag} {H : Hp} : ∀ {ys : List V} {ds : List PyData}, DpAll K H ys ds → ∀ {j : Nat} {y : V} {d : PyData}, ys[j]? = some y → ds[j]? = some d → Dp K H y d
  | _, _, .nil, _, _, _, h, _ => by simp at h
  | _, _, .cons p _, 0, _, _, h, k => by
    cases h
    cases k
    exact p
  | _, _, .cons _ t, j + 1, _, _, h, k => dp_at t (j := j) (by simpa using h) (by simpa using k)
theorem dp_len {K : PySem.W.Frag} {H : Hp} : ∀ {ys : List V} {ds : List PyData}, DpAll K H ys ds → ys.length = ds.length
  | _, _, .nil => rfl
  | _, _, .cons _ t => congrArg Nat.succ (dp_len t)
theorem vals_at : ∀ {ys : List V} {us : List Value}, Vals ys us → ∀ {j : Nat} {u : Value}, us[j]? = some u → ∃ y, ys[j]? = some y ∧ RelV y u
  | _, _, .nil, _, _, h => by simp at h
  | _, _, .cons r _, 0, _, h => by
    cases h
    exact ⟨_, rfl, r⟩
  | _, _, .cons _ t, j + 1, _, h => by
    obtain ⟨y, h1, h2⟩ := vals_at t (j := j) (by simpa using h)
    exact ⟨y, by simpa using h1, h2⟩
theorem out_vals {ys : List V} {ds : List PyData} : ∀ {out : List Value} {cs : List PyData}, PySem.W.EachIs (fun v d => ∃ (j : Nat) (y : V), ys[j]? = some y ∧ ds[j]? = some d ∧ RelV y v) out cs →
    ∃ zs : List V, Vals zs out ∧ Paired (fun (z : V) (d : PyData) => ∃ j : Nat, ys[j]? = some z ∧ ds[j]? = some d) zs cs
  | _, _, .nil => ⟨[], .nil, .nil⟩
  | _, _, .cons h t => by
    obtain ⟨j, y, h1, h2, h3⟩ := h
    obtain ⟨zs, g1, g2⟩ := out_vals t
    exact ⟨y :: zs, .cons h3 g1, .cons ⟨j, h1, h2⟩ g2⟩
theorem vals_len : ∀ {ys : List V} {us : List Value}, Vals ys us → ys.length = us.length
  | _, _, .nil => rfl
  | _, _, .cons _ t => congrArg Nat.succ (vals_len t)
/-- sorted(xs), data of one shape: the items are set in sequence by what they are -/
def rSortD (K : PySem.W.Frag) : List V → Hp → VK → Prop := fun vs H Q => ∃ (a : Addr) (ys : List V) (ds : List PyData), vs = [.ref a] ∧ SqL K H a ys ∧ DpAll K H ys ds ∧ AllAlike ds ∧ Sortable ds ∧ (∀ d ∈ ds, d.depth ≤ 8) ∧ ys.length ≤ 100000 ∧
  ∀ (zs : List V) (p : Addr), Paired (fun (z : V) (d : PyData) => ∃ j : Nat, ys[j]? = some z ∧ ds[j]? = some d) zs (ds.mergeSort (dataLe false id)) → H p = none → Q (.ref p) (upd H p (.lst zs))
theorem cr_sortD (hu : X.A.units + 64 < cLine) : CallR X (.builtin "sorted") (rSortD X.K) := by
  intro pins s σ H xs us Q I r h
  obtain ⟨a, ys, ds, rfl, hs, hd, hal, hk, hdp, hlen, q⟩ := h
  obtain rfl := Vals.ref1 r
  obtain ⟨its, rv, pl, _⟩ := I.list hs
  have li : its.length = ds.length := by rw [← vals_len rv]; exact dp_len hd
  have small : ds.length ≤ sizeLine := by rw [← dp_len hd]; exact Nat.le_trans hlen (by decide)
  refine sorted_data (R := fun v d => ∃ (j : Nat) (y : V), ys[j]? = some y ∧ ds[j]? = some d ∧ RelV y v) (enc := id) (bs := ds) pl.isList (eachIs_of li fun j v d hv he => ?_) (eachIs_of li fun j v d hv he => ?_) (by rw [List.map_id]; exact hal) (by rw [List.map_id]; exact hk) small (fun d hdm => ?_) fun out ho1 ho2 => ?_
  · obtain ⟨y, g1, g2⟩ := vals_at rv hv
    exact ⟨j, y, g1, he, g2⟩
  · obtain ⟨y, g1, g2⟩ := vals_at rv hv
    exact Dp.reads I d y v (dp_at hd g1 he) g2
  · have := hdp d hdm
    show X.A.units + 2 + d.depth < cLine
    omega
  obtain ⟨zs, hz, hp⟩ := out_vals ho2
  obtain ⟨eF, heF⟩ := PyProof.Rows.sortedAll_at s.heap its out.toArray
  have hzl : zs.length ≤ sizeLine := by rw [vals_len hz, ho1]; exact small
  exact ⟨.ref (s.heap.objs.size + 1), upd H (s.heap.objs.size + 1) (.lst zs), I.laid (t' := s.toks) (fun _ _ => PyProof.Rows.sortedAll_old) (Nat.le_succ _) ⟨hzl, out, eF, hz, heF⟩, rfl, q zs _ hp (I.hok.fresh (Nat.le_succ _))⟩
end
end My
namespace My
open PySem L2 PyProof.Rows
theorem bl_is1 {x : Bool} {Q : VK} {H : Hp} (h : x = true) (q : Q (.bl true) H) : Q (.bl x) H := by
  rw [h]
  exact q
/-! ### a list that nobody asks for any more is forgotten -/
section
variable {X : Cx} {pins : List (Addr × Obj)} {σ : L2.St} {H1 H2 : Hp} {s : Shared} {D : Addr} {xs : List V}
theorem inv_drop (I : Inv X pins σ H1 s) (e : H1 = upd H2 D (.lst xs)) (n : H2 D = none) : Inv X pins σ H2 s := by
  subst e
  have off : ∀ b, upd H2 D (.lst xs) b = none → H2 b = none := fun b h => by
    by_cases hb : b = D
    · rw [hb]; exact n
    · rw [upd_ne hb] at h; exact h
  have back : ∀ b o, o ≠ HO.lst xs → upd H2 D (.lst xs) b = some o → H2 b = some o := fun b o ho h => by
    by_cases hb : b = D
    · subst hb
      rw [upd_same] at h
      exact absurd (Option.some.inj h).symm ho
    · rw [upd_ne hb] at h; exact h
  refine ⟨I.ok, I.os, I.bare, ?_, I.loc, I.cell, off _ I.free, fun x c h => off _ (I.freeC x c h), fun p hp => ?_, ?_, I.len⟩
  · have u := I.base
    refine ⟨u.keep, u.slot, fun b o h1 h2 h3 => off _ (u.free b o h1 h2 h3), u.there, fun b ys h => back _ _ (by intro z; cases z) (u.tups b ys h), fun b o v h => back _ _ (by intro z; cases z) (u.frzs b o v h), fun b ps h => ?_⟩
    obtain ⟨more, h⟩ := u.tbls b ps h
    exact ⟨more, back _ _ (by intro z; cases z) h⟩
  · obtain ⟨a, b, c⟩ := I.pin p hp
    exact ⟨a, off _ b, c⟩
  · intro a o h
    have ha : a ≠ D := fun z => by rw [z, n] at h; cases h
    refine (I.hok a o (by rw [upd_ne ha]; exact h)).stay (fun _ _ _ z => z) (fun b h => back _ _ (by intro z; cases z) h) (fun b ys h => back _ _ (by intro z; cases z) h)
theorem pe_drop {e : Expr} {te : TE} (he : PE X e te) : PE X e (fun σ H Q => te σ H fun v H1 => ∃ D xs H2, H1 = upd H2 D (.lst xs) ∧ H2 D = none ∧ Q v H2) := by
  refine ⟨fun pins s σ H Q I h => ?_⟩
  exact wpAny_mono (he.run pins s σ H _ I h) (fun u s1 ⟨v, H1, I1, r, D, xs, H2, e, n, q⟩ => ⟨v, H2, inv_drop I1 e n, r, q⟩) fun _ _ h => h
theorem ix_seqK {K : PySem.W.Frag} (h : X.K = K) : IxR X (rIx K) := h ▸ ix_seq
end
end My
namespace My
open PySem L2 PyProof.Rows
/-! ### contracts of defs that are called where nothing is being shown -/
structure FnG (P : Program) (w : World) (K : PySem.W.Frag) (mg : Str → Option Value) (base : Heap) (k : Nat) (f : Addr) (fd : FuncData) (ps : List Str) (sp : Sp) : Prop where
  len : ∀ vs H Q E, sp vs H Q E → vs.length = ps.length
  run : ∀ (A : Around) (outer : List Env) (s : Shared) (H : Hp) (args : Args) (us : List Value) (vs : List V) (Q : VK) (E : XK), Room k A → A.guards = some [] → Env0 P w K mg base A outer s H → BindsTo s fd args (ps.zip us) → Vals vs us → sp vs H Q E →
    codeAny (model P w) A (.call (.ref f) args) (CR CX0 outer P w H s Q E) s
section
variable {P : Program} {w : World} {K : PySem.W.Frag} {mg : Str → Option Value} {base : Heap}
theorem FnG.ofOk {k : Nat} {f : Addr} {fd : FuncData} {ps : List Str} {sp : Sp} (F : FnOk P w K mg base CX0 k f fd ps sp) : FnG P w K mg base k f fd ps sp :=
  ⟨F.len, fun A outer s H args us vs Q E hr _ he hb hv hs => F.run A outer s H args us vs Q E hr he hb hv hs⟩
theorem FnG.ofBody {x qual : Str} {st : Stmt} {f : Addr} {fd : FuncData} {N ps : List Str} {k : Nat} {sp : Sp} (F : Fun K x qual st f fd) (S : FnScope N ps (defScope st)) (len : ∀ vs H Q E, sp vs H Q E → vs.length = ps.length)
    (body : ∀ (cdv : Value) (A : Around) (outer : List Env) (s : Shared) (H : Hp) (vs : List V) (Q : VK) (E : XK), Room k (A.deeper (envOfC qual (defScope st) s.heap.objs.size f cdv)) → A.guards = some [] → sp vs H Q E →
      ∃ t, PSs (cxOf CX0 P w K mg base N qual (defScope st) f cdv A outer s H E).nox (defBody st) t ∧ t { nx := fun _ H' => Q .non H', rt := Q } (start N vs) H) : FnG P w K mg base (k + 1) f fd ps sp := by
  obtain ⟨oc, od, kV, doc, pm, an, cdv, ct, osl, rfl, lk, hcd⟩ := F.ex
  constructor
  · exact len
  intro A outer s H args us vs Q E room quiet env bound rel want
  have many := len _ _ _ _ want
  have inK : K.In s.heap := env.mod.kin.keeps (fun b o e => (env.bs b o e).1)
  have unlimited : s.heap.NoLimit := env.mod.nolimit.keeps (fun b o e => (env.bs b o e).1)
  have kinds : ∀ y ∈ ps.zip us, (defScope st).names.lookup y.1 = some .local ∨ ((defScope st).names.lookup y.1 = some .cell ∧ ((cellsFrom (s.heap.objs.size + 1) (defScope st).names []).lookup y.1).isSome = true) := by
    rintro ⟨n, v⟩ hy
    exact (S.par n (List.of_mem_zip hy).1).imp id (fun q => ⟨q, PySem.W.cellsFrom_some _ _ _ (.inl q)⟩)
  refine codeAny_call_function room.depth (inK _ _ lk) rfl S.co S.gen rfl (PySem.W.codeRec_of inK hcd) (bound _ _ _ _ (wpAny_newFunctionEnv_cells S.kind kinds ?_))
  rintro env' rfl s1 x
  obtain ⟨t, ht, hq⟩ := body cdv A outer s H vs Q E (room.deeper _) quiet want
  have I := inv_start (CX := CX0) (E := E) S room.hd env many rel x
  refine ⟨unlimited.keeps x.toInCall.keep, codeAny_func (wpAny_mono (ht.nox.run [] s1 (start N vs) H _ I hq) ?_ (fun _ _ h => h))⟩
  intro fl s' hs
  cases fl with
  | ret u =>
    obtain ⟨v, σ', H', J, rv, q⟩ := hs
    exact ⟨v, H', J.os, J.bare, J.base, J.hok, rv, q⟩
  | next =>
    obtain ⟨σ', H', J, q⟩ := hs
    exact ⟨V.non, H', J.os, J.bare, J.base, J.hok, (rfl : RelV V.non Value.none), q⟩
  | brk => exact hs.elim fun _ h => h.elim fun _ h => h.2.elim
  | cont => exact hs.elim fun _ h => h.elim fun _ h => h.2.elim
end
section
variable {X : Cx} {k : Nat} {f : Addr} {fd : FuncData} {ps ks : List Str} {sp : Sp} {ds : List Value} {x : Str} {p pos : Pos} {e : Expr} {es : List Expr} {kws : List Keyword} {t tk : TA} {g : List Value → List Value → List Value} {gV : List V → List V → List V}
theorem run_fnG {pins : List (Addr × Obj)} {σ : L2.St} {H : Hp} {s : Shared} {Q : VK} {us ws : List Value} {vs zs : List V} (F : FnG X.prog X.w X.K X.mg X.base k f fd ps sp) (hr : Room k X.A) (quiet : X.A.guards = some []) (hb : KBinds X.K fd ps ks g gV)
    (I : Inv X pins σ H s) (r : Vals vs us) (rz : Vals zs ws) (h : sp (gV vs zs) H Q E0) : wpAny (model X.prog X.w) X.A (call (.ref f) us (ks.zip ws)) (EP X pins σ Q) X.xe s := by
  have r2 := hb.rel r rz
  have many : (g us ws).length = ps.length := r2.length.symm.trans (F.len _ _ _ _ h)
  refine wpAny_call (codeAny_mono (F.run X.A X.stack s H _ _ _ Q E0 hr quiet I.env0 (hb.to s us ws I.kIn many) r2 h) ?_)
  rintro (e | fl) s' hq
  · exact False.elim hq
  cases fl with
  | ret u => exact I.after hq
  | next | brk | cont => exact hq.elim
/-- arguments by place alone -/
theorem KBinds.none {K : PySem.W.Frag} {fd : FuncData} {ps : List Str} (b : Binds K fd ps []) : KBinds K fd ps [] (fun us _ => us) (fun vs _ => vs) := by
  refine ⟨fun s us ws X hl => ?_, fun r _ => r⟩
  have := b s us X (by rw [List.append_nil]; exact hl)
  rw [List.append_nil] at this
  exact this
theorem pe_callG (F : FnG X.prog X.w X.K X.mg X.base k f fd ps sp) (hr : Room k X.A) (quiet : X.A.guards = some []) (hg : Gl X x) (hm : X.mg x = some (.ref f)) (hk : PySem.W.keepIn X.K (.ref f) = true) (hb : Binds X.K fd ps [])
    (ha : PA X (e :: es) t) (hdb : (x == ("__debug__" : Str)) = false := by decide) (he : starEach (e :: es) X.env = (false, eval e X.env) :: starEach es X.env := by rfl) (hpl : (backTo pos (starEach es X.env)).any (·.1) = false := by rfl) :
    PE X (.Call (.Name x p) (e :: es) [] pos) (tCall sp [] E0 t) := by
  constructor
  intro pins s σ H Q I h
  refine wpAny_Call_Name_kw (ld_glob I hg hm (PySem.W.callWith_K (h₀ := X.base) I.ok.mod.kin hk (thn (ha.run pos pins s σ H _ I h) ?_) he hpl) hdb)
  rintro us s1 ⟨vs, H1, I1, r, q⟩
  refine ⟨I1.kIn, ?_⟩
  have q' : sp vs H1 Q E0 := by
    have q2 : sp (vs ++ []) H1 Q E0 := q
    rwa [List.append_nil] at q2
  exact run_fnG (ws := []) (zs := []) F hr quiet (KBinds.none hb) I1 r .nil q'
end
/-! ### a law whose promise is kept where nothing is being shown -/
theorem quiet_caller : callerA.guards = some [] := rfl
/-- from an abstract heap in which at most the script is told -/
theorem law_from {P : Program} {w : World} {K : PySem.W.Frag} {mg mb : Str → Option Value} {k : Nat} {fa a : Addr} {fd : FuncData} {x : Str} {sp : Sp} {s₁ : Shared} {vs : List Value} {H : Hp}
    (inK : K.In s₁.heap) (main : s₁.heap.Ns mainGlobals mg) (bui : s₁.heap.Ns builtinsNs mb) (same : ∀ x : Str, x ≠ "__name__" → mb x = bootBuiltins x) (lim : s₁.heap.NoLimit) (gens : s₁.gens = #[])
    (at_a : s₁.heap.get? a = some { cls := .type "list", data := .seq vs.toArray }) (room : Room k callerA)
    (F : ∀ base : Heap, K.In base → base.Ns mainGlobals mg → FnG P w K mg base k fa fd [x] sp) (bound : ∀ (s : Shared) (u : Value), BindsTo s fd ⟨[u], []⟩ [(x, u)])
    (only : Only H) (hok : HOk P w H s₁.heap) (isA : ∀ b, H b ≠ none → b = a) (notK : H a ≠ none → K.lookup a = none) (want : sp [.ref a] H (fun v _ => v = .bl true) fun _ _ _ => False) :
    codeAny (model P w) callerA (.call (.ref fa) ⟨[.ref a], []⟩) (fun r s' => r = .ok (.ret (.bool true)) ∧ OldK s₁.heap s'.heap ∧ s'.os = s₁.os ∧ AllBare s'.gens) s₁ := by
  have free : ∀ b, b ≠ a → H b = none := by
    intro b hb
    cases q : H b with
    | none => rfl
    | some u => exact absurd (isA b (fun z => by rw [z] at q; cases q)) hb
  have shown : ∀ {b : Addr} {o : Obj}, s₁.heap.get? b = some o → H b = none → (hidT s₁.heap H).get? b = some o := fun e n => hidT_get e n
  have names : ∀ {b : Addr} {m : Str → Option Value}, s₁.heap.Ns b m → (hidT s₁.heap H).Ns b m := by
    rintro b m ⟨o, es, ep, e, d, r⟩
    refine ⟨o, es, ep, shown e (free b ?_), d, r⟩
    rintro rfl
    rw [at_a] at e
    cases e
    exact nomatch d
  have inHid : K.In (hidT s₁.heap H) := by
    intro b o e
    refine shown (inK b o e) ?_
    cases q : H b with
    | none => rfl
    | some u =>
      have ne : H b ≠ none := fun z => by rw [z] at q; cases q
      have eb := isA b ne
      subst eb
      rw [notK ne] at e
      cases e
  obtain ⟨mc, l1, l2⟩ := lim
  have env : Env0 P w K mg (hidT s₁.heap H) callerA [] s₁ H := {
    frames := rfl
    mod := ⟨inHid, names main, ⟨mb, names bui, same⟩, ⟨mc, names l1, l2⟩⟩
    bs := fun _ _ e => of_hidT e
    bsz := Nat.le_of_eq (hidT_size _ _)
    funs := trivial
    frf := fun b hb => nomatch (show b ∈ ([] : List Addr) from hb)
    hok := hok
    bare := .of_eq gens }
  refine codeAny_mono ((F _ inHid (names main)).run callerA [] s₁ H ⟨[.ref a], []⟩ [.ref a] [.ref a] _ _ room quiet_caller env (bound s₁ (.ref a)) (.cons rfl .nil) want) ?_
  rintro (e | fl) s' h
  · exact False.elim h
  cases fl with
  | next | brk | cont => exact False.elim h
  | ret u =>
    obtain ⟨v, H', os, bare, un, hok', rel, q⟩ := h
    cases (show v = .bl true from q)
    cases (show u = Value.bool true from rel)
    refine ⟨rfl, .of_keep ?_, os, bare⟩
    intro b o e
    rcases only b with z | ⟨ob, xs, z⟩
    · exact un.keep b o e z (fun m => nomatch (show b ∈ ([] : List Addr) from m)) (fun m => nomatch m)
    · have z2 := un.frzs b ob _ z
      have e1 := (hok b _ z).1
      rw [e] at e1
      cases e1
      exact (hok' b _ z2).1
theorem law_callG {P : Program} {w : World} {K : PySem.W.Frag} {mg mb : Str → Option Value} {k : Nat} {fa a : Addr} {fd : FuncData} {x : Str} {sp : Sp} {s₁ : Shared} {vs : List Value} {ns : List Int}
    (inK : K.In s₁.heap) (main : s₁.heap.Ns mainGlobals mg) (bui : s₁.heap.Ns builtinsNs mb) (same : ∀ x : Str, x ≠ "__name__" → mb x = bootBuiltins x) (lim : s₁.heap.NoLimit) (gens : s₁.gens = #[])
    (at_a : s₁.heap.get? a = some { cls := .type "list", data := .seq vs.toArray }) (hints : IntsAre vs ns) (short : ns.length ≤ sizeLine) (room : Room k callerA)
    (F : ∀ base : Heap, K.In base → base.Ns mainGlobals mg → FnG P w K mg base k fa fd [x] sp) (bound : ∀ (s : Shared) (u : Value), BindsTo s fd ⟨[u], []⟩ [(x, u)])
    (want : ∀ H : Hp, Only H → SqL K H a (ns.map V.int) → sp [.ref a] H (fun v _ => v = .bl true) fun _ _ _ => False) :
    codeAny (model P w) callerA (.call (.ref fa) ⟨[.ref a], []⟩) (fun r s' => r = .ok (.ret (.bool true)) ∧ OldK s₁.heap s'.heap ∧ s'.os = s₁.os ∧ AllBare s'.gens) s₁ := by
  have rel := vals_ints hints
  have many := hints.length
  have go := fun (H : Hp) (o : Only H) hok isA notK w => law_from (mb := mb) inK main bui same lim gens at_a room F bound (H := H) o hok isA notK w
  cases hk : K.lookup a with
  | some o =>
    have e := inK a o hk
    rw [at_a] at e
    cases e
    have nobody : Only (fun _ => none) := fun _ => .inl rfl
    refine go _ nobody (fun b u z => nomatch (show (none : Option HO) = some u from z)) (fun b z => absurd rfl z) (fun z => absurd rfl z) (want _ nobody (.inr ⟨_, vs.toArray, _, hk, rfl, rfl, rfl, ?_, ?_⟩))
    · rw [List.size_toArray, many]
      exact short
    · simpa using rel
  | none =>
    have key : ∃ H : Hp, H = fun b => if b = a then some (.frz { cls := .type "list", data := .seq vs.toArray } (.lst (ns.map V.int))) else none := ⟨_, rfl⟩
    obtain ⟨H, eH⟩ := key
    have there : H a = some (.frz { cls := .type "list", data := .seq vs.toArray } (.lst (ns.map V.int))) := by rw [eH]; exact if_pos rfl
    have else_ : ∀ b, b ≠ a → H b = none := fun b hb => by rw [eH]; exact if_neg hb
    have only : Only H := fun b => by
      by_cases hb : b = a
      · rw [hb]; exact .inr ⟨_, _, there⟩
      · exact .inl (else_ b hb)
    refine go H only (fun b u z => ?_) (fun b z => ?_) (fun _ => hk) (want H only (.inl (.inr ⟨_, there⟩)))
    · by_cases hb : b = a
      · subst hb
        rw [there] at z
        cases z
        exact ⟨at_a, by rw [List.length_map]; exact short, vs, _, rel, at_a⟩
      · rw [else_ b hb] at z
        cases z
    · by_cases hb : b = a
      · exact hb
      · exact absurd (else_ b hb) z
theorem walk_ofG {l : PySem.W.OpenLaw} {n k : Nat} {q : Program} {loose : List Str} {XP : (Str → Option Value) → Heap → Prop} {YP : World → Heap → Prop} {d : DefRec} {K : Params → PySem.W.Frag} {sp : World → Sp} {x : Str}
    (hn : l.most = some n) (hn2 : n ≤ sizeLine) (hdf : d.params.defaults = []) (room : Room k callerA) (hY : ∀ (w : World) (h : Heap), YP w h → (K w.params).In h)
    (F : ∀ (w : World) (mg : Str → Option Value) (fa : Addr) (h : Heap), (K w.params).In h → h.Ns mainGlobals mg → mg d.name = some (.ref fa) →
      ∃ fd : FuncData, (∀ (s : Shared) (u : Value), BindsTo s fd ⟨[u], []⟩ [(x, u)]) ∧ ∀ base : Heap, (K w.params).In base → base.Ns mainGlobals mg → FnG l.prog w (K w.params) mg base k fa fd [x] (sp w))
    (want : ∀ (w : World) (H : Hp) (a : Addr) (ns : List Int), ns.length ≤ n → Only H → SqL (K w.params) H a (ns.map V.int) → sp w [.ref a] H (fun v _ => v = .bl true) fun _ _ _ => False) :
    PySem.W.WalkO q loose XP YP l.row.toRowW d [] (fun f vs => PySem.call f vs) := by
  apply Att.attach_call hn hdf
  intro w s₀ s₁ mg mb fa o pm cd doc a vs ns G Y ho hd hcd hmg hobj hints hlen hg
  have inK := hY w _ Y
  obtain ⟨fd, bound, hF⟩ := F w mg fa _ inK G.T.g hmg
  exact law_callG inK G.T.g G.T.b G.T.builtins G.T.nolimit hg hobj hints (Nat.le_trans hlen hn2) room hF bound (fun H hO hS => want w H a ns hlen hO hS)
/-! ### repr of a list -/
section
variable {X : Cx}
theorem call_repr_data (quiet : X.A.guards = some []) (hu : X.A.units + 70 < cLine) : CallR X (.builtin "repr") (fun xs H Q => ∃ a d, xs = [.ref a] ∧ Dp X.K H (.ref a) d ∧ d.showable = true ∧ d.hasDict = false ∧ d.depth ≤ 60 ∧ d.shown.length ≤ sizeLine ∧ Q (.str d.shown) H) := by
  intro pins s σ H xs us Q I r h
  obtain ⟨a, d, rfl, hd, hs, hnd, hdp, hz, q⟩ := h
  obtain ⟨u, rfl, e⟩ := vals1 r
  cases e
  obtain ⟨as, rd⟩ := Dp.reads I d _ _ hd (rfl : RelV (.ref a) (.ref a))
  exact repr_of_reads' rd hs (PyData.noDict_hsm hnd) quiet (by omega) (fun _ _ e => e) (fun h' u tk hk => ⟨.str _, H, I.kept hk, ⟨_, rfl⟩, q⟩) hz
end
end My
namespace My
open PySem L2 PyProof.Rows
/-! ### the rules within a comprehension -/
section
variable {X : Cx} {K : PySem.W.Frag}
theorem ix_listK (h : X.K = K) : IxR X (rIxL K) := h ▸ ix_list
theorem ix_tupK (h : X.K = K) : IxR X (rIxT K) := h ▸ ix_tup
theorem pi_listK {tg l : Expr} {tl : TE} (h : X.K = K) (hl : PE X l tl) : PI X tg l (iList K tl) := h ▸ pi_list hl
theorem call_len_seqK (h : X.K = K) : CallR X (.builtin "len") (fun xs H Q => ∃ p ys, xs = [V.ref p] ∧ (SqL K H p ys ∨ SqT K H p ys) ∧ Q (.int (ys.length : Int)) H) := h ▸ call_len_seq
theorem op_in_seqK (h : X.K = K) : OpR X (compareOp .In) (rIn K false) := h ▸ op_in_seq
theorem op_notIn_seqK (h : X.K = K) : OpR X (compareOp .NotIn) (rIn K true) := h ▸ op_notIn_seq
end
theorem mt_indexK {X : Cx} {K : PySem.W.Frag} (h : X.K = K) : MtR X "list.index" (rIndex K) := h ▸ mt_index
theorem pe_bmK {X : Cx} {K : PySem.W.Frag} {o e : Expr} {es : List Expr} {to : TE} {t : TA} {name : Str} {apos cpos : Pos} {T id : String} {r : V → List V → Hp → VK → Prop} (h : X.K = K) (pa : PlainAttrs T) (slot : Slot T name id) (hty : typeOf (.builtin id) = pure (.type "method_descriptor")) (hm : MtR X id r) (ho : PE X o to) (ha : PA X (e :: es) t)
    (hbase : attributeBase o name X.env (eval o X.env) = eval o X.env := by rfl)
    (hfew : ((backTo cpos (starEach (e :: es) X.env)).all (fun x => !x.1) && (backToKw cpos (keywordEach [] X.env)).all (fun x => x.1.isSome)
      && decide ((e :: es).length + ([] : List Keyword).length + (if ([] : List Keyword).isEmpty then 0 else 1) < 30)) = true := by rfl)
    (hline : (apos.endLine == cpos.line) = true := by rfl) (hs : starEach (e :: es) X.env = (false, eval e X.env) :: starEach es X.env := by rfl) (hplain : (backTo cpos (starEach es X.env)).any (·.1) = false := by rfl) :
    PE X (.Call (.Attribute o name apos) (e :: es) [] cpos) (tBM K T r to t) := h ▸ pe_bm pa slot hty hm ho ha hbase hfew hline hs hplain
/-- a field, read within a comprehension -/
theorem pe_fldK {X : Cx} {K : PySem.W.Frag} {e : Expr} {ta : TE} {f : Str} {pos : Pos} (h : X.K = K) (he : PE X e ta) (hb : attributeBase e f X.env (eval e X.env) = eval e X.env := by rfl) : PE X (.Attribute e f pos) (tFld K ta f) := h ▸ pe_fld he hb
theorem pe_fldA {X : Cx} {e : Expr} {ta : TE} {f : Str} {pos : Pos} (he : PE X e ta) (hb : attributeBase e f X.env (eval e X.env) = eval e X.env := by rfl) : PE X (.Attribute e f pos) (tFld X.K ta f) := pe_fld he hb
/-! ### defs that may show a value (repr) -/
theorem hu70 {k : Nat} {A : Around} (h : Room k A) : A.units + 70 < cLine := by
  have := h.un
  omega
theorem u65 {k : Nat} {A : Around} (h : Room k A) : A.units + 65 < cLine := by
  have := h.un
  omega
section
variable {P : Program} {w : World} {K : PySem.W.Frag} {mg : Str → Option Value} {base : Heap}
def GoodG (P : Program) (w : World) (K : PySem.W.Frag) (mg : Str → Option Value) (base : Heap) (x : Str) (st : Stmt) (ps : List Str) (k : Nat) (sp : Sp) : Prop := ∃ (f : Addr) (fd : FuncData), FnG P w K mg base k f fd ps sp ∧ mg x = some (.ref f) ∧ PySem.W.keepIn K (.ref f) = true ∧ Binds K fd ps [] ∧ Fun K x x st f fd
theorem Def.goodG {x : Str} {st : Stmt} {ps : List Str} {k : Nat} {sp : Sp} (D : Def K mg x st ps) (h : ∀ f fd, Fun K x x st f fd → FnG P w K mg base k f fd ps sp) : GoodG P w K mg base x st ps k sp := by
  obtain ⟨f, fd, F, m, b⟩ := D
  exact ⟨f, fd, h f fd F, m, F.kp, b, F⟩
end
end My
/-! own exceptions without arguments; defs that may raise, called by keywords -/
namespace My
open PySem PySem.Spec PyProof.Rows L2 PySem.Calls
section
variable {X : Cx} {C : Addr} {bmB : List Value} {B newId initId : String}
/-- X() -/
theorem pmk_own0 {x : Str} {p pos : Pos} (F : ExcBaseFacts B newId initId bmB) (q : PySem.W.excIn X.K C bmB newId = true) (gC : X.mg x = some (.ref C)) (kC : PySem.W.keepIn X.K (.ref C) = true) (r : Raises X (.ref C)) (hg : Gl X x)
    (hdb : (x == ("__debug__" : Str)) = false := by decide) : PMk X (.Call (.Name x p) [] [] pos) (fun _ H Q => Q (.ref C) none H) := by
  intro pins s σ H Q I h
  refine wpAny_Call_Name_kw (ld_glob I hg gC ?_ hdb)
  refine PySem.W.callWith_K0 I.kIn kC ?_
  show wpAny _ _ (call (.ref C) []) _ _ _
  obtain ⟨bm, N, nm, qn, bs, hdct, sn, sub, ab, col, dd, k0, k1, k2, k3, k5, mN, hC, hN, hni, T⟩ := exc_obj I.kIn q
  refine wpAny_call_exc_subT F T hC hN hni (fun h' e hm => ?_) (by show 0 ≤ sizeLine; exact Nat.zero_le _)
  exact mk_of I hm r h (I.hok.gone hm.new)
variable {CX : CXT} {k : Nat} {f : Addr} {fd : FuncData} {ps ks : List Str} {sp : Sp} {E : L2.St → XK} {x : Str} {p pos : Pos} {kws : List Keyword} {tk : TA} {g : List Value → List Value → List Value} {gV : List V → List V → List V}
theorem run_fnKS {pins : List (Addr × Obj)} {σ : L2.St} {H : Hp} {s : Shared} {Q : VK} {us ws : List Value} {vs zs : List V} (F : FnOk X.prog X.w X.K X.mg X.base CX k f fd ps sp) (hr : Room k X.A) (hb : KBinds X.K fd ps ks g gV) (out : PassesAt CX X σ (E σ))
    (I : Inv X pins σ H s) (r : Vals vs us) (rz : Vals zs ws) (h : sp (gV vs zs) H Q (E σ)) : wpAny (model X.prog X.w) X.A (call (.ref f) us (ks.zip ws)) (EP X pins σ Q) X.xe s := by
  have rr := hb.rel r rz
  have many : (g us ws).length = ps.length := by rw [← rr.length]; exact F.len _ _ _ _ h
  refine wpAny_call (codeAny_mono (F.run X.A X.stack s H ⟨us, ks.zip ws⟩ (g us ws) (gV vs zs) Q (E σ) hr I.env0 (hb.to s us ws I.kIn many) rr h) fun fin s1 told => ?_)
  cases fin with
  | error u => exact out pins H s u s1 I told
  | ok fl =>
    cases fl with
    | ret u => exact I.after told
    | next => exact told.elim
    | brk => exact told.elim
    | cont => exact told.elim
def tCallKS (sp : Sp) (gV : List V → List V → List V) (E : L2.St → XK) (tk : TA) : TE := fun σ H Q => tk σ H fun zs H1 => sp (gV [] zs) H1 Q (E σ)
/-- f(a=.., b=..), f may raise -/
theorem pe_callKS (F : FnOk X.prog X.w X.K X.mg X.base CX k f fd ps sp) (hr : Room k X.A) (hg : Gl X x) (hm : X.mg x = some (.ref f)) (hk : PySem.W.keepIn X.K (.ref f) = true) (hb : KBinds X.K fd ps ks g gV) (out : ∀ σ, PassesAt CX X σ (E σ))
    (hkw : PK X kws tk) (hall : (backToKw pos (keywordEach kws X.env)).all (·.1.isSome) = true := by rfl) (hks : (backToKw pos (keywordEach kws X.env)).filterMap (·.1) = ks := by rfl)
    (hdb : (x == ("__debug__" : Str)) = false := by decide)
    (hpl : ((backTo pos (starEach [] X.env)).any (·.1) || (backToKw pos (keywordEach kws X.env)).any (·.1.isNone)) = false := by rfl) :
    PE X (.Call (.Name x p) [] kws pos) (tCallKS sp gV E tk) := by
  refine ⟨fun pins s σ H Q I h => ?_⟩
  refine wpAny_Call_Name_kw (ld_glob I hg hm ?_ hdb)
  refine PySem.W.callWith_KW0 (h₀ := X.base) I.ok.mod.kin hk hall (thn (hkw.run pos pins s σ H _ I h) fun ws s2 ⟨zs, H2, I2, rz, q2⟩ => ⟨I2.kIn, ?_⟩) hpl
  rw [hks]
  exact run_fnKS F hr hb (out σ) I2 .nil rz q2
end
section
variable {P : Program} {w : World} {K : PySem.W.Frag} {mg : Str → Option Value} {base : Heap}
/-- a def that keeps a promise and may raise -/
def GoodX (P : Program) (w : World) (K : PySem.W.Frag) (mg : Str → Option Value) (base : Heap) (x : Str) (st : Stmt) (ps : List Str) (k : Nat) (sp : Sp) : Prop := ∃ (f : Addr) (fd : FuncData), FnOk P w K mg base (L2.CX P w) k f fd ps sp ∧ mg x = some (.ref f) ∧ PySem.W.keepIn K (.ref f) = true ∧ Binds K fd ps [] ∧ Fun K x x st f fd
theorem Def.goodX {x : Str} {st : Stmt} {ps : List Str} {k : Nat} {sp : Sp} (D : Def K mg x st ps) (h : ∀ f fd, Fun K x x st f fd → FnOk P w K mg base (L2.CX P w) k f fd ps sp) : GoodX P w K mg base x st ps k sp := by
  obtain ⟨f, fd, F, m, b⟩ := D
  exact ⟨f, fd, h f fd F, m, F.kp, b, F⟩
/-- an own exception class, of a built-in base -/
structure OwnX (K : PySem.W.Frag) (mg : Str → Option Value) (x : Str) (bm : List Value) (newId : String) (C : Addr) : Prop where
  g : mg x = some (.ref C)
  x : PySem.W.excIn K C bm newId = true
  k : PySem.W.keepIn K (.ref C) = true
  b : PySem.W.subIn K (.ref C) (.type "BaseException") = some true
  t : PySem.W.typeIn K (.ref C) = some (.type "type")
  e : PySem.W.exmOne K (.ref C) (.ref C) = some true
abbrev rtBases : List Value := [.type "RuntimeError", .type "Exception", .type "BaseException", .type "object"]
end
end My
/-! C(k = v, ..): a new instance by keywords -/
namespace My
open PySem PySem.W L2 PyProof.Rows
/-- an __init__ that keeps a promise, with the def itself -/
def GoodJ (P : Program) (w : World) (K : PySem.W.Frag) (mg : Str → Option Value) (base : Heap) (C : Addr) (x qual : Str) (st : Stmt) (ps : List Str) (k : Nat) (sp : Sp) : Prop := ∃ (f : Addr) (fd : FuncData), FnOk P w K mg base CX0 k f fd ps sp ∧ Mk K C f ∧ Binds K fd ps [] ∧ Fun K x qual st f fd
theorem DefI.goodJ {P : Program} {w : World} {K : PySem.W.Frag} {mg : Str → Option Value} {base : Heap} {C : Addr} {x qual : Str} {st : Stmt} {ps : List Str} {k : Nat} {sp : Sp} (D : DefI K C x qual st ps) (h : ∀ f fd, Fun K x qual st f fd → FnOk P w K mg base CX0 k f fd ps sp) : GoodJ P w K mg base C x qual st ps k sp := by
  obtain ⟨f, fd, F, m, b⟩ := D
  exact ⟨f, fd, h f fd F, m, b, F⟩
theorem fun_kbn {K : PySem.W.Frag} {x qual : Str} {st : Stmt} {f : Addr} {fd : FuncData} {ps ks : List Str} (F : Fun K x qual st f fd) (n : Nat) (g : List Value → List Value → List Value) (gV : List V → List V → List V)
    (hrel : ∀ {vs : List V} {us : List Value} {zs : List V} {ws : List Value}, Vals vs us → Vals zs ws → Vals (gV vs zs) (g us ws))
    (h : ∀ (kV doc pm : Value) (an : Option Addr) (cdv ct : Value) (us ws : List Value), us.length = n → ws.length = ks.length → bindArgs (PySem.W.fnOf x qual (defArgs st) (defBody st) (defScope st) .none kV doc pm an cdv ct) ⟨us, ks.zip ws⟩ = pure (ps.zip (g us ws))) : KBn K fd ps n ks g gV := by
  obtain ⟨oc, od, kV, doc, pm, an, cdv, ct, osl, rfl, lk, hcd⟩ := F.ex
  exact ⟨fun s us ws X l1 l2 => .of_eq (h kV doc pm an cdv ct us ws l1 l2), hrel⟩
/-- one keyword -/
theorem fun_kbn1 {K : PySem.W.Frag} {x qual : Str} {st : Stmt} {f : Addr} {fd : FuncData} {p q : Str} (F : Fun K x qual st f fd)
    (h : ∀ (kV doc pm : Value) (an : Option Addr) (cdv ct : Value) (u v : Value), bindArgs (PySem.W.fnOf x qual (defArgs st) (defBody st) (defScope st) .none kV doc pm an cdv ct) ⟨[u], [(q, v)]⟩ = pure ([p, q].zip [u, v])) : KBn K fd [p, q] 1 [q] gm1 gm1 :=
  fun_kbn F 1 gm1 gm1 relm1 fun kV doc pm an cdv ct us ws l1 l2 => by
    obtain ⟨u, rfl⟩ := List.length_eq_one_iff.mp l1
    obtain ⟨v, rfl⟩ := List.length_eq_one_iff.mp l2
    exact h kV doc pm an cdv ct u v
end My
/-! own exceptions that bear a value; instances made that may raise -/
namespace My
open PySem PySem.Spec PyProof.Rows L2 PySem.Calls
/-- self.value = value, of an exception that is being made -/
def spExcInit (C : Addr) : Sp := fun vs H Q _ => ∃ a v, vs = [V.ref a, v] ∧ H a = some (exo a C none) ∧ ∀ dx, H dx = none → dx ≠ a → Q .non (upd (upd H dx (exd dx [("value", v)])) a (exo a C (some dx)))
/-- an own exception class whose instances bear a value -/
structure ExcV (P : Program) (w : World) (K : PySem.W.Frag) (mg : Str → Option Value) (base : Heap) (x : Str) (C : Addr) : Prop where
  T : OexC K C
  g : mg x = some (.ref C)
  i : ∃ fI fd, PySem.W.findIn K (.ref C) "__init__" = some (some (.ref fI)) ∧ PySem.W.typeIn K (.ref fI) = some (.type "function") ∧ FnOk P w K mg base CX0 1 fI fd ["self", "value"] (spExcInit C) ∧ L2.Binds K fd ["self", "value"] []
  xf : XfC K C
  hno : PySem.W.findIn K (.ref C) "value" = some none
theorem del_back {H : Hp} {a d : Addr} {o1 o2 o3 o4 : HO} (ha : H a = none) (hd : d ≠ a) : upd (del (upd (upd (upd H a o1) d o2) a o3) a) d o4 = upd H d o4 := by
  funext b
  by_cases h1 : b = d
  · rw [h1, upd_same, upd_same]
  · rw [upd_ne h1, upd_ne h1]
    by_cases h2 : b = a
    · rw [h2, del_same, ha]
    · rw [del_ne h2, upd_ne h2, upd_ne h1, upd_ne h2]
/-- the reading of X(v) -/
theorem mkv {C : Addr} {v : V} {H1 : Hp} {Q : XK} (q : ∀ d, H1 d = none → Q (.ref C) (some d) (upd H1 d (.xd [("value", v)]))) : ([v] : List V).length ≤ 1000 ∧ ∀ a, H1 a = none → spExcInit C (.ref a :: ([v] ++ [])) (upd H1 a (exo a C none))
      (fun u H2 => u = .non ∧ ∃ (d : Addr) (fs : List (Str × V)), H2 a = some (exo a C (some d)) ∧ H2 d = some (exd d fs) ∧ H1 d = none ∧ Q (.ref C) (some d) (upd (del H2 a) d (.xd fs))) (fun _ _ _ => False) := by
  refine ⟨by simp, fun a na => ⟨a, v, rfl, upd_same, fun dx ndx hne => ?_⟩⟩
  rw [upd_ne hne] at ndx
  refine ⟨rfl, dx, _, upd_same, by rw [upd_ne hne, upd_same], ndx, ?_⟩
  rw [del_back na hne]
  exact q dx ndx
section
variable {X : Cx}
/-- X(e), to be raised -/
theorem pmk_val {x : Str} {C : Addr} {p pos : Pos} {e : Expr} {ta : TA} (V : ExcV X.prog X.w X.K X.mg X.base x C) (hr : Room 2 X.A) (hg : Gl X x) (ha : PA X [e] ta) (hdb : (x == ("__debug__" : Str)) = false := by decide)
    (hse : starEach [e] X.env = (false, eval e X.env) :: starEach [] X.env := by rfl) (hpl : (backTo pos (starEach [] X.env)).any (·.1) = false := by rfl) :
    PMk X (.Call (.Name x p) [e] [] pos) (tMkO C (spExcInit C) [] ta) := by
  obtain ⟨fI, fd, i1, i2, F, b⟩ := V.i
  exact pmk_oex (p := p) (pos := pos) (dvs := []) V.T i1 i2 F hr b .nil pass0 hg V.g ha hdb hse hpl
/-- C(k = v, ..), C's __init__ may raise -/
def tMakeKS (C : Addr) (m : Nat) (sp : Sp) (gV : List V → List V → List V) (E : L2.St → XK) (tk : TA) : TE := fun σ H Q => tk σ H fun zs H1 => zs.length = m ∧ ∀ x dx, H1 x = none → H1 dx = none → dx ≠ x →
  sp (gV [.ref x] zs) (upd (upd H1 dx (.own x)) x (.ins C dx [])) (fun v H2 => v = .non ∧ Q (.ref x) H2) (E σ)
variable {CX : CXT} {k n : Nat} {f C : Addr} {fd : FuncData} {ps ks : List Str} {sp : Sp} {E : L2.St → XK} {x : Str} {p pos : Pos} {kws : List Keyword} {tk : TA} {g : List Value → List Value → List Value} {gV : List V → List V → List V}
theorem run_makeKS {pins : List (Addr × Obj)} {σ : L2.St} {H : Hp} {s : Shared} {Q : VK} {ws : List Value} {zs : List V} (M : Mk X.K C f) (F : FnOk X.prog X.w X.K X.mg X.base CX k f fd ps sp) (hr : Room (k + 1) X.A) (hb : KBn X.K fd ps 1 ks g gV) (out : PassesAt CX X σ (E σ))
    (I : Inv X pins σ H s) (rz : Vals zs ws) (l2 : zs.length = ks.length)
    (h : ∀ x dx, H x = none → H dx = none → dx ≠ x → sp (gV [.ref x] zs) (upd (upd H dx (.own x)) x (.ins C dx [])) (fun v H2 => v = .non ∧ Q (.ref x) H2) (E σ)) :
    wpAny (model X.prog X.w) X.A (call (.ref C) [] (ks.zip ws)) (EP X pins σ Q) X.xe s := by
  have told := h (s.heap.objs.size + 1) s.heap.objs.size (I.hok.fresh (Nat.le_succ _)) (I.hok.fresh (Nat.le_refl _)) (Nat.ne_of_lt (Nat.lt_succ_self _))
  have J := Inv.made (C := C) I
  have self1 : Vals [V.ref (s.heap.objs.size + 1)] [Value.ref (s.heap.objs.size + 1)] := .cons rfl .nil
  have hrun := F.run _ X.stack _ _ ⟨[Value.ref (s.heap.objs.size + 1)], ks.zip ws⟩ (g [Value.ref (s.heap.objs.size + 1)] ws) _ _ (E σ) (hr.make C [] (ks.zip ws)) (J.env0.make C [] (ks.zip ws)) (hb.to _ [Value.ref (s.heap.objs.size + 1)] ws J.kIn rfl (rz.length.symm.trans l2)) (hb.rel self1 rz) told
  refine wpAny_call (make_map (f := f) I.kIn M.makes M.init (beq_iff_eq.mp M.fn) (codeAny_mono hrun fun fin s1 got => ?_))
  cases fin with
  | error u => exact out pins _ _ u s1 J got
  | ok fl =>
    cases fl with
    | ret u =>
      obtain ⟨v, H1, J1, rv, ev, q⟩ := J.after got
      subst ev
      exact ⟨rv, ⟨V.ref (s.heap.objs.size + 1), H1, J1, rfl, q⟩⟩
    | next => exact got.elim
    | brk => exact got.elim
    | cont => exact got.elim
theorem pe_makeKS (M : Mk X.K C f) (F : FnOk X.prog X.w X.K X.mg X.base CX k f fd ps sp) (hr : Room (k + 1) X.A) (hg : Gl X x) (hm : X.mg x = some (.ref C)) (hb : KBn X.K fd ps 1 ks g gV) (out : ∀ σ, PassesAt CX X σ (E σ)) (hkw : PK X kws tk)
    (hall : (backToKw pos (keywordEach kws X.env)).all (·.1.isSome) = true := by rfl) (hks : (backToKw pos (keywordEach kws X.env)).filterMap (·.1) = ks := by rfl) (hdb : (x == ("__debug__" : Str)) = false := by decide)
    (hpl : ((backTo pos (starEach [] X.env)).any (·.1) || (backToKw pos (keywordEach kws X.env)).any (·.1.isNone)) = false := by rfl) :
    PE X (.Call (.Name x p) [] kws pos) (tMakeKS C ks.length sp gV E tk) := by
  refine ⟨fun pins s σ H Q I h => ?_⟩
  refine wpAny_Call_Name_kw (ld_glob I hg hm ?_ hdb)
  refine PySem.W.callWith_KW0 (h₀ := X.base) I.ok.mod.kin M.kp hall ?_ hpl
  refine thn (hkw.run pos pins s σ H _ I h) fun ws s2 ⟨zs, H2, I2, rz, l2, q2⟩ => ⟨I2.kIn, ?_⟩
  rw [hks]
  exact run_makeKS M F hr hb (out σ) I2 rz l2 q2
end
/-- an __init__ that keeps a promise and may raise, with the def itself -/
def GoodJX (P : Program) (w : World) (K : PySem.W.Frag) (mg : Str → Option Value) (base : Heap) (C : Addr) (x qual : Str) (st : Stmt) (ps : List Str) (k : Nat) (sp : Sp) : Prop := ∃ (f : Addr) (fd : FuncData), FnOk P w K mg base (L2.CX P w) k f fd ps sp ∧ Mk K C f ∧ Binds K fd ps [] ∧ Fun K x qual st f fd
theorem DefI.goodJX {P : Program} {w : World} {K : PySem.W.Frag} {mg : Str → Option Value} {base : Heap} {C : Addr} {x qual : Str} {st : Stmt} {ps : List Str} {k : Nat} {sp : Sp} (D : DefI K C x qual st ps) (h : ∀ f fd, Fun K x qual st f fd → FnOk P w K mg base (L2.CX P w) k f fd ps sp) : GoodJX P w K mg base C x qual st ps k sp := by
  obtain ⟨f, fd, F, m, b⟩ := D
  exact ⟨f, fd, h f fd F, m, b, F⟩
/-- the facts of an own exception class with a value -/
theorem excV_mk {P : Program} {w : World} {K : PySem.W.Frag} {mg : Str → Option Value} {base : Heap} {x : Str} {C fI : Addr} {st : Stmt} {q : Str} {p1 p2 p3 p4 : Pos} (T : OexC K C) (g : mg x = some (.ref C)) (i1 : PySem.W.findIn K (.ref C) "__init__" = some (some (.ref fI))) (i2 : PySem.W.typeIn K (.ref fI) = some (.type "function"))
    {fd : FuncData} (F : Fun K "__init__" q st fI fd) (b : L2.Binds K fd ["self", "value"] []) (S : FnScope ["self", "value"] ["self", "value"] (defScope st)) (hb : defBody st = [.Assign [.Attribute (.Name "self" p1) "value" p2] (.Name "value" p3) p4])
    (xf : XfC K C) (hno : PySem.W.findIn K (.ref C) "value" = some none) : ExcV P w K mg base x C := by
  refine ⟨T, g, ⟨fI, fd, i1, i2, ?_, b⟩, xf, hno⟩
  refine F.ok S (fun vs H Q E h => ?_) (fun cdv A outer s H vs Q E hr h => ?_)
  · obtain ⟨a, v, rfl, _⟩ := h
    rfl
  · obtain ⟨a, v, rfl, ha, q⟩ := h
    rw [hb]
    have vis : ∀ x ∈ ([Str.ofString "self", Str.ofString "value"] : List Str), Vis (defScope st) x := fun x hx => (S.par x hx).imp id .inl
    refine ⟨_, pss_one (ps_ost (pe_var (i := 0) rfl (vis _ (by simp))) (pe_var (i := 1) rfl (vis _ (by simp)))), ?_⟩
    exact ⟨_, rfl, _, rfl, a, C, rfl, T, hno, .inl ⟨ha, fun dx n1 n2 => q dx n1 n2⟩⟩
end My
/-! list(xs) within a comprehension -/
namespace My
open PySem L2 PyProof.Rows
theorem call_list_ofK {X : Cx} {K : PySem.W.Frag} (h : X.K = K) : CallR X (.type "list") (fun xs H Q => ∃ p ys, xs = [.ref p] ∧ (SqL K H p ys ∨ SqT K H p ys) ∧ ∀ l, H l = none → Q (.ref l) (upd H l (.lst ys))) := h ▸ call_list_of
end My
namespace My
open PySem L2 PyProof.Rows
/-- two keywords behind self, turned -/
def gm21 {α : Type} : List α → List α → List α | [a], [b, c] => [a, c, b] | _, _ => []
theorem gm21_inv {α : Type} {us ws : List α} (h : (gm21 us ws).length = 3) : ∃ a b c, us = [a] ∧ ws = [b, c] := by
  unfold gm21 at h
  split at h
  · exact ⟨_, _, _, rfl, rfl⟩
  · simp at h
theorem relm21 {vs : List V} {us : List Value} {zs : List V} {ws : List Value} (a : Vals vs us) (b : Vals zs ws) : Vals (gm21 vs zs) (gm21 us ws) := by
  cases a with
  | nil => exact .nil
  | cons r a =>
    cases a with
    | nil =>
      cases b with
      | nil => exact .nil
      | cons r1 b =>
        cases b with
        | nil => exact .nil
        | cons r2 b =>
          cases b with
          | nil => exact .cons r (.cons r2 (.cons r1 .nil))
          | cons r3 b => exact .nil
    | cons r2 a =>
      cases b <;> exact .nil
theorem fun_kbn2r {K : PySem.W.Frag} {x qual : Str} {st : Stmt} {f : Addr} {fd : FuncData} {p q r : Str} (F : Fun K x qual st f fd)
    (h : ∀ (kV doc pm : Value) (an : Option Addr) (cdv ct : Value) (u v z : Value), bindArgs (PySem.W.fnOf x qual (defArgs st) (defBody st) (defScope st) .none kV doc pm an cdv ct) ⟨[u], [(r, v), (q, z)]⟩ = pure ([p, q, r].zip [u, z, v])) : KBn K fd [p, q, r] 1 [r, q] gm21 gm21 :=
  fun_kbn F 1 gm21 gm21 relm21 fun kV doc pm an cdv ct us ws l1 l2 => by
    obtain ⟨u, rfl⟩ := List.length_eq_one_iff.mp l1
    obtain ⟨v, z, rfl⟩ : ∃ v z, ws = [v, z] := by
      match ws, l2 with
      | [v, z], _ => exact ⟨v, z, rfl⟩
    exact h kV doc pm an cdv ct u v z
end My
/-! repr of whatever reads as data, and of a dict without items -/
namespace My
open PySem PySem.Spec PyProof.Rows L2
def Shows (K : PySem.W.Frag) (H : Hp) (v : V) (d : PyData) : Prop := Dp K H v d ∨ (d = .dict [] ∧ ∃ a, v = .ref a ∧ H a = some (.dK []))
section
variable {X : Cx}
theorem call_repr_any (quiet : X.A.guards = some []) (hu : X.A.units + 70 < cLine) : CallR X (.builtin "repr") (fun xs H Q => ∃ v d, xs = [v] ∧ Shows X.K H v d ∧ d.showable = true ∧ (d.hasDict = true → d = .dict []) ∧ d.depth ≤ 60 ∧ d.shown.length ≤ sizeLine ∧ Q (.str d.shown) H) := by
  intro pins s σ H xs us Q I r h
  obtain ⟨v, d, rfl, hd, hs, hnd, hdp, hz, q⟩ := h
  obtain ⟨u, rfl, e⟩ := vals1 r
  rcases hd with hd | ⟨rfl, a, rfl, ha⟩
  · have hn : d.hasDict = false := by
      cases c : d.hasDict with
      | false => rfl
      | true =>
        have := hnd c
        subst this
        cases hd
    cases v with
    | ref a =>
      cases e
      obtain ⟨as, rd⟩ := Dp.reads I d _ _ hd (rfl : RelV (.ref a) (.ref a))
      exact repr_of_reads' rd hs (PyData.noDict_hsm hn) quiet (by omega) (fun _ _ e => e) (fun h' u tk hk => ⟨.str _, H, I.kept hk, ⟨_, rfl⟩, q⟩) hz
    | non =>
      cases e
      cases hd
      exact PySem.P.repr_of_none ⟨.str _, H, I.tok _, ⟨_, rfl⟩, q⟩
    | bl b =>
      cases e
      cases hd
      have e2 : PyData.shown (.bool b) = (if b = true then Str.ofString "True" else Str.ofString "False") := by cases b <;> rfl
      rw [e2] at q
      exact PySem.P.repr_of_bool ⟨.str _, H, I.tok _, ⟨_, rfl⟩, q⟩
    | int i =>
      obtain ⟨t, rfl⟩ := e
      cases hd
      exact PySem.P.repr_of_int (by simpa [PyData.showable] using hs) ⟨.str _, H, I.tok _, ⟨_, rfl⟩, q⟩
    | str x =>
      obtain ⟨t, rfl⟩ := e
      cases hd
      exact PySem.P.repr_of_str ⟨.str _, H, I.tok _, ⟨_, rfl⟩, q⟩ (by simpa only [PyData.shown] using hz)
    | _ => cases hd
  · cases e
    obtain ⟨_, lo, vs, kv, o, es, ep, h1, h2, h3, _, h5, _⟩ := dk_of I.hok ha
    cases kv
    have hes : es.toList = [] := by
      cases hh : es.toList with
      | nil => rfl
      | cons a b =>
        rw [hh] at h5
        cases h5
    have rd : Reads s.heap (.ref a) (.dict []) (a :: [] ++ []) := .dict h1 h2.1 h3 (by rw [hes]; exact .nil) (by rw [hes]; exact .nil)
    refine repr_of_reads' rd hs (fun _ hm => ?_) quiet (by omega) (fun _ _ e => e) (fun h' u tk hk => ⟨.str _, H, I.kept hk, ⟨_, rfl⟩, q⟩) hz
    have := List.mem_singleton.mp hm
    rw [← this] at lo
    simp at lo
end
end My
/-! repr of data in which {} stands, however deep -/
namespace My
open PySem PySem.Spec PyProof.Rows L2
mutual
/-- data, {} among it -/
inductive Dq (K : PySem.W.Frag) (H : Hp) : V → PyData → Prop
  | non : Dq K H .non .none
  | bl (b : Bool) : Dq K H (.bl b) (.bool b)
  | int (i : Int) : Dq K H (.int i) (.int i)
  | str (x : Str) : Dq K H (.str x) (.str x)
  | lst {p : Addr} {vs : List V} {es : List PyData} (h : SqL K H p vs) (k : DqAll K H vs es) : Dq K H (.ref p) (.list es)
  | tup {p : Addr} {vs : List V} {es : List PyData} (h : SqT K H p vs) (k : DqAll K H vs es) : Dq K H (.ref p) (.tuple es)
  | emp {p : Addr} (h : H p = some (.dK [])) : Dq K H (.ref p) (.dict [])
inductive DqAll (K : PySem.W.Frag) (H : Hp) : List V → List PyData → Prop
  | nil : DqAll K H [] []
  | cons {v : V} {vs : List V} {e : PyData} {es : List PyData} (h : Dq K H v e) (k : DqAll K H vs es) : DqAll K H (v :: vs) (e :: es)
end
section
variable {X : Cx} {pins : List (Addr × Obj)} {σ : L2.St} {H : Hp} {s : Shared}
theorem emp_at (I : Inv X pins σ H s) {p : Addr} (h : H p = some (.dK [])) : (p == sysModules) = false ∧ ∃ o es n, s.heap.get? p = some o ∧ o.cls = .type "dict" ∧ o.data = .dict es n ∧ es.toList = [] := by
  obtain ⟨_, lo, vs, kv, o, es, ep, h1, h2, h3, _, h5, _⟩ := dk_of I.hok h
  cases kv
  refine ⟨lo, o, es, ep, h1, h2.1, h3, ?_⟩
  cases hh : es.toList with
  | nil => rfl
  | cons a b =>
    rw [hh] at h5
    cases h5
mutual
theorem Dq.rd (I : Inv X pins σ H s) : ∀ {v : V} {d : PyData} {u : Value}, Dq X.K H v d → RelV v u → ∃ as, Reads s.heap u d as
  | _, _, _, .non, r => by
    cases r
    exact ⟨_, .none⟩
  | _, _, _, .bl b, r => by
    cases r
    exact ⟨_, .bool b⟩
  | _, _, _, .int i, r => by
    obtain ⟨t, rfl⟩ := r
    exact ⟨_, .int i t⟩
  | _, _, _, .str x, r => by
    obtain ⟨t, rfl⟩ := r
    exact ⟨_, .str x t⟩
  | _, _, _, .lst h k, r => by
    cases r
    obtain ⟨its, rv, ⟨o, n, ho, hc, _, hd⟩, _⟩ := I.list h
    obtain ⟨as, ha⟩ := DqAll.rd I k rv
    exact ⟨_, .list ho hc hd ha⟩
  | _, _, _, .tup h k, r => by
    cases r
    obtain ⟨its, rv, ⟨o, ho, hc, n, hd⟩, _⟩ := I.tuple h
    obtain ⟨as, ha⟩ := DqAll.rd I k rv
    exact ⟨_, .tuple ho hc hd ha⟩
  | _, _, _, .emp h, r => by
    cases r
    obtain ⟨_, o, es, n, h1, h2, h3, h4⟩ := emp_at I h
    exact ⟨_, .dict (as := []) (bs := []) h1 h2 h3 (by rw [h4]; exact .nil) (by rw [h4]; exact .nil)⟩
theorem DqAll.rd (I : Inv X pins σ H s) : ∀ {vs : List V} {ds : List PyData} {us : List Value}, DqAll X.K H vs ds → Vals vs us → ∃ as, ReadsAll s.heap us ds as
  | _, _, _, .nil, r => by
    cases r
    exact ⟨_, .nil⟩
  | _, _, _, .cons h k, r => by
    cases r with
    | cons r1 r2 =>
      obtain ⟨as, q1⟩ := Dq.rd I h r1
      obtain ⟨bs, q2⟩ := DqAll.rd I k r2
      exact ⟨_, .cons q1 q2⟩
end
theorem shown_emp : PyData.shown (.dict []) = dictText [] := by simp only [PyData.shown, PyData.shownKv]
mutual
/-- how it is shown amid a list or a tuple -/
theorem Dq.in_ (I : Inv X pins σ H s) : ∀ {v : V} {d : PyData} {u : Value}, Dq X.K H v d → RelV v u → d.showable = true → d.shown.length ≤ sizeLine → ∃ bs, ReadAtMost s.heap d.depth bs ∧ ReprK X.prog X.w bs s.heap d.depth u d.shown
  | _, _, _, .non, r, _, _ => by
    cases r
    refine ⟨[], fun _ z => (nomatch z), ?_⟩
    simp only [PyData.shown]
    exact ReprK.of_is ReprIs.none _ _ _
  | _, _, _, .bl b, r, _, _ => by
    cases r
    refine ⟨[], fun _ z => (nomatch z), ?_⟩
    simp only [PyData.shown]
    exact ReprK.of_is (ReprIs.bool b) _ _ _
  | _, _, _, .int i, r, sh, _ => by
    obtain ⟨t, rfl⟩ := r
    refine ⟨[], fun _ z => (nomatch z), ?_⟩
    simp only [PyData.shown]
    exact ReprK.of_is (ReprIs.int t (by simpa [PyData.showable] using sh)) _ _ _
  | _, _, _, .str x, r, _, sz => by
    obtain ⟨t, rfl⟩ := r
    refine ⟨[], fun _ z => (nomatch z), ?_⟩
    simp only [PyData.shown] at sz ⊢
    exact ReprK.of_is (ReprIs.str x t sz) _ _ _
  | _, _, _, .lst (p := p) (vs := vs) (es := ds) h k, r, sh, sz => by
    cases r
    obtain ⟨its, rv, ⟨o, n, ho, hc, _, hd⟩, _⟩ := I.list h
    obtain ⟨as, ra⟩ := DqAll.rd I k rv
    simp only [PyData.shown] at sz
    obtain ⟨bs, hb, hk⟩ := DqAll.in_ I k rv (by simpa [PyData.showable] using sh) fun t ht => Nat.le_trans (listText_mem_le ht) sz
    have rd : Reads s.heap (.ref p) (.list ds) (p :: as) := .list ho hc hd ra
    have dp : PyData.depth (.list ds) = PyData.depthAll ds + 1 := by simp only [PyData.depth]
    have nin := not_mem_of_deeper rd (by rw [dp]; exact Nat.lt_succ_self _) hb
    refine ⟨p :: bs, ReadAtMost.cons rd (by rw [dp]; exact Nat.le_succ _) hb, ?_⟩
    rw [dp]
    simp only [PyData.shown]
    cases its with
    | nil =>
      cases ra
      simp only [PyData.shownAll, listText_nil]
      exact ReprK.listEmpty ho hc hd
    | cons y ys => exact ReprK.list ho hc hd nin (by simpa using hk.length_eq) fun i y e => hk.item i y (by simpa using e)
  | _, _, _, .tup (p := p) (vs := vs) (es := ds) h k, r, sh, sz => by
    cases r
    obtain ⟨its, rv, ⟨o, ho, hc, n, hd⟩, _⟩ := I.tuple h
    obtain ⟨as, ra⟩ := DqAll.rd I k rv
    simp only [PyData.shown] at sz
    obtain ⟨bs, hb, hk⟩ := DqAll.in_ I k rv (by simpa [PyData.showable] using sh) fun t ht => Nat.le_trans (tupleText_mem_le ht) sz
    have rd : Reads s.heap (.ref p) (.tuple ds) _ := .tuple ho hc hd ra
    have dp : PyData.depth (.tuple ds) = PyData.depthAll ds + 1 := by simp only [PyData.depth]
    have nin := not_mem_of_deeper rd (by rw [dp]; exact Nat.lt_succ_self _) hb
    refine ⟨p :: bs, ReadAtMost.cons rd (by rw [dp]; exact Nat.le_succ _) hb, ?_⟩
    rw [dp]
    simp only [PyData.shown]
    exact ReprK.tuple ho hc hd nin (by simpa using hk)
  | _, _, _, .emp (p := p) h, r, _, _ => by
    cases r
    obtain ⟨lo, o, es, n, h1, h2, h3, h4⟩ := emp_at I h
    have rd : Reads s.heap (.ref p) (.dict []) _ := .dict (as := []) (bs := []) h1 h2 h3 (by rw [h4]; exact .nil) (by rw [h4]; exact .nil)
    have dp : PyData.depth (.dict []) = 0 + 1 := by simp only [PyData.depth, PyData.depthKv]
    refine ⟨[p], ReadAtMost.cons rd (n := 0) (Nat.zero_le _) (fun _ z => (nomatch z)), ?_⟩
    rw [dp, shown_emp]
    exact ReprK.dict h1 h2 h3 lo (fun z => (nomatch z)) (by rw [h4]; exact .nil)
theorem DqAll.in_ (I : Inv X pins σ H s) : ∀ {vs : List V} {ds : List PyData} {us : List Value}, DqAll X.K H vs ds → Vals vs us → PyData.showableAll ds = true → (∀ t ∈ PyData.shownAll ds, t.length ≤ sizeLine) →
    ∃ bs, ReadAtMost s.heap (PyData.depthAll ds) bs ∧ ReprAllK X.prog X.w bs s.heap (PyData.depthAll ds) us (PyData.shownAll ds)
  | _, _, _, .nil, r, _, _ => by
    cases r
    refine ⟨[], fun _ z => (nomatch z), ?_⟩
    simp only [PyData.shownAll]
    exact .nil
  | _, _, _, .cons (e := d) (es := ds) h k, r, sh, sz => by
    cases r with
    | cons r1 r2 =>
      simp only [PyData.showableAll, Bool.and_eq_true] at sh
      simp only [PyData.shownAll] at sz
      obtain ⟨b1, m1, k1⟩ := Dq.in_ I h r1 sh.1 (sz _ List.mem_cons_self)
      obtain ⟨b2, m2, k2⟩ := DqAll.in_ I k r2 sh.2 fun t ht => sz t (List.mem_cons_of_mem _ ht)
      have le1 : PyData.depth d ≤ PyData.depthAll (d :: ds) := by simp only [PyData.depthAll]; exact Nat.le_max_left _ _
      have le2 : PyData.depthAll ds ≤ PyData.depthAll (d :: ds) := by simp only [PyData.depthAll]; exact Nat.le_max_right _ _
      refine ⟨b1 ++ b2, (m1.mono le1).append (m2.mono le2), ?_⟩
      simp only [PyData.shownAll]
      exact .cons ((k1.more fun b z => List.mem_append_left _ z).level_le le1) (k2.more_le (fun b z => List.mem_append_right _ z) le2)
end
end
/-- repr of such data -/
theorem call_repr_q {X : Cx} (quiet : X.A.guards = some []) (hu : X.A.units + 70 < cLine) : CallR X (.builtin "repr") (fun xs H Q => ∃ v d, xs = [v] ∧ Dq X.K H v d ∧ d.showable = true ∧ d.depth ≤ 60 ∧ d.shown.length ≤ sizeLine ∧ Q (.str d.shown) H) := by
  intro pins s σ H xs us Q I r h
  obtain ⟨v, d, rfl, hd, sh, hdp, sz, q⟩ := h
  obtain ⟨u, rfl, e⟩ := vals1 r
  have fin : ∀ (h' : Heap) (t : Tok) (tk : Nat), (∀ b o, s.heap.get? b = some o → h'.get? b = some o) → EP X pins σ Q (.str d.shown t) { s with heap := h', toks := tk } := fun h' t tk hk => ⟨.str _, H, I.kept hk, ⟨_, rfl⟩, q⟩
  have u1 : X.A.in1.units = X.A.units + 1 := rfl
  cases hd with
  | non =>
    cases e
    exact PySem.P.repr_of_none (fin _ _ _ fun _ _ z => z)
  | bl b =>
    cases e
    have e2 : PyData.shown (.bool b) = (if b = true then Str.ofString "True" else Str.ofString "False") := by cases b <;> rfl
    rw [e2] at fin
    exact PySem.P.repr_of_bool (fin _ _ _ fun _ _ z => z)
  | int i =>
    obtain ⟨t, rfl⟩ := e
    exact PySem.P.repr_of_int (by simpa [PyData.showable] using sh) (fin _ _ _ fun _ _ z => z)
  | str x =>
    obtain ⟨t, rfl⟩ := e
    exact PySem.P.repr_of_str (fin _ _ _ fun _ _ z => z) (by simpa only [PyData.shown] using sz)
  | @lst p vs ds h k =>
    cases e
    obtain ⟨its, rv, ⟨o, n, ho, hc, _, hdt⟩, _⟩ := I.list h
    obtain ⟨as, ra⟩ := DqAll.rd I k rv
    simp only [PyData.shown] at sz
    simp only [PyData.depth] at hdp
    obtain ⟨bs, hb, hk⟩ := DqAll.in_ I k rv (by simpa [PyData.showable] using sh) fun t ht => Nat.le_trans (listText_mem_le ht) sz
    have nin := not_mem_of_deeper (.list ho hc hdt ra) (by simp only [PyData.depth]; exact Nat.lt_succ_self _) hb
    refine call_repr_slot (by omega) ⟨o, ho, hc⟩ F.slot_list_repr.toG ?_
    simp only [PyData.shown] at fin
    cases its with
    | nil =>
      cases ra
      simp only [PyData.shownAll, listText_nil] at fin
      exact call_list_repr_empty ⟨o, ho, hc⟩ ho hdt ⟨_, _, rfl, fin _ _ _ fun _ _ z => z⟩
    | cons y ys => exact call_list_reprK ho hc hdt nin (by simpa using hk.length_eq) (fun i y z => hk.item i y (by simpa using z)) quiet (fun b _ => Clear.nil b) (by rw [u1]; omega) (fun _ _ z => z) (fun h' u tk hk' => ⟨_, _, rfl, fin h' u tk hk'⟩) sz
  | @tup p vs ds h k =>
    cases e
    obtain ⟨its, rv, ⟨o, ho, hc, n, hdt⟩, _⟩ := I.tuple h
    obtain ⟨as, ra⟩ := DqAll.rd I k rv
    simp only [PyData.shown] at sz
    simp only [PyData.depth] at hdp
    obtain ⟨bs, hb, hk⟩ := DqAll.in_ I k rv (by simpa [PyData.showable] using sh) fun t ht => Nat.le_trans (tupleText_mem_le ht) sz
    have nin := not_mem_of_deeper (.tuple ho hc hdt ra) (by simp only [PyData.depth]; exact Nat.lt_succ_self _) hb
    refine call_repr_slot (by omega) ⟨o, ho, hc⟩ F.slot_tuple_repr ?_
    simp only [PyData.shown] at fin
    exact call_tuple_reprK ho hc hdt nin (by simpa using hk) quiet (fun b _ => Clear.nil b) (by rw [u1]; omega) (fun _ _ z => z) (fun h' u tk hk' => ⟨_, _, rfl, fin h' u tk hk'⟩) sz
  | @emp p h =>
    cases e
    obtain ⟨lo, o, es, n, h1, h2, h3, h4⟩ := emp_at I h
    refine repr_of_reads' (.dict (as := []) (bs := []) h1 h2 h3 (by rw [h4]; exact .nil) (by rw [h4]; exact .nil)) sh (fun _ hm => ?_) quiet (by omega) (fun _ _ z => z) (fun h' u tk hk => fin h' u tk hk) sz
    have := List.mem_singleton.mp hm
    rw [← this] at lo
    simp at lo
end My
/-! C(k = v, l = w), both behind self, in their sequence -/
namespace My
open PySem L2 PyProof.Rows
def gm12 {α : Type} (us ws : List α) : List α := if us.length = 1 ∧ ws.length = 2 then us ++ ws else []
theorem gm12_is {α : Type} (u v z : α) : gm12 [u] [v, z] = [u, v, z] := rfl
theorem relm12 {vs : List V} {us : List Value} {zs : List V} {ws : List Value} (a : Vals vs us) (b : Vals zs ws) : Vals (gm12 vs zs) (gm12 us ws) := by
  unfold gm12
  rw [a.length, b.length]
  split
  · exact Vals.append a b
  · exact .nil
theorem fun_kbn2 {K : PySem.W.Frag} {x qual : Str} {st : Stmt} {f : Addr} {fd : FuncData} {p q r : Str} (F : Fun K x qual st f fd)
    (h : ∀ (kV doc pm : Value) (an : Option Addr) (cdv ct : Value) (u v z : Value), bindArgs (PySem.W.fnOf x qual (defArgs st) (defBody st) (defScope st) .none kV doc pm an cdv ct) ⟨[u], [(q, v), (r, z)]⟩ = pure ([p, q, r].zip [u, v, z])) : KBn K fd [p, q, r] 1 [q, r] gm12 gm12 :=
  fun_kbn F 1 gm12 gm12 relm12 fun kV doc pm an cdv ct us ws l1 l2 => by
    obtain ⟨u, rfl⟩ := List.length_eq_one_iff.mp l1
    match ws, l2 with
    | [v, z], _ => exact h kV doc pm an cdv ct u v z
/-- repr(v) in an except suite -/
theorem call_repr_qS {X : Cx} {a : Addr} {pn : List (Addr × Obj)} (quiet : X.A.guards = some []) (hu : X.A.units + 70 < cLine) : CallR (X.suite a pn) (.builtin "repr") (fun xs H Q => ∃ v d, xs = [v] ∧ Dq X.K H v d ∧ d.showable = true ∧ d.depth ≤ 60 ∧ d.shown.length ≤ sizeLine ∧ Q (.str d.shown) H) :=
  call_repr_q (X := X.suite a pn) quiet hu
end My
/-! own exceptions that bear a value by any name (self.line = line) -/
namespace My
open PySem PySem.Spec PyProof.Rows L2 PySem.Calls
/-- self.fld = fld, of an exception that is being made -/
def spExcF (fld : Str) (C : Addr) : Sp := fun vs H Q _ => ∃ a v, vs = [V.ref a, v] ∧ H a = some (exo a C none) ∧ ∀ dx, H dx = none → dx ≠ a → Q .non (upd (upd H dx (exd dx [(fld, v)])) a (exo a C (some dx)))
/-- an own exception class whose instances bear a value -/
structure ExcF (P : Program) (w : World) (K : PySem.W.Frag) (mg : Str → Option Value) (base : Heap) (fld x : Str) (C : Addr) : Prop where
  T : OexC K C
  g : mg x = some (.ref C)
  i : ∃ fI fd, PySem.W.findIn K (.ref C) "__init__" = some (some (.ref fI)) ∧ PySem.W.typeIn K (.ref fI) = some (.type "function") ∧ FnOk P w K mg base CX0 1 fI fd ["self", fld] (spExcF fld C) ∧ L2.Binds K fd ["self", fld] []
  xf : XfC K C
  hno : PySem.W.findIn K (.ref C) fld = some none
/-- the reading of X(v) -/
theorem mkf {fld : Str} {C : Addr} {v : V} {H1 : Hp} {Q : XK} (q : ∀ d, H1 d = none → Q (.ref C) (some d) (upd H1 d (.xd [(fld, v)]))) : ([v] : List V).length ≤ 1000 ∧ ∀ a, H1 a = none → spExcF fld C (.ref a :: ([v] ++ [])) (upd H1 a (exo a C none))
      (fun u H2 => u = .non ∧ ∃ (d : Addr) (fs : List (Str × V)), H2 a = some (exo a C (some d)) ∧ H2 d = some (exd d fs) ∧ H1 d = none ∧ Q (.ref C) (some d) (upd (del H2 a) d (.xd fs))) (fun _ _ _ => False) := by
  refine ⟨by simp, fun a na => ⟨a, v, rfl, upd_same, fun dx ndx hne => ?_⟩⟩
  rw [upd_ne hne] at ndx
  refine ⟨rfl, dx, _, upd_same, by rw [upd_ne hne, upd_same], ndx, ?_⟩
  rw [del_back na hne]
  exact q dx ndx
section
variable {X : Cx}
/-- X(e), to be raised -/
theorem pmk_fld {fld x : Str} {C : Addr} {p pos : Pos} {e : Expr} {ta : TA} (V : ExcF X.prog X.w X.K X.mg X.base fld x C) (hr : Room 2 X.A) (hg : Gl X x) (ha : PA X [e] ta) (hdb : (x == ("__debug__" : Str)) = false := by decide)
    (hse : starEach [e] X.env = (false, eval e X.env) :: starEach [] X.env := by rfl) (hpl : (backTo pos (starEach [] X.env)).any (·.1) = false := by rfl) :
    PMk X (.Call (.Name x p) [e] [] pos) (tMkO C (spExcF fld C) [] ta) := by
  obtain ⟨fI, fd, i1, i2, F, b⟩ := V.i
  exact pmk_oex (p := p) (pos := pos) (dvs := []) V.T i1 i2 F hr b .nil pass0 hg V.g ha hdb hse hpl
end
theorem excF_mk {fld : Str} {P : Program} {w : World} {K : PySem.W.Frag} {mg : Str → Option Value} {base : Heap} {x : Str} {C fI : Addr} {st : Stmt} {q : Str} {p1 p2 p3 p4 : Pos} (T : OexC K C) (g : mg x = some (.ref C)) (i1 : PySem.W.findIn K (.ref C) "__init__" = some (some (.ref fI))) (i2 : PySem.W.typeIn K (.ref fI) = some (.type "function"))
    {fd : FuncData} (F : Fun K "__init__" q st fI fd) (b : L2.Binds K fd ["self", fld] []) (S : FnScope ["self", fld] ["self", fld] (defScope st)) (hb : defBody st = [.Assign [.Attribute (.Name "self" p1) fld p2] (.Name fld p3) p4])
    (xf : XfC K C) (hno : PySem.W.findIn K (.ref C) fld = some none) (hd1 : (fld == ("__debug__" : Str)) = false := by decide) (hd2 : (fld == ("__classdict__" : Str)) = false := by decide) : ExcF P w K mg base fld x C := by
  refine ⟨T, g, ⟨fI, fd, i1, i2, ?_, b⟩, xf, hno⟩
  refine F.ok S (fun vs H Q E h => ?_) (fun cdv A outer s H vs Q E hr h => ?_)
  · obtain ⟨a, v, rfl, _⟩ := h
    rfl
  · obtain ⟨a, v, rfl, ha, q⟩ := h
    rw [hb]
    have vis : ∀ x ∈ ([Str.ofString "self", fld] : List Str), Vis (defScope st) x := fun x hx => (S.par x hx).imp id .inl
    refine ⟨_, pss_one (ps_ost (pe_var (i := 0) rfl (vis _ (by simp))) (pe_var (i := 1) rfl (vis _ (by simp)) (hd := hd1) (hcd := hd2))), ?_⟩
    exact ⟨_, rfl, _, rfl, a, C, rfl, T, hno, .inl ⟨ha, fun dx n1 n2 => q dx n1 n2⟩⟩
end My
/-! isinstance(e, C) of a caught error, whatever its dict, where the answer is yes -/
namespace My
open PySem PySem.Spec PyProof.Rows L2 PySem.Calls PySem.W
def rIsYes (K : PySem.W.Frag) (cls : Value) (a : Addr) : List V → Hp → VK → Prop := fun xs H Q => ∃ C : Addr, xs = [.ref a, .ref C] ∧ PySem.W.isIn K cls C = true ∧ Q (.bl true) H
theorem call_isYes {X : Cx} {a : Addr} {cls : Value} {d : Option Addr} {oe : Obj} {pn : List (Addr × Obj)} (hz : Zc cls d oe) : CallR (X.suite a ((a, oe) :: pn)) (.builtin "isinstance") (rIsYes X.K cls a) := by
  intro pins s σ H xs us Q I r h
  obtain ⟨C, rfl, e, q⟩ := h
  obtain ⟨u1, u2, rfl, r1, r2⟩ := vals2 r
  have e1 : u1 = .ref a := r1
  have e2 : u2 = .ref C := r2
  subst e1 e2
  have at_ : s.heap.get? a = some oe := (I.pin (a, oe) (List.mem_append.mpr (.inl List.mem_cons_self))).1
  have ty : ∀ M, PySem.W.Looks M s.heap (typeOf (.ref a)) cls := fun M => by
    have := hz.1
    rw [← this]
    exact (PySem.W.Looks.ld at_).andThen .now
  exact PySem.W.isi_call I.kIn ty e (fun z => nomatch z) ⟨.bl true, H, I, rfl, q⟩
end My
/-! lambdas that lie in lists: made, handed on, called -/
namespace My
open PySem PySem.Spec PyProof.Rows L2 LamX
/-- a ground in which the cells of the frame that runs stand -/
structure Rb (X : Cx) (σ : L2.St) (b' : Heap) : Prop where
  mod : Mod X.K X.mg b'
  cel : ∀ y c, X.env.cells.lookup y = some c → ∃ v, b'.IsCell c v
  val : ∀ (i : Nat) (y : Str) (v : V), X.N[i]? = some y → σ[i]? = some (some v) → (X.env.scope.names.lookup y = some .cell ∨ X.env.scope.names.lookup y = some .free) → ∃ c u, X.env.cells.lookup y = some c ∧ RelV v u ∧ b'.IsCell c (some u)
  inj : ∀ x y c, X.env.cells.lookup x = some c → X.env.cells.lookup y = some c → x = y
  len : σ.length = X.N.length
  has : ∀ y, (X.env.scope.names.lookup y = some .cell ∨ X.env.scope.names.lookup y = some .free) → ∃ c, X.env.cells.lookup y = some c
theorem rb_make {X : Cx} {pins : List (Addr × Obj)} {σ : L2.St} {H : Hp} {s : Shared} (I : Inv X pins σ H s) (own : ∀ y, X.fn y = true) : ∃ b', Rb X σ b' ∧ Env0 X.prog X.w X.K X.mg b' X.A X.stack s H := by
  have apart : ∀ b ∈ frs X.stack, X.base.get? b = none := fun b hb => (I.stack.mem hb).1
  have up : ∀ b o, X.base.get? b = some o → (PySem.W.hideAll (hidT s.heap H) (frs X.stack)).get? b = some o := fun b o e =>
    PySem.W.hideAll_get _ (hidT_get (I.bs b o e).1 (I.bs b o e).2) (fun hm => by rw [apart b hm] at e; cases e)
  have cl : ∀ y c v, X.env.cells.lookup y = some c → s.heap.IsCell c v → (PySem.W.hideAll (hidT s.heap H) (frs X.stack)).IsCell c v := by
    rintro y c v e ⟨o, ho, hd⟩
    refine ⟨o, PySem.W.hideAll_get _ (hidT_get ho (I.freeC y c e)) (fun hm => ?_), hd⟩
    rcases List.mem_cons.mp (I.stkSub c hm) with z | z
    · exact I.cne y c e z
    · obtain ⟨_, o', ho', _⟩ := I.ok.funs.mem z
      have h1 := Heap.lt_size ho'
      have h2 := I.ok.cab y c (own y) e
      exact Nat.lt_irrefl _ (Nat.lt_of_lt_of_le h1 h2)
  obtain ⟨m1, m2, ⟨mb, b1, b2⟩, m4⟩ := I.ok.mod
  have md : Mod X.K X.mg (PySem.W.hideAll (hidT s.heap H) (frs X.stack)) := ⟨m1.keeps up, m2.keeps up, ⟨mb, b1.keeps up, b2⟩, m4.keeps up⟩
  refine ⟨_, ⟨md, fun y c e => ?_, fun i y v e1 e2 k => ?_, I.ok.inj, I.len, I.ok.has⟩, ⟨I.ok.frames, md, fun b o e => of_hidT (PySem.W.of_hideAll _ e), ?_, funFrames_none I.stack (fun b hb => PySem.W.hideAll_none _ hb), I.stkFree, I.hok, I.bare⟩⟩
  · obtain ⟨v, z⟩ := I.cell y c e
    exact ⟨v, cl y c v e z⟩
  · obtain ⟨m, hn, hl⟩ := I.loc
    obtain ⟨u, r, q⟩ := hl i y v e1 e2 (.inr k)
    rcases q with ⟨k2, _⟩ | ⟨_, c, e, z⟩
    · have k2' : X.env.scope.names.lookup y = some .local := k2
      rcases k with k | k
      all_goals
        rw [k] at k2'
        cases k2'
    · exact ⟨c, u, e, r, cl y c _ e z⟩
  · rw [PySem.W.hideAll_size, hidT_size]
    exact Nat.le_refl _
/-- what may be called without arguments, at the ground base -/
def CallV (P : Program) (w : World) (K : PySem.W.Frag) (mg : Str → Option Value) (base : Heap) (k : Nat) (f : Addr) (H : Hp) (T : VK → XK → Prop) : Prop :=
  (∃ o oc od fd sl, H f = some (.frz o (.own f)) ∧ o = ⟨oc, od, .func fd, sl⟩) ∧
  ∀ (A : Around) (outer : List Env) (s : Shared) (Q : VK) (E : XK), Room k A → Env0 P w K mg base A outer s H → T Q E → codeAny (model P w) A (.call (.ref f) ⟨[], []⟩) (CR (L2.CX P w) outer P w H s Q E) s
abbrev atB (X : Cx) (b : Heap) : Cx := { X with base := b }
section
variable {X : Cx} {pins : List (Addr × Obj)} {σ : L2.St} {H : Hp} {s : Shared}
def tCallV (P : Program) (w : World) (K : PySem.W.Frag) (mg : Str → Option Value) (base : Heap) (k i : Nat) (E : L2.St → XK) : TE := fun σ H Q => ∃ (f : Addr) (T : VK → XK → Prop), σ[i]? = some (some (.ref f)) ∧ CallV P w K mg base k f H T ∧ T Q (E σ)
/-- x(), x a name that holds what may be called -/
theorem pe_callV {P : Program} {w : World} {K : PySem.W.Frag} {mg : Str → Option Value} {base : Heap} {x : Str} {i k : Nat} {E : L2.St → XK} {p1 p2 : Pos} (e1 : X.prog = P) (e2 : X.w = w) (e3 : X.K = K) (e4 : X.mg = mg) (e5 : X.base = base) (hN : X.N[i]? = some x) (hv : Vis X.env.scope x) (hr : Room k X.A) (out : ∀ σ, PassesAt (L2.CX X.prog X.w) X σ (E σ))
    (hd : (x == ("__debug__" : Str)) = false := by decide) (hcd : (x == ("__classdict__" : Str)) = false := by decide) : PE X (.Call (.Name x p1) [] [] p2) (tCallV P w K mg base k i E) := by
  subst e1 e2 e3 e4 e5
  constructor
  rintro pins s σ H Q I ⟨f, T, hs, ⟨⟨o, oc, od, fd, sl, hf, rfl⟩, go⟩, ht⟩
  have named := (pe_var (pos := p1) (i := i) hN hv hd hcd).run pins s σ H (fun v H1 => v = .ref f ∧ H1 = H) I ⟨.ref f, hs, rfl, rfl⟩
  refine wpAny_Call_Name_kw (thn named ?_)
  rintro u s1 ⟨v, H1, I1, r1, rfl, rfl⟩
  obtain rfl : u = Value.ref f := r1
  refine PySem.W.callWith_F0 ⟨_, _, _, _, (I1.hok f _ hf).1⟩ (wpAny_call (codeAny_mono (go X.A X.stack s1 Q (E σ) hr I1.env0 ht) ?_))
  rintro (e | fl) s' hq
  · exact out σ pins _ s1 e s' I1 hq
  · cases fl with
    | ret u => exact I1.after hq
    | next | brk | cont => exact hq.elim
/-- the state at a lambda's body -/
theorem lam_inv {b' : Heap} {A : Around} {outer : List Env} {E : XK} {scope : Scope} {f c' : Addr} {h₁ : Heap} {tk : Nat} (R : Rb X σ b') (L : LamS X.env.scope scope) (e0 : Env0 X.prog X.w X.K X.mg b' A outer s H) (hd : A.handled = none)
    (hns : h₁.Ns s.heap.objs.size fun y => ([] : List (Str × Value)).reverse.lookup y) (kp : ∀ b o, s.heap.get? b = some o → h₁.get? b = some o) :
    Inv (lamCx (atB X b') A outer s H E scope f c') [] σ H { s with heap := h₁, toks := tk } := by
  have inE : ∀ {y c}, (cloFrom X.env.cells scope.names []).lookup y = some c → (y, NameKind.free) ∈ scope.names ∧ X.env.cells.lookup y = some c := by
    intro y c e
    rcases cloFrom_mem (PySem.mem_of_lookup e) with hm | ⟨h1, h2⟩
    · cases hm
    · obtain ⟨c1, hc⟩ := R.has y (L.free _ h1 rfl)
      rw [hc] at h2
      exact ⟨h1, hc.trans (congrArg some h2.symm)⟩
  have there : ∀ {y}, scope.names.lookup y = some .free → ∃ c, (cloFrom X.env.cells scope.names []).lookup y = some c := fun {y} hl =>
    mem_lookup (cloFrom_has (cells := X.env.cells) (acc := []) (PySem.mem_of_lookup hl))
  have stays : ∀ {c v}, b'.IsCell c v → h₁.IsCell c v := fun ⟨o, ho, hd⟩ => ⟨o, kp _ _ (e0.bs _ _ ho).1, hd⟩
  have none_ : ∀ b : Addr, b ∉ (lamCx (atB X b') A outer s H E scope f c').ex := fun b z => nomatch (show b ∈ ([] : List Addr) from z)
  have nofree : ∀ {y}, scope.names.lookup y = some .local ∨ scope.names.lookup y = some .cell → False := fun {y} k => by
    rcases k with k | k
    · exact (L.own _ (PySem.mem_of_lookup k)).1 rfl
    · exact (L.own _ (PySem.mem_of_lookup k)).2 rfl
  have ok : (lamCx (atB X b') A outer s H E scope f c').Ok := {
    mod := e0.mod
    kind := L.kind
    glob := rfl
    blt := rfl
    above := Nat.le_refl _
    inj := fun y z c e1 e2 => R.inj y z c (inE e1).2 (inE e2).2
    has := fun y hy => by
      rcases (show scope.names.lookup y = some .cell ∨ scope.names.lookup y = some .free from hy) with k | k
      · exact (nofree (.inr k)).elim
      · exact there k
    cab := fun y c z _ => nomatch (show false = true from z)
    hd := fun _ => hd
    frames := Around.frames_deeper e0.frames
    stk := .inr ⟨rfl, rfl⟩
    exf := fun b z => absurd z (none_ b)
    bs := e0.bs
    bsz := e0.bsz
    noex := fun b _ _ => none_ b
    exfs := fun b z => absurd z (none_ b)
    funs := e0.funs
    frf := e0.frf }
  exact {
    ok := ok
    os := rfl
    bare := e0.bare
    base := Un.kept kp
    loc := ⟨_, hns, fun i y v e1 e2 e3 => by
      rcases (show scope.names.lookup y = some .local ∨ scope.names.lookup y = some .cell ∨ scope.names.lookup y = some .free from e3) with k | k | k
      · exact (nofree (.inl k)).elim
      · exact (nofree (.inr k)).elim
      · obtain ⟨c, u, ec, r, z⟩ := R.val i y v e1 e2 (L.free _ (PySem.mem_of_lookup k) rfl)
        obtain ⟨c2, h2⟩ := there k
        have e := (inE h2).2
        rw [ec] at e
        cases e
        exact ⟨u, r, .inr ⟨.inr k, c, h2, stays z⟩⟩⟩
    cell := fun y c e => by
      obtain ⟨v, z⟩ := R.cel y c (inE e).2
      exact ⟨v, stays z⟩
    free := e0.hok.fresh (Nat.le_refl _)
    freeC := fun y c e => by
      obtain ⟨v, o, ho, _⟩ := R.cel y c (inE e).2
      exact (e0.bs c o ho).2
    pin := fun q hq => nomatch (show q ∈ ([] : List (Addr × Obj)) ++ [] from hq)
    hok := e0.hok.kept kp
    len := R.len }
/-- a lambda that was made by the frame of X may be called, at a ground with the frame's cells -/
theorem lam_callV {b' : Heap} {f c' : Addr} {pm ctv : Value} {params : Arguments} {body : Expr} {scope : Scope} {k : Nat} {t : XK → TE} (R : Rb X σ b') (L : LamS X.env.scope scope)
    (hf : H f = some (.frz (PySem.W.kla_obj "<lambda>" (X.env.qual ++ "<lambda>") params body scope (cloFrom X.env.cells scope.names []) pm c' ctv) (.own f))) (hc : H c' = some (CodeO c' (X.env.qual ++ "<lambda>")))
    (bind : ∀ (q : Str) (cl : List (Str × Addr)) (pm cv ctv : Value), bindArgs (PySem.W.kla_fn "<lambda>" q params body scope cl pm cv ctv) ⟨[], []⟩ = pure [])
    (run : ∀ (A : Around) (outer : List Env) (s : Shared) (E : XK), Room k (A.deeper (lamEnv X scope s.heap.objs.size f c')) → PE (lamCx (atB X b') A outer s H E scope f c') body (t E)) :
    CallV X.prog X.w X.K X.mg b' (k + 1) f H (fun Q E => t E σ H Q) := by
  refine ⟨⟨_, _, _, _, _, hf, rfl⟩, fun A outer s Q E hr e0 ht => ?_⟩
  have of1 := (e0.hok f _ hf).1
  obtain ⟨⟨oc, vs, tk, hoc, hdc, hvc⟩, _, _⟩ := e0.hok c' _ hc
  have limit : s.heap.NoLimit := e0.mod.nolimit.keeps fun b o e => (e0.bs b o e).1
  refine PySem.W.kla_callFunE hr.depth of1 rfl L.co L.gen rfl ⟨c', oc, vs, tk, rfl, hoc, hdc, hvc⟩ ?_
  rw [bind]
  refine wpAny_pure (wpAny_newFunctionEnv (fun y hy => (L.own y hy).2) (fun y hy => nomatch hy) (fun h₁ hns hsb => ?_) L.kind)
  have kp : ∀ b o, s.heap.get? b = some o → h₁.get? b = some o := fun b o e => hsb.extBut b o (Nat.ne_of_lt (Heap.lt_size e)) (Heap.get?_push_of_some _ e)
  refine ⟨limit.keeps kp, ?_⟩
  have J := lam_inv (E := E) (tk := s.toks + ([] : List (Str × Value)).length) (f := f) (c' := c') R L e0 hr.hd hns kp
  have body_ := (run A outer s E (hr.deeper _)).run [] _ σ H Q J ht
  refine PySem.W.kla_codeExpr (wpAny_mono body_ ?_ fun _ _ z => z)
  rintro v s' ⟨w', H', J', rv, q⟩
  exact ⟨w', H', J'.os, J'.bare, J'.base, J'.hok, rv, q⟩
/-- the tables behind the making of a lambda -/
theorem tabs_made {T : List (Addr × Str)} {H H1 : Hp} {P c' : Addr} {q : Str} {ps : Array Value} {pos : Pos} (hT : Tabs T H) (hu : ∀ p ∈ T, p.1 = P → p.2 = q) (hP : H P = some (.tbl ps)) (ht : TriplesOk ps.toList)
    (ha : ∀ (p' : Pos) (cv : Value), codeAmong p' ps.toList = some cv → ∃ c, cv = .ref c ∧ H c = some (CodeO c q)) (atP : H1 P = some (.tbl (ps ++ #[rawInt pos.line, rawInt pos.col, .ref c']))) (atc : H1 c' = some (CodeO c' q))
    (e1 : ∀ b o, H b = some o → b ≠ P → H1 b = some o) : Tabs T H1 := by
  have eN : ∀ b q', H b = some (CodeO b q') → H1 b = some (CodeO b q') := fun b q' e => e1 b _ e (fun z => by
    rw [z, hP] at e
    exact codeO_ne ps (Option.some.inj e).symm)
  intro p hp
  by_cases hb : p.1 = P
  · rw [hb, hu p hp hb]
    have eL : (ps ++ #[rawInt pos.line, rawInt pos.col, Value.ref c']).toList = ps.toList ++ [rawInt pos.line, rawInt pos.col, Value.ref c'] := by simp
    refine ⟨_, atP, ?_, fun p' cv hcv => ?_⟩
    · rw [eL]
      exact PySem.TriplesOk_snoc _ _ _ _ ht
    · rw [eL] at hcv
      rcases among_app _ ht hcv with z | z
      · obtain ⟨c0, h1, h2⟩ := ha p' cv z
        exact ⟨c0, h1, eN _ _ h2⟩
      · exact ⟨c', z, atc⟩
  · obtain ⟨ps', a1, a2, a3⟩ := hT p hp
    refine ⟨ps', e1 _ _ a1 hb, a2, fun p' cv hcv => ?_⟩
    obtain ⟨c0, h1, h2⟩ := a3 p' cv hcv
    exact ⟨c0, h1, eN _ _ h2⟩
/-- lambdas and their code objects stay -/
def KeepL (H H' : Hp) : Prop := (∀ b o u, H b = some (.frz o u) → H' b = some (.frz o u)) ∧ ∀ c q, H c = some (CodeO c q) → H' c = some (CodeO c q)
theorem KeepL.refl (H : Hp) : KeepL H H := ⟨fun _ _ _ z => z, fun _ _ z => z⟩
theorem KeepL.trans {H H1 H2 : Hp} (a : KeepL H H1) (b : KeepL H1 H2) : KeepL H H2 := ⟨fun c o u z => b.1 c o u (a.1 c o u z), fun c q z => b.2 c q (a.2 c q z)⟩
theorem KeepL.ext {H H1 : Hp} (e : ExtN H H1) : KeepL H H1 := ⟨fun b o u z => e b _ z (fun ps y => by cases y), fun c q z => e c _ z (fun ps y => codeO_ne ps y)⟩
theorem KeepL.same {H H1 : Hp} (e : Same H H1) : KeepL H H1 := ⟨fun b o u z => e b _ z, fun c q z => e c _ z⟩
theorem KeepL.put {H H1 : Hp} {p : Addr} {xs : List V} {o : HO} (k : KeepL H H1) (h : H1 p = some (.lst xs)) : KeepL H (upd H1 p o) := by
  refine ⟨fun b o u z => ?_, fun c q z => ?_⟩
  · have := k.1 b o u z
    rw [upd_ne (ne_of this h (fun y => by cases y))]
    exact this
  · have := k.2 c q z
    rw [upd_ne (ne_of this h (fun y => by unfold CodeO at y; cases y))]
    exact this
def tLamE (X : Cx) (T : List (Addr × Str)) (k : Nat) (t : Heap → XK → TE) : TE := fun σ H Q => Tabs T H ∧ ∀ f H1, ExtN H H1 → Tabs T H1 → H f = none → (∃ o, H1 f = some (.frz o (.own f))) →
  (∀ (b' : Heap) (σ' : L2.St) (H2 : Hp), Rb X σ' b' → KeepL H1 H2 → CallV X.prog X.w X.K X.mg b' (k + 1) f H2 (fun Q E => t b' E σ' H2 Q)) → Q (.ref f) H1
/-- lambda: body -/
theorem pe_lam {T : List (Addr × Str)} {c P : Addr} {params : Arguments} {body : Expr} {scope : Scope} {pos : Pos} {k : Nat} {t : Heap → XK → TE} (TB : TabB X.base X.mg c P) (hcode : X.env.code = .ref c) (hm : (P, X.env.qual ++ "<lambda>") ∈ T)
    (hu : ∀ p ∈ T, p.1 = P → p.2 = X.env.qual ++ "<lambda>") (L : LamS X.env.scope scope) (hdef : defaultsOf params X.env = ([], []))
    (bind : ∀ (q : Str) (cl : List (Str × Addr)) (pm cv ctv : Value), bindArgs (PySem.W.kla_fn "<lambda>" q params body scope cl pm cv ctv) ⟨[], []⟩ = pure [])
    (run : ∀ (b' : Heap) (H2 : Hp) (f c' : Addr) (A : Around) (outer : List Env) (s : Shared) (E : XK), Room k (A.deeper (lamEnv X scope s.heap.objs.size f c')) → PE (lamCx (atB X b') A outer s H2 E scope f c') body (t b' E)) :
    PE X (.Lambda params body scope pos) (tLamE X T k t) := by
  constructor
  rintro pins s σ H Q I ⟨hT, h⟩
  obtain ⟨ps, hP, ht, ha⟩ := hT _ hm
  have known := I.bk
  have bui : s.heap.BuiltinsAt X.mg P := TB.bm.keeps known
  have code := TB.code.keeps known
  have main := I.mod.glob.keeps known
  have clo := closure_ok (L.has I.ok)
  have table : s.heap.get? P = some { cls := .none, data := .fields ps } := I.hok P _ hP
  have fin : ∀ (c' : Addr) (pm ctv : Value) (h' : Heap) (tk : Tok) (H1 : Hp), Inv X pins σ H1 { s with heap := h', toks := tk } → ExtN H H1 → Tabs T H1 → H1 c' = some (CodeO c' (X.env.qual ++ "<lambda>")) → H h'.objs.size = none →
      EP X pins σ Q (.ref h'.objs.size) { s with heap := h'.push (PySem.W.kla_obj "<lambda>" (X.env.qual ++ "<lambda>") params body scope (cloFrom X.env.cells scope.names []) pm c' ctv), toks := tk } := by
    intro c' pm ctv h' tk H1 I1 eN T1 hco nf
    have n1 : H1 h'.objs.size = none := I1.hok.fresh (Nat.le_refl _)
    have new := Heap.get?_push_size h' (o := PySem.W.kla_obj "<lambda>" (X.env.qual ++ "<lambda>") params body scope (cloFrom X.env.cells scope.names []) pm c' ctv) rfl
    have I2 := I1.laid (a := h'.objs.size) (o := .frz _ (.own h'.objs.size)) (t' := tk) (fun b u e => Heap.get?_push_of_some _ e) (Nat.le_refl _) ⟨new, _, new⟩
    have keep : ∀ b o, H1 b = some o → upd H1 h'.objs.size (.frz (PySem.W.kla_obj "<lambda>" (X.env.qual ++ "<lambda>") params body scope (cloFrom X.env.cells scope.names []) pm c' ctv) (.own h'.objs.size)) b = some o := fun b o e => by rw [upd_ne (ne_of_none e n1)]; exact e
    refine ⟨.ref h'.objs.size, _, I2, rfl, h _ _ (eN.trans (.of keep)) (T1.ext keep) nf ⟨_, upd_same⟩ fun b' σ' H2 R e2 => ?_⟩
    exact lam_callV (t := t b') R L (e2.1 _ _ _ upd_same) (e2.2 _ _ (keep _ _ hco)) bind (fun A outer s E hr => run b' H2 _ c' A outer s E hr)
  refine PySem.W.kla_eval hdef ?_
  cases found : codeAmong pos ps.toList with
  | none =>
    refine PySem.W.kla_makeFunction clo I.ok.glob main hcode code table ht found TB.gP bui ?_
    intro c' ctv h' tk hx hge hlt hrec htb
    obtain ⟨c2, oc, vs, t2, e2, hoc, hdat, hname⟩ := hrec
    cases e2
    have nC : H c' = none := I.hok.fresh hge
    have I1 := inv_table (t' := tk) (more := #[rawInt pos.line, rawInt pos.col, .ref c']) I hP hx htb hge ⟨oc, vs, t2, hoc, hdat, hname⟩
    have nPc := ne_of_none hP nC
    have e1 : ∀ b o, H b = some o → b ≠ P → upd (upd H P (.tbl (ps ++ #[rawInt pos.line, rawInt pos.col, .ref c']))) c' (CodeO c' (X.env.qual ++ "<lambda>")) b = some o := fun b o e n => by
      rw [upd_ne (ne_of_none e nC), upd_ne n]
      exact e
    refine fin c' _ ctv h' tk _ I1 (fun b o e n => e1 b o e (fun z => n ps (Option.some.inj (e.symm.trans (by rw [z]; exact hP))))) (tabs_made hT hu hP ht ha (by rw [upd_ne nPc, upd_same]) upd_same e1) upd_same ?_
    exact I.hok.fresh (Nat.le_trans hge (Nat.le_of_lt hlt))
  | some cv =>
    obtain ⟨c', rfl, hco⟩ := ha pos cv found
    refine PySem.W.kla_makeFunctionHit clo I.ok.glob main hcode code table ht found bui ?_
    intro ctv h' tk hx hsz
    exact fin c' _ ctv h' tk H (I.kept hx) (.refl H) hT hco (I.hok.fresh hsz)
end
/-! ### calls at another ground -/
section
variable {X : Cx} {k : Nat} {f : Addr} {fd : FuncData} {ps : List Str} {sp : Heap → Sp} {x : Str} {p pos : Pos} {e : Expr} {es : List Expr} {t : TA}
def tCallRb (X : Cx) (sp : Heap → Sp) (t : TA) : TE := fun σ H Q => t σ H fun vs H1 => ∀ b', Rb X σ b' → sp b' vs H1 Q E0
/-- f(..), f's promise told of a ground with our cells -/
theorem pe_callRb (F : ∀ b', FnG X.prog X.w X.K X.mg b' k f fd ps (sp b')) (own : ∀ y, X.fn y = true) (hr : Room k X.A) (quiet : X.A.guards = some []) (hg : Gl X x) (hm : X.mg x = some (.ref f)) (hk : PySem.W.keepIn X.K (.ref f) = true) (hb : Binds X.K fd ps [])
    (ha : PA X (e :: es) t) (hdb : (x == ("__debug__" : Str)) = false := by decide) (he : starEach (e :: es) X.env = (false, eval e X.env) :: starEach es X.env := by rfl) (hpl : (backTo pos (starEach es X.env)).any (·.1) = false := by rfl) :
    PE X (.Call (.Name x p) (e :: es) [] pos) (tCallRb X sp t) := by
  constructor
  intro pins s σ H Q I h
  refine wpAny_Call_Name_kw (ld_glob I hg hm (PySem.W.callWith_K (h₀ := X.base) I.ok.mod.kin hk (thn (ha.run pos pins s σ H _ I h) ?_) he hpl) hdb)
  rintro us s1 ⟨vs, H1, I1, r, q⟩
  refine ⟨I1.kIn, ?_⟩
  obtain ⟨b', R, e0⟩ := rb_make I1 own
  have q' := q b' R
  have many : us.length = ps.length := r.length.symm.trans ((F b').len _ _ _ _ q')
  have bound := (KBinds.none hb).to s1 us [] I1.kIn many
  refine wpAny_call (codeAny_mono ((F b').run X.A X.stack s1 H1 _ _ _ Q E0 hr quiet e0 bound r q') ?_)
  rintro (e | fl) s' hq
  · exact False.elim hq
  cases fl with
  | ret u => exact I1.after hq
  | next | brk | cont => exact hq.elim
end
/-! ### a def whose own code object is told -/
section
variable {P : Program} {w : World} {K : PySem.W.Frag} {mg : Str → Option Value} {base : Heap}
theorem FnG.ofCode {x qual : Str} {st : Stmt} {f c : Addr} {fd : FuncData} {N ps : List Str} {k : Nat} {sp : Sp} (F : Fun K x qual st f fd) (hc : fd.code = .ref c) (S : FnScope N ps (defScope st)) (len : ∀ vs H Q E, sp vs H Q E → vs.length = ps.length)
    (body : ∀ (A : Around) (outer : List Env) (s : Shared) (H : Hp) (vs : List V) (Q : VK) (E : XK), Room k (A.deeper (envOfC qual (defScope st) s.heap.objs.size f (.ref c))) → A.guards = some [] → sp vs H Q E →
      ∃ t, PSs (cxOf CX0 P w K mg base N qual (defScope st) f (.ref c) A outer s H E).nox (defBody st) t ∧ t { nx := fun _ H' => Q .non H', rt := Q } (start N vs) H) : FnG P w K mg base (k + 1) f fd ps sp := by
  obtain ⟨oc, od, kV, doc, pm, an, cdv, ct, osl, rfl, lk, hcd⟩ := F.ex
  cases (show cdv = .ref c from hc)
  constructor
  · exact len
  intro A outer s H args us vs Q E room quiet env bound rel want
  have many := len _ _ _ _ want
  have inK : K.In s.heap := env.mod.kin.keeps (fun b o e => (env.bs b o e).1)
  have unlimited : s.heap.NoLimit := env.mod.nolimit.keeps (fun b o e => (env.bs b o e).1)
  have kinds : ∀ y ∈ ps.zip us, (defScope st).names.lookup y.1 = some .local ∨ ((defScope st).names.lookup y.1 = some .cell ∧ ((cellsFrom (s.heap.objs.size + 1) (defScope st).names []).lookup y.1).isSome = true) := by
    rintro ⟨n, v⟩ hy
    exact (S.par n (List.of_mem_zip hy).1).imp id (fun q => ⟨q, PySem.W.cellsFrom_some _ _ _ (.inl q)⟩)
  refine codeAny_call_function room.depth (inK _ _ lk) rfl S.co S.gen rfl (PySem.W.codeRec_of inK hcd) (bound _ _ _ _ (wpAny_newFunctionEnv_cells S.kind kinds ?_))
  rintro env' rfl s1 x
  obtain ⟨t, ht, hq⟩ := body A outer s H vs Q E (room.deeper _) quiet want
  have I := inv_start (CX := CX0) (E := E) S room.hd env many rel x
  refine ⟨unlimited.keeps x.toInCall.keep, codeAny_func (wpAny_mono (ht.nox.run [] s1 (start N vs) H _ I hq) ?_ (fun _ _ h => h))⟩
  intro fl s' hs
  cases fl with
  | ret u =>
    obtain ⟨v, σ', H', J, rv, q⟩ := hs
    exact ⟨v, H', J.os, J.bare, J.base, J.hok, rv, q⟩
  | next =>
    obtain ⟨σ', H', J, q⟩ := hs
    exact ⟨V.non, H', J.os, J.bare, J.base, J.hok, (rfl : RelV V.non Value.none), q⟩
  | brk => exact hs.elim fun _ h => h.elim fun _ h => h.2.elim
  | cont => exact hs.elim fun _ h => h.elim fun _ h => h.2.elim
/-- a def that stands, with its code object -/
def DefC (K : PySem.W.Frag) (mg : Str → Option Value) (x : Str) (st : Stmt) (ps : List Str) (c : Addr) : Prop := ∃ (f : Addr) (fd : FuncData), Fun K x x st f fd ∧ mg x = some (.ref f) ∧ Binds K fd ps [] ∧ fd.code = .ref c
theorem DefC.good {x : Str} {st : Stmt} {ps : List Str} {c : Addr} {k : Nat} {sp : Sp} (D : DefC K mg x st ps c) (h : ∀ f fd, Fun K x x st f fd → fd.code = .ref c → FnG P w K mg base k f fd ps sp) : GoodG P w K mg base x st ps k sp := by
  obtain ⟨f, fd, F, m, b, hc⟩ := D
  exact ⟨f, fd, h f fd F hc, m, F.kp, b, F⟩
theorem fun_one {x qual : Str} {st : Stmt} {f : Addr} {fd fd' : FuncData} (F : Fun K x qual st f fd) (F' : Fun K x qual st f fd') : fd = fd' := by
  obtain ⟨oc, od, kV, doc, pm, an, cdv, ct, osl, rfl, lk, _⟩ := F.ex
  obtain ⟨oc', od', kV', doc', pm', an', cdv', ct', osl', rfl, lk', _⟩ := F'.ex
  rw [lk] at lk'
  have := Option.some.inj lk'
  injection this with _ _ h3 _
  injection h3
/-- a promise at every ground -/
def GoodXA (P : Program) (w : World) (K : PySem.W.Frag) (mg : Str → Option Value) (x : Str) (st : Stmt) (ps : List Str) (k : Nat) (sp : Sp) : Prop := ∃ (f : Addr) (fd : FuncData), (∀ b, FnOk P w K mg b (L2.CX P w) k f fd ps sp) ∧ mg x = some (.ref f) ∧ PySem.W.keepIn K (.ref f) = true ∧ Binds K fd ps [] ∧ Fun K x x st f fd
theorem goodXA {x : Str} {st : Stmt} {ps : List Str} {k : Nat} {sp : Sp} (h : ∀ b, GoodX P w K mg b x st ps k sp) : GoodXA P w K mg x st ps k sp := by
  obtain ⟨f, fd, _, m, kp, b, F⟩ := h default
  refine ⟨f, fd, fun b' => ?_, m, kp, b, F⟩
  obtain ⟨f', fd', O, m', _, _, F'⟩ := h b'
  rw [m] at m'
  cases m'
  rw [fun_one F F']
  exact O
end
end My
/-! try with several except clauses, named or not -/
namespace My
open PySem PySem.Spec PyProof.Rows L2 PySem.Calls
/-- the clauses hds, and what they wish together of an exception of the body -/
inductive Cl (X : Cx) (Wout : WX) : List ExceptHandler → (Ends → WX) → Prop
  | nil : Cl X Wout [] fun _ => Wout
  | named {x n : Str} {c : Value} {i : Nat} {ts : Addr → Value → Option Addr → TS} {b₀ : Stmt} {suite : List Stmt} {np pos' : Pos} {hds : List ExceptHandler} {F : Ends → WX} (hi : X.N[i]? = some n) (hln : X.env.kindOf n = some .local) (hc : Names X x c)
      (run : ∀ (a : Addr) (oe : Obj) (cls : Value) (d : Option Addr) (pn : List (Addr × Obj)), Zc cls d oe → (∃ vs, oe.data = .fields vs) → PSs (X.suite a ((a, oe) :: pn)) (b₀ :: suite) (ts a cls d)) (r : Cl X Wout hds F) :
      Cl X Wout (.ExceptHandler (some (.Name x np)) (some n) (b₀ :: suite) pos' :: hds) fun D => wAs X.K c i ts (F D) D
  | plain {x : Str} {c : Value} {ts : Addr → Value → Option Addr → TS} {b₀ : Stmt} {suite : List Stmt} {np pos' : Pos} {hds : List ExceptHandler} {F : Ends → WX} (hc : Names X x c)
      (run : ∀ (a : Addr) (oe : Obj) (cls : Value) (d : Option Addr) (pn : List (Addr × Obj)), Zc cls d oe → (∃ vs, oe.data = .fields vs) → PSs (X.suite a ((a, oe) :: pn)) (b₀ :: suite) (ts a cls d)) (r : Cl X Wout hds F) :
      Cl X Wout (.ExceptHandler (some (.Name x np)) none (b₀ :: suite) pos' :: hds) fun D => wMany X.K (F D) D [(c, ts)]
section
variable {X : Cx} {body : List Stmt} {h₀ : ExceptHandler} {hds : List ExceptHandler} {F : Ends → WX} {pos : Pos} {tb : WX → TS} {Wout : WX}
/-- the exception a, landed, is looked at by the clauses -/
theorem cl_go {a : Addr} {B h3 : Heap} {sI s' : Shared} {pins : List (Addr × Obj)} {σ' : L2.St} {H' : Hp} {cls : Value} {d : Option Addr} {D : Ends} (hs : X.stack = X.env :: X.outer) (hf : X.env.frame = some X.env.locals) (hN : X.N.Nodup) (tk : Takes X Wout)
    (J : Inv X pins σ' H' sI) (nb : ∀ b o, sI.heap.get? b = some o → b ∉ frs X.stack → B.get? b = some o) (up3 : sI.heap.UpToSlots h3) (fl3 : HandSPX.FlyingZ B (X.env :: X.outer) a (Zc cls d) h3) (na : H' a = none) (os : s'.os = sI.os) (ag : AllBare s'.gens) (hh : Cl X Wout hds F) :
    F D cls d σ' H' → wpAny (model X.prog X.w) X.A (handleBy (.ref a) X.env hds) (SP X pins D) X.xe { s' with heap := h3 } := by
  have ok := J.ok
  have framed : ∀ {h : Heap} {o : Obj} {vs : Array Value}, h.FunFrames B (X.env :: X.outer) → h.get? a = some o → o.data = .fields vs → a ∉ frs (X.env :: X.outer) := by
    intro h o vs ff e dd hm
    obtain ⟨_, o', e', plain⟩ := ff.mem hm
    rw [e] at e'
    cases e'
    exact plain _ dd
  obtain ⟨oe3, vs3, he3, hz3, hd3⟩ := fl3.there
  have out := framed fl3.2.2.1 he3 hd3
  have notL : a ≠ X.env.locals := by
    rintro rfl
    exact out (List.mem_filterMap.mpr ⟨X.env, List.mem_cons_self, hf⟩)
  have notF : a ∉ X.fs := by
    intro hm
    obtain ⟨e, he, q⟩ := List.mem_filterMap.mp hm
    exact out (List.mem_filterMap.mpr ⟨e, List.mem_cons_of_mem _ he, q⟩)
  have J3 : Inv X pins σ' H' { s' with heap := h3 } := J.landed nb fl3.1 up3 os ag
  have S3 := J3.suite he3 hd3 na notL notF
  -- what a clause's suite starts with
  have suite_at : ∀ {Q : Unit → Shared → Prop} {E : Value → Shared → Prop}, (∀ h4 oe4, Zc cls d oe4 → (∃ vs, oe4.data = .fields vs) → Inv (X.suite a ((a, oe4) :: (X.pn ++ pins))) [] σ' H' { s' with heap := h4 } → Q () { s' with heap := h4 }) →
      wpAny (model X.prog X.w) (X.A.mark (some (.ref a))) (setFlight (.ref a) none) Q E { s' with heap := h3 } := by
    intro Q E go
    refine HandSPX.lands_againZ fl3 ?_
    intro h4 fl4 up4
    have J4 : Inv X pins σ' H' { s' with heap := h4 } := J.landed nb fl4.1 (up3.trans up4) os ag
    obtain ⟨oe4, vs4, he4, hz4, hd4⟩ := fl4.there
    exact go h4 oe4 hz4 ⟨_, hd4⟩ (J4.suite he4 hd4 na notL notF)
  have LT : PySem.W.Looks (model X.prog X.w) h3 (typeOf (.ref a)) cls := by
    intro A Q E s k q
    exact wpAny_typeOf_ref (k _ _ he3) (by rw [hz3.1]; exact q)
  have named_ : ∀ {x : Str} {c : Value} {np : Pos} {Q E : Value → Shared → Prop}, Names X x c → Q c { s' with heap := h3 } → wpAny (model X.prog X.w) (X.A.mark (some (.ref a))) (eval (.Name x np) X.env) Q E { s' with heap := h3 } := by
    rintro x c np Q E ⟨hg, hdbg, hm | ⟨hm, hv, hnn⟩⟩ q
    · exact ld_glob (X := X.suite a ((a, oe3) :: (X.pn ++ pins))) S3 hg hm q hdbg
    · exact ld_blt (X := X.suite a ((a, oe3) :: (X.pn ++ pins))) S3 hg hm hv q hnn hdbg
  induction hh with
  | nil =>
    intro w
    refine wpAny_handleBy_nil ?_
    obtain ⟨_, _, _, oe, vs, T, oT, t2, he, hz, hd, h1, hr⟩ := id fl3
    unfold PySem.passOn
    refine wpAny_bind (wpAny_field he hd h1 ?_)
    rw [if_neg (show ¬ ((Value.ref T == Value.none) = true) from by simp)]
    have on : wpAny (model X.prog X.w) X.A (setFlight (.ref a) X.env.frame) (fun _ s4 => wpAny (model X.prog X.w) X.A (throw (.ref a) : Sem Flow) (SP X pins D) X.xe s4) X.xe { s' with heap := h3 } := by
      rw [hf]
      refine HandSPX.setFlight_upZ fl3 ?_
      intro h4 hh4 up4
      refine wpAny_throw (tk _ _ ⟨a, B, sI, pins, σ', H', cls, d, rfl, J, nb, up3.trans up4, .inr (.inr ?_), na, os, ag, w⟩)
      rw [hs]
      exact hh4
    first
      | exact wpAny_bind (wpAny_pure (wpAny_bind on))
      | exact wpAny_bind on
  | @named x n c i ts b₀ suite np pos' hds2 F2 hi hln hc run r ih =>
    rintro ⟨b, hb1, hyes, hno⟩
    have LM := PySem.W.exm_one (M := model X.prog X.w) J3.kIn LT hb1
    refine wpAny_handleBy_cons (codeAny_handlers_test (named_ hc (LM.here ?_))) (by intro q; cases q)
    cases b with
    | false =>
      show wpAny _ X.A (handleBy (.ref a) X.env hds2) _ _ _
      exact ih (hno rfl)
    | true =>
      refine codeAny_handlers_suite_as (suite_at ?_)
      intro h4 oe4 hz4 hd4 S4
      refine store_ok (X := X.suite a ((a, oe4) :: (X.pn ++ pins))) (v := .ref a) S4 hN hi (.inl hln) rfl ?_ (.inr hln)
      intro s5 S5
      have gone : ∀ {σ6 : L2.St} {H6 : Hp} {s6 : Shared} {Q : Shared → Prop}, Inv (X.suite a ((a, oe4) :: (X.pn ++ pins))) [] σ6 H6 s6 → (∀ s7, Inv X pins (σ6.set i none) H6 s7 → Q s7) →
          wpAny (model X.prog X.w) X.A (do bindName X.env n .none; unbindBehindTheSuite X.env n pos') (fun _ s7 => Q s7) X.xe s6 := fun S6 hq => gone_ok (S6.unsuite ok) hN hi hln hq
      refine wpAny_mono ((run a oe4 cls d (X.pn ++ pins) hz4 hd4).run [] s5 _ H' _ S5 (hyes rfl a na)) ?_ (fun _ _ z => False.elim z)
      intro f s6 hsp
      cases f with
      | ret u =>
        obtain ⟨v6, σ6, H6, S6, r6, q6⟩ := hsp
        exact gone S6 fun s7 J7 => ⟨_, _, _, J7, r6, q6⟩
      | next | brk | cont =>
        obtain ⟨σ6, H6, S6, q6⟩ := hsp
        exact gone S6 fun s7 J7 => ⟨_, _, J7, q6⟩
  | @plain x c ts b₀ suite np pos' hds2 F2 hc run r ih =>
    rintro ⟨b, hb1, hyes, hno⟩
    have LM := PySem.W.exm_one (M := model X.prog X.w) J3.kIn LT hb1
    refine wpAny_handleBy_cons (codeAny_handlers_test (named_ hc (LM.here ?_))) (by intro q; cases q)
    cases b with
    | false =>
      show wpAny _ X.A (handleBy (.ref a) X.env hds2) _ _ _
      exact ih (hno rfl)
    | true =>
      refine codeAny_handlers_suite (suite_at ?_)
      intro h4 oe4 hz4 hd4 S4
      refine wpAny_mono ((run a oe4 cls d (X.pn ++ pins) hz4 hd4).run [] _ _ H' _ S4 (hyes rfl a na)) ?_ (fun _ _ z => False.elim z)
      intro f s6 hsp
      cases f with
      | ret u =>
        obtain ⟨v6, σ6, H6, S6, r6, q6⟩ := hsp
        exact ⟨_, _, _, S6.unsuite ok, r6, q6⟩
      | next | brk | cont =>
        obtain ⟨σ6, H6, S6, q6⟩ := hsp
        exact ⟨_, _, S6.unsuite ok, q6⟩
theorem ps_try_cl (hs : X.stack = X.env :: X.outer) (hf : X.env.frame = some X.env.locals) (hN : X.N.Nodup) (tk : Takes X Wout)
    (hb : ∀ (W : WX) (pn : List (Addr × Obj)) (xe : Value → Shared → Prop), Takes (X.tr pn xe) W → PassesOwn (model X.prog X.w) X.A X.env xe → PSs (X.tr pn xe) body (tb W)) (hh : Cl X Wout (h₀ :: hds) F) :
    PS X (.Try body (h₀ :: hds) [] [] pos) (fun D σ H => tb (F D) D σ H) := by
  constructor
  intro pins s σ H D I h
  have ok := I.ok
  have hfr : X.A.frames = some (X.env :: X.outer) := by rw [ok.frames, hs]
  have guarded := (hb (F D) (X.pn ++ pins) (fun e s₁ => wpAny (model X.prog X.w) X.A (noteFrame e X.env) (fun _ s₂ => wpAny (model X.prog X.w) X.A (setFlight e none) (fun _ s₃ => wpAny (model X.prog X.w) X.A (handleBy e X.env (h₀ :: hds)) (SP X pins D) X.xe s₃) X.xe s₂) X.xe s₁)
    (by
      rintro u s' ⟨a, B, sI, pins', σ', H', cls, d, rfl, J', nb, up, sky, na, os, ag, w⟩
      have J : Inv X pins σ' H' sI := J'.ofTry ok
      have sky' : Sky B (X.env :: X.outer) a (Zc cls d) X.env.locals s'.heap := by
        rw [← hs]
        exact sky
      show wpAny (model X.prog X.w) X.A (noteFrame (.ref a) X.env) _ _ _
      exact Sky.land Zc.steady hfr hf sky' fun h3 fl3 up3 => cl_go hs hf hN tk J nb (up.trans up3) fl3 na os ag hh w) PassesOwn.looking).run [] s σ H D (I.toTry _) h
  refine wpAny_Try_except (wpAny_mono guarded ?_ fun _ _ he => he)
  intro f s1 hsp
  cases f with
  | next =>
    obtain ⟨σ', H', J', q⟩ := hsp
    exact wpAny_execs_nil ⟨σ', H', J'.ofTry ok, q⟩
  | brk | cont =>
    obtain ⟨σ', H', J', q⟩ := hsp
    exact ⟨σ', H', J'.ofTry ok, q⟩
  | ret u =>
    obtain ⟨v, σ', H', J', r, q⟩ := hsp
    exact ⟨v, σ', H', J'.ofTry ok, r, q⟩
end
end My
/-! promises at every ground; data written out; values of every kind -/
namespace My
open PySem PySem.Spec PyProof.Rows L2 LamX
section
variable {P : Program} {w : World} {K : PySem.W.Frag} {mg : Str → Option Value} {base : Heap} {C : Addr}
def GoodMX (P : Program) (w : World) (K : PySem.W.Frag) (mg : Str → Option Value) (base : Heap) (C : Addr) (x qual : Str) (st : Stmt) (ps : List Str) (k : Nat) (sp : Sp) : Prop := ∃ (f : Addr) (fd : FuncData), FnOk P w K mg base (L2.CX P w) k f fd ps sp ∧ Meth K C x f ∧ Binds K fd ps [] ∧ Fun K x qual st f fd
theorem DefM.goodMX {x qual : Str} {st : Stmt} {ps : List Str} {k : Nat} {sp : Sp} (D : DefM K C x qual st ps) (h : ∀ f fd, Fun K x qual st f fd → FnOk P w K mg base (L2.CX P w) k f fd ps sp) : GoodMX P w K mg base C x qual st ps k sp := by
  obtain ⟨f, fd, F, m, b⟩ := D
  exact ⟨f, fd, h f fd F, m, b, F⟩
theorem goodMXA {x qual : Str} {st : Stmt} {ps : List Str} {k : Nat} {sp : Sp} (h : ∀ b, GoodMX P w K mg b C x qual st ps k sp) : ∃ (f : Addr) (fd : FuncData), (∀ b, FnOk P w K mg b (L2.CX P w) k f fd ps sp) ∧ Meth K C x f ∧ Binds K fd ps [] ∧ Fun K x qual st f fd := by
  obtain ⟨f, fd, _, m, b, F⟩ := h default
  refine ⟨f, fd, fun b' => ?_, m, b, F⟩
  obtain ⟨f', fd', O, m', _, F'⟩ := h b'
  have e : f' = f := by
    have h1 := m.at_
    rw [m'.at_] at h1
    exact Value.ref.inj (Option.some.inj (Option.some.inj h1))
  subst e
  rw [fun_one F F']
  exact O
theorem goodJXA {x qual : Str} {st : Stmt} {ps : List Str} {k : Nat} {sp : Sp} (h : ∀ b, GoodJX P w K mg b C x qual st ps k sp) : ∃ (f : Addr) (fd : FuncData), (∀ b, FnOk P w K mg b (L2.CX P w) k f fd ps sp) ∧ Mk K C f ∧ Binds K fd ps [] ∧ Fun K x qual st f fd := by
  obtain ⟨f, fd, _, m, b, F⟩ := h default
  refine ⟨f, fd, fun b' => ?_, m, b, F⟩
  obtain ⟨f', fd', O, m', _, F'⟩ := h b'
  have e : f' = f := by
    have h1 := m.init
    rw [m'.init] at h1
    exact Value.ref.inj (Option.some.inj (Option.some.inj h1))
  subst e
  rw [fun_one F F']
  exact O
theorem goodGA {x : Str} {st : Stmt} {ps : List Str} {k : Nat} {sp : Heap → Sp} (h : ∀ b, GoodG P w K mg b x st ps k (sp b)) : ∃ (f : Addr) (fd : FuncData), (∀ b, FnG P w K mg b k f fd ps (sp b)) ∧ mg x = some (.ref f) ∧ PySem.W.keepIn K (.ref f) = true ∧ Binds K fd ps [] ∧ Fun K x x st f fd := by
  obtain ⟨f, fd, _, m, kp, b, F⟩ := h default
  refine ⟨f, fd, fun b' => ?_, m, kp, b, F⟩
  obtain ⟨f', fd', O, m', _, _, F'⟩ := h b'
  rw [m] at m'
  cases m'
  rw [fun_one F F']
  exact O
/-- a promise that is never asked for -/
theorem Def.never {x : Str} {st : Stmt} {ps : List Str} {k : Nat} (D : Def K mg x st ps) : Good P w K mg base x st ps k (fun _ _ _ _ => False) := by
  obtain ⟨f, fd, F, m, b⟩ := D
  exact ⟨f, fd, ⟨fun _ _ _ _ h => h.elim, fun _ _ _ _ _ _ _ _ _ _ _ _ _ h => h.elim⟩, m, F.kp, b, F⟩
/-- the table of the lambdas of a def -/
def TabK (mg : Str → Option Value) (base : Heap) (TL : List (Addr × Str)) (nm : Str) (c : Addr) : Prop := ∃ Pt, TabB base mg c Pt ∧ (Pt, nm ++ ".<locals>." ++ "<lambda>") ∈ TL ∧ ∀ p ∈ TL, p.1 = Pt → p.2 = nm ++ ".<locals>." ++ "<lambda>"
end
/-- four keywords, turned about -/
def g4321 {α : Type} : List α → List α → List α | [], [a, b, c, d] => [d, c, b, a] | _, _ => []
theorem g4321_inv4 {α : Type} {us ws : List α} (h : (g4321 us ws).length = 4) : us = [] ∧ ∃ a b c d, ws = [a, b, c, d] := by
  match us, ws, h with
  | [], [a, b, c, d], _ => exact ⟨rfl, a, b, c, d, rfl⟩
  | [], [], h => exact absurd h (by simp [g4321])
  | [], [_], h => exact absurd h (by simp [g4321])
  | [], [_, _], h => exact absurd h (by simp [g4321])
  | [], [_, _, _], h => exact absurd h (by simp [g4321])
  | [], _ :: _ :: _ :: _ :: _ :: _, h => exact absurd h (by simp [g4321])
  | _ :: _, _, h => exact absurd h (by simp [g4321])
theorem rel4321 {vs : List V} {us : List Value} {zs : List V} {ws : List Value} (a : Vals vs us) (b : Vals zs ws) : Vals (g4321 vs zs) (g4321 us ws) := by
  cases a with
  | cons r a => exact .nil
  | nil =>
    match zs, ws, b with
    | [], _, .nil => exact .nil
    | [_], _, .cons _ .nil => exact .nil
    | [_, _], _, .cons _ (.cons _ .nil) => exact .nil
    | [_, _, _], _, .cons _ (.cons _ (.cons _ .nil)) => exact .nil
    | [_, _, _, _], _, .cons r1 (.cons r2 (.cons r3 (.cons r4 .nil))) => exact .cons r4 (.cons r3 (.cons r2 (.cons r1 .nil)))
    | _ :: _ :: _ :: _ :: _ :: _, _, .cons _ (.cons _ (.cons _ (.cons _ (.cons _ _)))) => exact .nil
/-! ### values of every kind, with their data -/
mutual
inductive Vd (H : Hp) : V → PyData → Prop
  | non : Vd H .non .none
  | bl (b : Bool) : Vd H (.bl b) (.bool b)
  | int (i : Int) : Vd H (.int i) (.int i)
  | str (x : Str) (h : x.length ≤ 1000) : Vd H (.str x) (.str x)
  | lst {p : Addr} {vs : List V} {es : List PyData} (h : H p = some (.lst vs)) (k : VdAll H vs es) : Vd H (.ref p) (.list es)
  | tup {p : Addr} {vs : List V} {es : List PyData} (h : H p = some (.tup vs)) (k : VdAll H vs es) : Vd H (.ref p) (.tuple es)
  | emp {p : Addr} (h : H p = some (.dK [])) : Vd H (.ref p) (.dict [])
inductive VdAll (H : Hp) : List V → List PyData → Prop
  | nil : VdAll H [] []
  | cons {v : V} {vs : List V} {e : PyData} {es : List PyData} (h : Vd H v e) (k : VdAll H vs es) : VdAll H (v :: vs) (e :: es)
end
mutual
theorem Vd.same {H H' : Hp} (s : Same H H') : ∀ {v : V} {d : PyData}, Vd H v d → Vd H' v d
  | _, _, .non => .non
  | _, _, .bl b => .bl b
  | _, _, .int i => .int i
  | _, _, .str x h => .str x h
  | _, _, .lst h k => .lst (s _ _ h) (VdAll.same s k)
  | _, _, .tup h k => .tup (s _ _ h) (VdAll.same s k)
  | _, _, .emp h => .emp (s _ _ h)
theorem VdAll.same {H H' : Hp} (s : Same H H') : ∀ {vs : List V} {ds : List PyData}, VdAll H vs ds → VdAll H' vs ds
  | _, _, .nil => .nil
  | _, _, .cons h k => .cons (Vd.same s h) (VdAll.same s k)
end
mutual
theorem Vd.dq {K : PySem.W.Frag} {H : Hp} : ∀ {v : V} {d : PyData}, Vd H v d → Dq K H v d
  | _, _, .non => .non
  | _, _, .bl b => .bl b
  | _, _, .int i => .int i
  | _, _, .str x _ => .str x
  | _, _, .lst h k => .lst (SqL.of h) (VdAll.dq k)
  | _, _, .tup h k => .tup (SqT.of h) (VdAll.dq k)
  | _, _, .emp h => .emp h
theorem VdAll.dq {K : PySem.W.Frag} {H : Hp} : ∀ {vs : List V} {ds : List PyData}, VdAll H vs ds → DqAll K H vs ds
  | _, _, .nil => .nil
  | _, _, .cons h k => .cons (Vd.dq h) (VdAll.dq k)
end
theorem VdAll.len {H : Hp} : ∀ {vs : List V} {ds : List PyData}, VdAll H vs ds → vs.length = ds.length
  | _, _, .nil => rfl
  | _, _, .cons _ k => congrArg (· + 1) (VdAll.len k)
theorem VdAll.at {H : Hp} : ∀ {vs : List V} {ds : List PyData} {i : Nat} {v : V}, VdAll H vs ds → vs[i]? = some v → ∃ d, ds[i]? = some d ∧ Vd H v d
  | _, _, _, _, .nil, e => by cases e
  | _, _, 0, _, .cons h _, e => by cases e; exact ⟨_, rfl, h⟩
  | _, _, i + 1, _, .cons _ k, e => VdAll.at (i := i) k e
theorem VdAll.app {H : Hp} : ∀ {vs ws : List V} {ds es : List PyData}, VdAll H vs ds → VdAll H ws es → VdAll H (vs ++ ws) (ds ++ es)
  | _, _, _, _, .nil, k => k
  | _, _, _, _, .cons h r, k => .cons h (VdAll.app r k)
theorem VdAll.rep {H : Hp} {vs : List V} {ds : List PyData} (h : VdAll H vs ds) : ∀ n : Nat, VdAll H (List.replicate n vs).flatten (List.replicate n ds).flatten
  | 0 => .nil
  | n + 1 => by
    rw [List.replicate_succ, List.replicate_succ, List.flatten_cons, List.flatten_cons]
    exact h.app (VdAll.rep h n)
/-- data that a list expression builds out of the written: all else stays, what it makes is new -/
def Nw (H : Hp) (v : V) : Prop := ∀ a, v = .ref a → H a = none
def tLit (d : PyData) : TE := fun σ H Q => ∀ v H', Same H H' → Nw H v → Vd H' v d → Q v H'
def tLits (ds : List PyData) : TA := fun σ H Q => ∀ vs H', Same H H' → VdAll H' vs ds → Q vs H'
section
variable {X : Cx} {pos : Pos} {k : Nat}
theorem sm_new {H : Hp} {p : Addr} (h : H p = none) (o : HO) : Same H (upd H p o) := fun b u q => by rw [upd_ne (ne_of_none q h)]; exact q
theorem nw_ref {H : Hp} {p : Addr} (h : H p = none) : Nw H (.ref p) := fun a e => by cases e; exact h
theorem sm_free {H H' : Hp} (s : Same H H') {p : Addr} (h : H' p = none) : H p = none := by
  cases e : H p with
  | none => rfl
  | some o =>
    have := s p o e
    rw [h] at this
    cases this
theorem impE {e : Expr} {t u : TE} (h : PE X e t) (k : ∀ σ H Q, u σ H Q → t σ H Q) : PE X e u := ⟨fun pins s σ H Q I q => h.run pins s σ H Q I (k σ H Q q)⟩
theorem impA {es : List Expr} {t u : TA} (h : PA X es t) (k : ∀ σ H Q, u σ H Q → t σ H Q) : PA X es u := ⟨fun pos pins s σ H Q I q => h.run pos pins s σ H Q I (k σ H Q q)⟩
theorem lit_non : PE X (.Constant .none k pos) (tLit .none) := impE (pe_non (X := X)) fun σ H Q q => q _ _ (fun _ _ z => z) (fun a e => nomatch e) .non
theorem lit_bl {b : Bool} : PE X (.Constant (.bool b) k pos) (tLit (.bool b)) := impE (pe_bl (X := X)) fun σ H Q q => q _ _ (fun _ _ z => z) (fun a e => nomatch e) (.bl b)
theorem lit_int {i : Int} : PE X (.Constant (.int i) k pos) (tLit (.int i)) := impE (pe_int (X := X)) fun σ H Q q => q _ _ (fun _ _ z => z) (fun a e => nomatch e) (.int i)
theorem lit_str {x : Str} (h : x.length ≤ 1000 := by decide) : PE X (.Constant (.str x) k pos) (tLit (.str x)) := impE (pe_str (X := X)) fun σ H Q q => q _ _ (fun _ _ z => z) (fun a e => nomatch e) (.str x h)
theorem lit_neg {i : Int} {p2 : Pos} : PE X (.UnaryOp .USub (.Constant (.int i) k p2) pos) (tLit (.int (-i))) := impE (pe_un (X := X) un_neg pe_int) fun σ H Q q => ⟨_, rfl, q _ _ (fun _ _ z => z) (fun a e => nomatch e) (.int (-i))⟩
theorem lits_nil : PA X [] (tLits []) := impA (pa_nil (X := X)) fun σ H Q q => q _ _ (fun _ _ z => z) .nil
theorem lits_cons {e : Expr} {es : List Expr} {d : PyData} {ds : List PyData} (h : PE X e (tLit d)) (k : PA X es (tLits ds)) (he : starEach (e :: es) X.env = (false, eval e X.env) :: starEach es X.env := by rfl) : PA X (e :: es) (tLits (d :: ds)) :=
  impA (pa_cons (X := X) h k he) fun σ H Q q v H1 s1 n1 h1 vs H2 s2 h2 => q _ _ (fun b u z => s2 _ _ (s1 _ _ z)) (.cons (h1.same s2) h2)
theorem lit_lst {es : List Expr} {ds : List PyData} (h : PA X es (tLits ds)) (hl : ds.length ≤ sizeLine := by decide) : PE X (.List es pos) (tLit (.list ds)) :=
  impE (pe_lst (X := X) h) fun σ H Q q vs H1 s1 h1 => ⟨by rw [h1.len]; exact hl, fun p np => q _ _ (fun b u z => sm_new np _ _ _ (s1 _ _ z)) (nw_ref (sm_free s1 np)) (.lst upd_same (h1.same (sm_new np _)))⟩
theorem lit_tup {es : List Expr} {ds : List PyData} (h : PA X es (tLits ds)) (hl : ds.length ≤ sizeLine := by decide) : PE X (.Tuple es c pos) (tLit (.tuple ds)) :=
  impE (pe_tup (X := X) h) fun σ H Q q vs H1 s1 h1 => ⟨by rw [h1.len]; exact hl, fun p np => q _ _ (fun b u z => sm_new np _ _ _ (s1 _ _ z)) (nw_ref (sm_free s1 np)) (.tup upd_same (h1.same (sm_new np _)))⟩
theorem lit_emp : PE X (.Dict [] [] pos) (tLit (.dict [])) := impE (pe_dnewK (X := X)) fun σ H Q q p np => q _ _ (sm_new np _) (nw_ref np) (.emp upd_same)
theorem lit_rep {e : Expr} {ds : List PyData} {n : Nat} {p2 : Pos} (h : PE X e (tLit (.list ds))) (hn : n ≤ 1000000) (hl : ds.length * n ≤ sizeLine) : PE X (.BinOp e .Mult (.Constant (.int (n : Int)) k p2) pos) (tLit (.list (List.replicate n ds).flatten)) :=
  impE (pe_op (X := X) op_rep h pe_int) fun σ H Q q v H1 s1 n1 h1 => by
    cases h1 with
    | @lst p vs _ hp hk =>
      refine ⟨p, (n : Int), vs, rfl, rfl, hp, by omega, by omega, by rw [hk.len]; exact hl, fun g ng => ?_⟩
      refine q _ _ (fun b u z => sm_new ng _ _ _ (s1 _ _ z)) (nw_ref (sm_free s1 ng)) (.lst (vs := (List.replicate n vs).flatten) upd_same ((hk.rep n).same (sm_new ng _)))
theorem lit_cat {e f : Expr} {ds es : List PyData} (h : PE X e (tLit (.list ds))) (h2 : PE X f (tLit (.list es))) (hl : ds.length + es.length ≤ sizeLine) : PE X (.BinOp e .Add f pos) (tLit (.list (ds ++ es))) :=
  impE (pe_op (X := X) op_cat h h2) fun σ H Q q v H1 s1 n1 h1 v2 H2 s2 n2 k2 => by
    cases h1 with
    | @lst p vs _ hp hk =>
      cases k2 with
      | @lst p2 vs2 _ hp2 hk2 =>
        refine ⟨p, p2, vs, vs2, rfl, rfl, s2 _ _ hp, hp2, by rw [hk.len, hk2.len]; exact hl, fun g ng => ?_⟩
        exact q _ _ (fun b u z => sm_new ng _ _ _ (s2 _ _ (s1 _ _ z))) (nw_ref (sm_free s1 (sm_free s2 ng))) (.lst upd_same (((hk.same s2).app hk2).same (sm_new ng _)))
theorem lit_mul {x : Str} {l : List Nat} {n : Nat} {p1 p2 : Pos} {k1 : Nat} (_h : PE X (.Constant (.str x) k1 p1) (tLit (.str x))) (e : x = ⟨l.toArray⟩) (h1 : 1 ≤ n) (h2 : n ≤ 1000) (h3 : l.length * n ≤ 1000) :
    PE X (.BinOp (.Constant (.str x) k1 p1) .Mult (.Constant (.int (n : Int)) k p2) pos) (tLit (.str ⟨(List.replicate n l).flatten.toArray⟩)) :=
  impE (pe_op (X := X) op_mul_str pe_str pe_int) fun σ H Q q => by
    have hle : l.length ≤ l.length * n := Nat.le_mul_of_pos_right _ h1
    refine ⟨l, n, by rw [e], rfl, h1, h2, by omega, q _ _ (fun _ _ z => z) (fun a z => nomatch z) (.str _ ?_)⟩
    show (List.replicate n l).flatten.toArray.size ≤ 1000
    rw [List.size_toArray, List.length_flatten, List.map_replicate, List.sum_replicate_nat, Nat.mul_comm]
    exact h3
end
theorem call_repr_qK {X : Cx} {K : PySem.W.Frag} (h : X.K = K) (quiet : X.A.guards = some []) (hu : X.A.units + 70 < cLine) : CallR X (.builtin "repr") (fun xs H Q => ∃ v d, xs = [v] ∧ Dq K H v d ∧ d.showable = true ∧ d.depth ≤ 60 ∧ d.shown.length ≤ sizeLine ∧ Q (.str d.shown) H) := h ▸ call_repr_q quiet hu
end My
set_option maxHeartbeats 4000000
/-! set(texts), sorted(set(texts)), len(set(texts)) -/
namespace My
open PySem PySem.Spec PyProof.Rows L2
/-- the text of an entry -/
def txtOf (e : Int × Value) : Str := match e.2 with | .str k _ => k | _ => Str.empty
def GoodT (w : World) (e : Int × Value) : Prop := ∃ k tk, e.2 = Value.str k tk ∧ e.1 = hashStr w k
/-- a set of texts: S its members, n their number -/
def SetTx (w : World) (h : Heap) (a : Addr) (S : Str → Bool) (n : Nat) : Prop :=
  ∃ o es ep t, h.get? a = some o ∧ o.ExactSet ∧ o.data = .set es ep t ∧ (∀ e ∈ es.toList, GoodT w e) ∧ (es.toList.map txtOf).Nodup ∧ (∀ k, S k = true ↔ k ∈ es.toList.map txtOf) ∧
    (es.size < scanBound ∧ t.fits es.size = true ∧ es.size = n) ∧ Ris t.place.toList ∧ (w.params.followText "set-order" = true ∨ t.led = true)
section
variable {P : Program} {w : World} {h h' : Heap} {a : Addr} {S : Str → Bool} {n : Nat}
theorem SetTx.at (R : SetTx w h a S n) (k : ∀ o, h.get? a = some o → h'.get? a = some o) : SetTx w h' a S n := by
  obtain ⟨o, es, ep, t, ho, r⟩ := R
  exact ⟨o, es, ep, t, k o ho, r⟩
theorem SetTx.congr {S' : Str → Bool} {m : Nat} (R : SetTx w h a S n) (e : ∀ k, S' k = S k) (em : n = m) : SetTx w h a S' m := by
  rw [show S' = S from funext e, ← em]
  exact R
theorem goodT_elems {l : List (Int × Value)} (g : ∀ e ∈ l, GoodT w e) : ElemsOf (PySem.strKind P w) l := fun e he => by
  obtain ⟨k, tk, g1, g2⟩ := g e he
  exact ⟨⟨k, by rw [g1]; exact strKind_is P w k tk, g2⟩, by rw [g1]; rfl⟩
theorem goodT_is {e : Int × Value} (g : GoodT w e) (k : Str) : (PySem.strKind P w).is k e.2 = true ↔ txtOf e = k := by
  obtain ⟨k0, tk, g1, _⟩ := g
  unfold txtOf
  rw [g1]
  constructor
  · intro q
    exact (PySem.strKind P w).inj _ _ _ (strKind_is P w k0 tk) q
  · intro q
    show (PySem.strKind P w).is k (.str k0 tk) = true
    rw [show k0 = k from q]
    exact strKind_is P w k tk
theorem goodT_mem {l : List (Int × Value)} (g : ∀ e ∈ l, GoodT w e) (k : Str) : k ∈ l.map txtOf ↔ ∃ e ∈ l, (PySem.strKind P w).is k e.2 = true := by
  rw [List.mem_map]
  exact ⟨fun ⟨e, he, q⟩ => ⟨e, he, (goodT_is (g e he) k).2 q⟩, fun ⟨e, he, q⟩ => ⟨e, he, (goodT_is (P := P) (g e he) k).1 q⟩⟩
theorem SetTx.setOf (R : SetTx w h a S n) : h.SetOf (PySem.strKind P w) a S n := by
  obtain ⟨o, es, ep, t, ho, hx, hd, g, nd, hm, ⟨hb, hf, hn⟩, _⟩ := R
  exact ⟨o, es, ep, t, ho, hx, hd, goodT_elems g, fun k => (hm k).trans (goodT_mem g k), hb, hf, hn⟩
end
section
variable {P : Program} {w : World} {A : Around} {E : Value → Shared → Prop} {s : Shared} {a : Addr} {S : Str → Bool} {n : Nat}
theorem tx_tail {g : Bool → Sem Unit} (hg : ∀ (b : Bool) (s₁ : Shared) (Q' : Unit → Shared → Prop), Q' () s₁ → wpAny (model P w) A (g b) Q' E s₁)
    {o : Obj} {es : Array (Int × Value)} {ep : Nat} {t : SetTable} (ho : s.heap.get? a = some o) (hex : o.ExactSet) (hd : o.data = .set es ep t)
    {es1 : Array (Int × Value)} {t2 : SetTable} {S' : Str → Bool} (g1 : ∀ e ∈ es1.toList, GoodT w e) (nd1 : (es1.toList.map txtOf).Nodup) (m1 : ∀ k, S' k = true ↔ k ∈ es1.toList.map txtOf)
    (room : es1.size < scanBound) (fit : t2.fits es1.size = true) (ris : Ris t2.place.toList) (led : w.params.followText "set-order" = true ∨ t2.led = true) {wasDummy : Bool} {R : Option Bool → Shared → Prop}
    (hR : ∀ h', Heap.SameBut a s.heap h' → SetTx w h' a S' es1.size → R (some true) { s with heap := h' }) :
    wpAny (model P w) A (do
        storeSet a es1 t2
        if (!wasDummy && t2.tooFull) = true then do
            g (relayAll t2 es1 (SetTable.grown es1.size)).2.2
            storeSet a (relayAll t2 es1 (SetTable.grown es1.size)).1 (relayAll t2 es1 (SetTable.grown es1.size)).2.1
            pure (some true)
          else pure (some true)) R E s := by
  refine wpAny_bind (wpAny_storeSet_of ho hd ?_ (fits_of_scanBound room))
  have st1 := store_at (es' := es1) (t' := t2) ho hd
  have same1 := Heap.SameBut.update s.heap a (Obj.putSet es1 t2)
  split
  · have p3 := relayAll_perm t2 es1 (SetTable.grown es1.size)
    have f3 := relayAll_fits t2 es1 (SetTable.grown es1.size)
    have r3 := relayAll_ris t2 es1 (SetTable.grown es1.size)
    have l3 := relayAll_led t2 es1 (SetTable.grown es1.size)
    generalize relayAll t2 es1 (SetTable.grown es1.size) = Z at p3 f3 r3 l3 ⊢
    obtain ⟨es2, t3, gave⟩ := Z
    dsimp only at p3 f3 r3 l3 ⊢
    have z2 : es2.size = es1.size := by rw [← Array.length_toList, p3.length_eq, Array.length_toList]
    have b2 : es2.size < scanBound := by rw [z2]; exact room
    refine wpAny_bind (hg _ _ _ (wpAny_bind (wpAny_storeSet_of st1 rfl ?_ (fits_of_scanBound b2))))
    have st2 := store_at (es' := es2) (t' := t3) st1 rfl
    exact wpAny_pure (hR _ (same1.trans (Heap.SameBut.update _ a _)) ⟨_, es2, _, t3, st2, hex, rfl, fun e he => g1 e (p3.mem_iff.mp he), (p3.map txtOf).nodup_iff.mpr nd1, fun k => (m1 k).trans (p3.map txtOf).mem_iff.symm, ⟨b2, f3, z2⟩, r3, led.imp id fun z => by rw [l3]; exact z⟩)
  · exact wpAny_pure (hR _ same1 ⟨_, es1, _, t2, st1, hex, rfl, g1, nd1, m1, ⟨room, fit, rfl⟩, ris, led⟩)
theorem tx_add {k : Str} {tk : Tok} {Q : Bool → Shared → Prop} (R : SetTx w s.heap a S n) (room : n + 1 < scanBound)
    (hQ : ∀ h', Heap.SameBut a s.heap h' → SetTx w h' a (fun j => S j || decide (j = k)) (if S k = true then n else n + 1) → Q (!S k) { s with heap := h' }) :
    wpAny (model P w) A (setAddHashed a (.str k tk) ((PySem.strKind P w).hash k)) Q E s := by
  obtain ⟨o, es, ep, t, ho, hex, hd, g, nd, hm, ⟨hb, hf, hn⟩, hr, hl⟩ := R
  have is_k : (PySem.strKind P w).is k (.str k tk) = true := strKind_is P w k tk
  have scan : (Value.str k tk).scannable = true := rfl
  have elems : ElemsOf (PySem.strKind P w) es.toList := goodT_elems g
  unfold setAddHashed setAddHashedIn
  refine wpAny_holding (wpAny_bind (wpAny_setState_of ho hd hf ?_))
  dsimp only
  rw [byScan_of scan hb elems]
  simp only [↓reduceIte]
  unfold setAddByScan
  refine wpAny_bind (wpAny_bind (wpAny_rule ?_))
  refine wpAny_bind (wpAny_setScan_of is_k ho hd hf elems ?_)
  cases at_ : List.findIdx? (fun e => (PySem.strKind P w).is k e.2) es.toList with
  | some j =>
    dsimp only
    obtain ⟨hj, pj, _⟩ := List.findIdx?_eq_some_iff_getElem.mp at_
    have inS : S k = true := (hm k).2 ((goodT_mem (P := P) g k).2 ⟨es.toList[j], List.getElem_mem hj, pj⟩)
    refine wpAny_pure (wpAny_pure ?_)
    have q := hQ s.heap (Heap.SameBut.refl a s.heap) ⟨o, es, ep, t, ho, hex, hd, g, nd, fun i => by
      rw [Bool.or_eq_true, decide_eq_true_eq, ← hm i]
      exact ⟨fun z => z.elim id (fun e => e ▸ inS), .inl⟩, ⟨hb, hf, by rw [if_pos inS]; exact hn⟩, hr, hl⟩
    rw [inS] at q
    exact q
  | none =>
    dsimp only
    have out : k ∉ es.toList.map txtOf := fun z => by
      obtain ⟨e, he, q⟩ := (goodT_mem (P := P) g k).1 z
      have c := List.findIdx?_eq_none_iff.mp at_ e he
      rw [q] at c
      cases c
    have noS : S k = false := by
      cases q : S k with
      | false => rfl
      | true => exact absurd ((hm k).1 q) out
    have gave_ : ∀ (b : Bool) {s₁ : Shared} {Q' : Unit → Shared → Prop}, Q' () s₁ → wpAny (model P w) A (match b with | true => rule "set.scan.the-table-gave-way" | false => pure ()) Q' E s₁ :=
      fun b s₁ Q' q => by cases b <;> first | exact wpAny_pure q | exact wpAny_rule q
    have p1 := layNew_perm t es ((PySem.strKind P w).hash k) (.str k tk)
    have f1 := layNew_fits t es ((PySem.strKind P w).hash k) (.str k tk)
    have r1 := layNew_ris t es ((PySem.strKind P w).hash k) (.str k tk) hr
    have l1 := layNew_led t es ((PySem.strKind P w).hash k) (.str k tk)
    generalize layNew t es ((PySem.strKind P w).hash k) (.str k tk) = Z at p1 f1 r1 l1 ⊢
    obtain ⟨es1, t1, wasDummy, gave⟩ := Z
    dsimp only at p1 f1 r1 l1 ⊢
    rw [Array.toList_push] at p1
    have pc : es1.toList.Perm (((PySem.strKind P w).hash k, Value.str k tk) :: es.toList) := p1.trans (List.perm_append_singleton _ _)
    have pk : (es1.toList.map txtOf).Perm (k :: es.toList.map txtOf) := pc.map txtOf
    have g1 : ∀ e ∈ es1.toList, GoodT w e := fun e he => by
      rcases List.mem_cons.mp (pc.mem_iff.mp he) with z | z
      · rw [z]; exact ⟨k, tk, rfl, rfl⟩
      · exact g e z
    have nd1 : (es1.toList.map txtOf).Nodup := pk.nodup_iff.mpr (List.nodup_cons.mpr ⟨out, nd⟩)
    have m1 : ∀ i, (S i || decide (i = k)) = true ↔ i ∈ es1.toList.map txtOf := fun i => by
      rw [Bool.or_eq_true, decide_eq_true_eq, hm i, pk.mem_iff, List.mem_cons]
      exact Or.comm
    have z1 : es1.size = n + 1 := by rw [← Array.length_toList, pc.length_eq, List.length_cons, Array.length_toList, hn]
    have b1 : es1.size < scanBound := by rw [z1]; exact room
    have led1 : w.params.followText "set-order" = true ∨ t1.led = true := hl.imp id fun z => by rw [l1]; exact z
    have fin : ∀ h', Heap.SameBut a s.heap h' → SetTx w h' a (fun j => S j || decide (j = k)) es1.size → Q true { s with heap := h' } := fun h' sb r => by
      have q := hQ h' sb
      rw [noS] at q
      rw [z1] at r
      exact q r
    refine wpAny_bind (gave_ _ ?_)
    split
    · refine wpAny_bind ?_
      rw [hashByValue_scannable 8 scan]
      refine wpAny_pure ?_
      refine tx_tail ?_ ho hex hd g1 nd1 m1 b1 ?_ ?_ ?_ ?_
      · intro b s₁ Q' q; cases b <;> first | exact wpAny_pure q | exact wpAny_rule q
      · first | (split <;> first | exact f1 | exact SetTable.fits_plain_off f1) | exact f1
      · first | (split <;> exact r1) | exact r1
      · first | (split <;> exact led1) | exact led1
      · intro h' sb r; dsimp only; exact wpAny_pure (fin h' sb r)
    · refine wpAny_bind (wpAny_pure ?_)
      simp only [↓reduceIte]
      refine tx_tail ?_ ho hex hd g1 nd1 m1 b1 f1 r1 led1 ?_
      · intro b s₁ Q' q; cases b <;> first | exact wpAny_pure q | exact wpAny_rule q
      · intro h' sb r; dsimp only; exact wpAny_pure (fin h' sb r)
end
end My
set_option maxHeartbeats 4000000
namespace My
open PySem PySem.Spec PyProof.Rows L2
abbrev hasT (xs : List Str) : Str → Bool := fun k => decide (k ∈ xs)
theorem hasT_snoc (xs : List Str) (x : Str) (k : Str) : hasT (xs ++ [x]) k = (hasT xs k || decide (k = x)) := by
  unfold hasT
  by_cases c : k = x
  · simp [c]
  · simp [c]
section
variable {prog : Program} {w : World} {A : Around} {R : Result → Shared → Prop} {I : Addr} {fp wr : List Addr} {G : Array GenState → Array GenState → Prop} {n : Nat} {Pw : Nat → Value → Prop} {St : Nat → Shared → Prop}
/-- the texts of an iterator put into a set -/
theorem put_texts (W : WalksS prog w A.in1 I fp wr G n Pw St) (a : Addr) (away : a ∉ fp) (xs : List Str) (size : xs.length = n) (few : n + 1 < scanBound)
    (reads : ∀ i v, Pw i v → ∃ t x, xs[i]? = some x ∧ v = .str x t) :
    ∀ (k i m : Nat) (s : Shared), n - i = k → i ≤ n → m ≤ i → St i s → SetTx w s.heap a (hasT (xs.take i)) m →
      (∀ s' m', Moved (a :: wr) G s s' → m' ≤ n → SetTx w s'.heap a (hasT xs) m' → R (.ok (.ret .none)) s') →
      codeAny (model prog w) A (.builtin "set.update.loop" ⟨[.ref a, .ref I], []⟩) R s := by
  have apart : a ∉ wr := fun z => away (W.sub _ z)
  have wider : ∀ b ∈ wr, b ∈ a :: wr := fun b hb => List.mem_cons_of_mem _ hb
  intro k
  induction k with
  | zero =>
    intro i m s hk hi hm hst hS hR
    obtain rfl : i = n := by omega
    rw [← size, List.take_length] at hS
    refine codeAny_builtin PyProof.Rows.F.entry_set_update_loop ?_
    rw [Around.under_plainId PyProof.Rows.F.plain_set_update_loop _]
    show wpAny _ A.in1 (pyNext (.ref I) >>= _) _ _ s
    refine wpAny_bind (W.done s _ _ hst fun s' hm' => ?_)
    show wpAny _ A.in1 (ret Value.none) _ _ s'
    exact wpAny_pure (hR s' m (hm'.mono wider) hm (hS.at fun o e => hm'.heap a _ apart e))
  | succ k ih =>
    intro i m s hk hi hm hst hS hR
    have hlt : i < n := by omega
    refine codeAny_builtin PyProof.Rows.F.entry_set_update_loop ?_
    rw [Around.under_plainId PyProof.Rows.F.plain_set_update_loop _]
    show wpAny _ A.in1 (pyNext (.ref I) >>= _) _ _ s
    refine wpAny_bind (W.item i s _ _ hlt hst fun v s' hPv hst' hm' => ?_)
    obtain ⟨t, x, hx, rfl⟩ := reads i v hPv
    have hS' : SetTx w s'.heap a (hasT (xs.take i)) m := hS.at fun o e => hm'.heap a _ apart e
    show wpAny _ A.in1 (holding [Value.str x t] (setAdd a (.str x t)) >>= _) _ _ s'
    refine wpAny_bind (wpAny_holding ?_)
    unfold setAdd
    refine wpAny_holding (wpAny_bind ((PySem.strKind prog w).pyHash (k := x) (strKind_is _ _ _ _) ?_))
    refine tx_add (P := prog) (s := { s' with toks := s'.toks + 1 }) hS' (by omega) fun h' sb hS2 => ?_
    have hS3 : SetTx w h' a (hasT (xs.take (i + 1))) (if hasT (xs.take i) x = true then m else m + 1) := by
      refine hS2.congr (fun k' => ?_) rfl
      rw [show xs.take (i + 1) = xs.take i ++ [x] by rw [List.take_succ, hx]; rfl, hasT_snoc]
    refine wpAny_pure ⟨plainId_quiet PyProof.Rows.F.plain_set_update_loop _, ih (i + 1) _ _ (by omega) hlt (by split <;> omega) (W.frame _ s' _ _ hst' (Nat.le_succ _) fun b hb o e => ?_) hS3 fun s'' m'' hm'' hle hS'' => ?_⟩
    · rw [sb.2 b (fun z : b = a => away (by rw [← z]; exact hb))]; exact e
    · refine hR s'' m'' (Moved.trans W.gtrans ((hm'.mono wider).then_heap (Nat.le_succ _) fun b o hb e => ?_) hm'') hle hS''
      rw [sb.2 b (fun z : b = a => hb (by rw [z]; exact List.mem_cons_self))]; exact e
end
def newSet (w : World) : Obj := { cls := .type "set", dict := none, data := .set #[] 0 (.fresh 0 0 (!w.params.followText "set-order")) }
theorem newSet_tx (w : World) {h : Heap} : SetTx w (h.push (newSet w)) h.objs.size (fun _ => false) 0 :=
  ⟨_, #[], 0, _, Heap.get?_push_size _ rfl, ⟨rfl, rfl, rfl⟩, rfl, (fun e he => by simp at he), (by simp), (fun k => by simp), ⟨(by decide), (by rfl), rfl⟩, List.Pairwise.nil, by
    show _ ∨ (!w.params.followText "set-order") = true
    cases w.params.followText "set-order"
    · exact Or.inr rfl
    · exact Or.inl rfl⟩
section
variable {prog : Program} {w : World} {A : Around} {E : Value → Shared → Prop} {s : Shared}
theorem set_made (a : Value) {Q₁ : Value → Shared → Prop} (h : Q₁ (.ref s.heap.objs.size) { s with heap := s.heap.push (newSet w) }) :
    codeAny (model prog w) A (.call (.builtin "set.__new__") ⟨[.type "set", a], []⟩) (wants Q₁ E) s := by
  refine codeAny_of_tree ?_
  show wpAny _ A.in1 (do checkBuiltinCall "set.__new__" ⟨[.type "set", a], []⟩; again (.builtin "set.__new__" ⟨[.type "set", a], []⟩)) _ _ s
  refine wpAny_bind (wpAny_of_eq (PySem.F.newCall_set_1 a) (wpAny_pure ⟨plainId_quiet PySem.F.plain_set_new _, codeAny_builtin PySem.F.entry_set_new ?_⟩))
  rw [Around.under_plainId PySem.F.plain_set_new _]
  unfold Builtin.«set.__new__» Builtin.Frozenset.newClass
  have hsub := sub_set_self
  obtain ⟨hp, g, d, tk, os⟩ := s
  dsimp only
  wp_walk
  refine wpAny_askSetting (wpAny_pure ?_)
  dsimp only
  simp only [newObj]
  exact wpAny_bind (wpAny_alloc (wpAny_pure (wpAny_pure h)))
set_option maxHeartbeats 3200000 in
theorem set_of_list {q : Addr} {ys : Array Value} {xs : List Str} {Q : Value → Shared → Prop}
    (calm : A.handled = none) (hq : s.heap.IsList q ys) (hx : PyProof.Rows.StrsAre ys.toList xs) (few : xs.length + 1 < scanBound)
    (k : ∀ (h' : Heap) (tk m : Nat), m ≤ xs.length → SetTx w h' s.heap.objs.size (hasT xs) m →
      (∀ b o, b < s.heap.objs.size → s.heap.get? b = some o → h'.get? b = some o) → Q (.ref s.heap.objs.size) { s with heap := h', toks := tk }) :
    wpAny (model prog w) A (call (.type "set") [.ref q]) Q E s := by
  obtain ⟨c, tl, hmro⟩ := PySem.F.called_set.mro
  have hmade := PySem.F.called_set.made
  have hsub := PySem.F.called_set.sub
  refine wpAny_call (codeAny_of_tree ?_)
  show wpAny _ _ (callAny (.type "set") _) _ _ _
  refine wpAny_pure ⟨Code.quiet_builtin _ (by decide +kernel), codeAny_builtin PySem.F.entry_type_call ?_⟩
  rw [Around.under_plain (weight_type_call_type "set" [.ref q] []) rfl]
  have h1 := PySem.F.called_set.notType
  have h2 := PySem.F.called_set.canCreate
  have hct := PySem.F.typeCall_set_1 (.ref q)
  repeat (any_goals (first | assumption | wp_step))
  refine codeAny_mono (set_made (w := w) (.ref q) (E := E) (Q₁ := fun obj s₁ => obj = .ref s.heap.objs.size ∧ s₁ = { s with heap := s.heap.push (newSet w) }) ⟨rfl, rfl⟩) fun r s₁ hr => ?_
  cases r with
  | error e => exact hr
  | ok fl =>
    cases fl with
    | ret obj =>
      obtain ⟨rfl, rfl⟩ := hr
      have hS : (s.heap.push (newSet w)).get? s.heap.objs.size = some (newSet w) := Heap.get?_push_size _ rfl
      have hT : Shared.TypeIs { s with heap := s.heap.push (newSet w) } (.ref s.heap.objs.size) "set" := ⟨_, hS, rfl⟩
      have hli := PySem.F.called_set.init.lookup
      have hbi := PySem.F.called_set.init.bind (.ref s.heap.objs.size)
      repeat (any_goals (first | assumption | wp_step))
      refine codeAny_mono (codeAny_call_builtin (R := wants (fun r s₂ => r = .none ∧ ∃ h' tk m, s₂ = { s with heap := h', toks := tk } ∧ m ≤ xs.length ∧
          SetTx w h' s.heap.objs.size (hasT xs) m ∧
          (∀ b o, b < s.heap.objs.size → s.heap.get? b = some o → h'.get? b = some o)) E) PySem.F.called_set.init.plain PySem.F.entry_set_init (check_set_init_1 hT ?_)) fun r₂ s₂ hr₂ => ?_
      · obtain ⟨ol, hol, hcl, nl, hdl⟩ := hq
        obtain ⟨ocls, odict, odata, oslots⟩ := ol
        simp only at hcl hdl
        subst hcl; subst hdl
        have hol' : (s.heap.push (newSet w)).get? q = some { cls := .type "list", dict := odict, data := .seq ys nl, slots := oslots } := Heap.get?_push_of_some _ hol
        have hsls := PySem.F.sub_list_set
        have hslf := PySem.F.sub_list_frozenset
        have hne : (Value.type "list" == Value.type "dict") = false := by decide
        have hl1 : (s.heap.push (newSet w)).IsList q ys := ⟨_, hol', rfl, nl, rfl⟩
        unfold Builtin.«set.__init__» noKeywords Builtin.Frozenset.updateFrom
        generalize hPI : pyIter = PI
        wp_walk
        subst hPI
        refine wpAny_pyIter_list hl1 (wpAny_bind (wpAny_runValue ?_))
        have qS : q < s.heap.objs.size := Heap.lt_size hol
        have calm3 : A.in1.in1.in1.handled = none := by simp [calm]
        have z1 : (s.heap.push (newSet w)).objs.size = s.heap.objs.size + 1 := Heap.size_push ..
        have qI : q ≠ (s.heap.push (newSet w)).objs.size := by
          rw [z1]; exact Nat.ne_of_lt (Nat.lt_succ_of_lt qS)
        have away : s.heap.objs.size ∉ [(s.heap.push (newSet w)).objs.size, q] := by
          rw [z1]; simp only [List.mem_cons, List.mem_singleton, List.not_mem_nil, or_false, not_or]
          exact ⟨Nat.ne_of_lt (Nat.lt_succ_self _), Nat.ne_of_gt qS⟩
        have sz : xs.length = ys.size := by rw [← StrsAre.len_eq hx, Array.length_toList]
        have rd : ∀ (i : Nat) (v : Value), ys[i]? = some v → ∃ t x, xs[i]? = some x ∧ v = .str x t := fun i v hv => by
          obtain ⟨t, e⟩ := SS.strs_at hx i v (by rw [Array.getElem?_toList]; exact hv)
          have hi : i < xs.length := by rw [sz]; exact (Array.getElem?_eq_some_iff.mp hv).1
          exact ⟨t, xs[i], List.getElem?_eq_getElem hi, by rw [e, List.getD_eq_getElem?_getD, List.getElem?_eq_getElem hi]; rfl⟩
        refine put_texts ((Walks.list calm3 _ q qI ys).toS) s.heap.objs.size
          away xs sz (by omega) rd (ys.size - 0) 0 0 _ rfl (Nat.zero_le _) (Nat.zero_le _)
          ⟨⟨_, Heap.get?_push_size _ rfl, rfl, rfl⟩, (hl1.push _)⟩ ?start ?end_
        case start =>
          exact (SetTx.congr (newSet_tx w) (fun k => by simp [hasT]) rfl).at fun o e => Heap.get?_push_of_some _ e
        case end_ =>
          intro s' m hm hle hS'
          obtain ⟨h', g', d', tk', os'⟩ := s'
          cases (show g' = s.gens from hm.gens)
          cases (show d' = s.drawn from hm.drawn)
          cases (show os' = s.os from hm.os)
          show wpAny _ _ _ _ _ _
          refine wpAny_pure ?_
          show wpAny _ _ (ret Value.none) _ _ _
          refine wpAny_pure ⟨rfl, h', tk', m, rfl, by rw [sz]; exact hle, hS', fun b o hb e => ?_⟩
          have b1 : b ≠ s.heap.objs.size := Nat.ne_of_lt hb
          have b2 : b ≠ (s.heap.push (newSet w)).objs.size := by
            rw [z1]; exact Nat.ne_of_lt (Nat.lt_succ_of_lt hb)
          exact hm.heap b o (by simp only [List.mem_cons, List.mem_singleton, List.not_mem_nil, or_false, not_or]; exact ⟨b1, b2⟩) (Heap.get?_push_of_some _ (Heap.get?_push_of_some _ e))
      · cases r₂ with
        | error e => exact hr₂
        | ok fl₂ =>
          cases fl₂ with
          | ret r =>
            obtain ⟨rfl, h', tk, m, rfl, hle, hS', keep⟩ := hr₂
            repeat (any_goals (first | assumption | wp_step))
            exact k _ _ m hle hS' keep
          | _ => exact hr₂.elim
    | _ => exact hr.elim
set_option maxHeartbeats 3200000 in
theorem set_of_tuple {q : Addr} {ys : Array Value} {xs : List Str} {Q : Value → Shared → Prop}
    (calm : A.handled = none) (hq : s.heap.IsTuple q ys) (hx : PyProof.Rows.StrsAre ys.toList xs) (few : xs.length + 1 < scanBound)
    (k : ∀ (h' : Heap) (tk m : Nat), m ≤ xs.length → SetTx w h' s.heap.objs.size (hasT xs) m →
      (∀ b o, b < s.heap.objs.size → s.heap.get? b = some o → h'.get? b = some o) → Q (.ref s.heap.objs.size) { s with heap := h', toks := tk }) :
    wpAny (model prog w) A (call (.type "set") [.ref q]) Q E s := by
  obtain ⟨c, tl, hmro⟩ := PySem.F.called_set.mro
  have hmade := PySem.F.called_set.made
  have hsub := PySem.F.called_set.sub
  refine wpAny_call (codeAny_of_tree ?_)
  show wpAny _ _ (callAny (.type "set") _) _ _ _
  refine wpAny_pure ⟨Code.quiet_builtin _ (by decide +kernel), codeAny_builtin PySem.F.entry_type_call ?_⟩
  rw [Around.under_plain (weight_type_call_type "set" [.ref q] []) rfl]
  have h1 := PySem.F.called_set.notType
  have h2 := PySem.F.called_set.canCreate
  have hct := PySem.F.typeCall_set_1 (.ref q)
  repeat (any_goals (first | assumption | wp_step))
  refine codeAny_mono (set_made (w := w) (.ref q) (E := E) (Q₁ := fun obj s₁ => obj = .ref s.heap.objs.size ∧ s₁ = { s with heap := s.heap.push (newSet w) }) ⟨rfl, rfl⟩) fun r s₁ hr => ?_
  cases r with
  | error e => exact hr
  | ok fl =>
    cases fl with
    | ret obj =>
      obtain ⟨rfl, rfl⟩ := hr
      have hS : (s.heap.push (newSet w)).get? s.heap.objs.size = some (newSet w) := Heap.get?_push_size _ rfl
      have hT : Shared.TypeIs { s with heap := s.heap.push (newSet w) } (.ref s.heap.objs.size) "set" := ⟨_, hS, rfl⟩
      have hli := PySem.F.called_set.init.lookup
      have hbi := PySem.F.called_set.init.bind (.ref s.heap.objs.size)
      repeat (any_goals (first | assumption | wp_step))
      refine codeAny_mono (codeAny_call_builtin (R := wants (fun r s₂ => r = .none ∧ ∃ h' tk m, s₂ = { s with heap := h', toks := tk } ∧ m ≤ xs.length ∧
          SetTx w h' s.heap.objs.size (hasT xs) m ∧
          (∀ b o, b < s.heap.objs.size → s.heap.get? b = some o → h'.get? b = some o)) E) PySem.F.called_set.init.plain PySem.F.entry_set_init (check_set_init_1 hT ?_)) fun r₂ s₂ hr₂ => ?_
      · obtain ⟨ol, hol, hcl, nl, hdl⟩ := hq
        obtain ⟨ocls, odict, odata, oslots⟩ := ol
        simp only at hcl hdl
        subst hcl; subst hdl
        have hol' : (s.heap.push (newSet w)).get? q = some { cls := .type "tuple", dict := odict, data := .seq ys nl, slots := oslots } := Heap.get?_push_of_some _ hol
        have hsls := PySem.F.sub_tuple_set
        have hslf := PySem.F.sub_tuple_frozenset
        have hne : (Value.type "tuple" == Value.type "dict") = false := by decide
        have hl1 : (s.heap.push (newSet w)).IsTuple q ys := ⟨_, hol', rfl, nl, rfl⟩
        unfold Builtin.«set.__init__» noKeywords Builtin.Frozenset.updateFrom
        generalize hPI : pyIter = PI
        wp_walk
        subst hPI
        refine wpAny_pyIter_tuple hl1 (wpAny_bind (wpAny_runValue ?_))
        have qS : q < s.heap.objs.size := Heap.lt_size hol
        have calm3 : A.in1.in1.in1.handled = none := by simp [calm]
        have z1 : (s.heap.push (newSet w)).objs.size = s.heap.objs.size + 1 := Heap.size_push ..
        have qI : q ≠ (s.heap.push (newSet w)).objs.size := by
          rw [z1]; exact Nat.ne_of_lt (Nat.lt_succ_of_lt qS)
        have away : s.heap.objs.size ∉ [(s.heap.push (newSet w)).objs.size, q] := by
          rw [z1]; simp only [List.mem_cons, List.mem_singleton, List.not_mem_nil, or_false, not_or]
          exact ⟨Nat.ne_of_lt (Nat.lt_succ_self _), Nat.ne_of_gt qS⟩
        have sz : xs.length = ys.size := by rw [← StrsAre.len_eq hx, Array.length_toList]
        have rd : ∀ (i : Nat) (v : Value), ys[i]? = some v → ∃ t x, xs[i]? = some x ∧ v = .str x t := fun i v hv => by
          obtain ⟨t, e⟩ := SS.strs_at hx i v (by rw [Array.getElem?_toList]; exact hv)
          have hi : i < xs.length := by rw [sz]; exact (Array.getElem?_eq_some_iff.mp hv).1
          exact ⟨t, xs[i], List.getElem?_eq_getElem hi, by rw [e, List.getD_eq_getElem?_getD, List.getElem?_eq_getElem hi]; rfl⟩
        refine put_texts ((Walks.tuple calm3 _ q qI ys).toS) s.heap.objs.size
          away xs sz (by omega) rd (ys.size - 0) 0 0 _ rfl (Nat.zero_le _) (Nat.zero_le _)
          ⟨⟨_, Heap.get?_push_size _ rfl, rfl, rfl⟩, (hl1.push _)⟩ ?start ?end_
        case start =>
          exact (SetTx.congr (newSet_tx w) (fun k => by simp [hasT]) rfl).at fun o e => Heap.get?_push_of_some _ e
        case end_ =>
          intro s' m hm hle hS'
          obtain ⟨h', g', d', tk', os'⟩ := s'
          cases (show g' = s.gens from hm.gens)
          cases (show d' = s.drawn from hm.drawn)
          cases (show os' = s.os from hm.os)
          show wpAny _ _ _ _ _ _
          refine wpAny_pure ?_
          show wpAny _ _ (ret Value.none) _ _ _
          refine wpAny_pure ⟨rfl, h', tk', m, rfl, by rw [sz]; exact hle, hS', fun b o hb e => ?_⟩
          have b1 : b ≠ s.heap.objs.size := Nat.ne_of_lt hb
          have b2 : b ≠ (s.heap.push (newSet w)).objs.size := by
            rw [z1]; exact Nat.ne_of_lt (Nat.lt_succ_of_lt hb)
          exact hm.heap b o (by simp only [List.mem_cons, List.mem_singleton, List.not_mem_nil, or_false, not_or]; exact ⟨b1, b2⟩) (Heap.get?_push_of_some _ (Heap.get?_push_of_some _ e))
      · cases r₂ with
        | error e => exact hr₂
        | ok fl₂ =>
          cases fl₂ with
          | ret r =>
            obtain ⟨rfl, h', tk, m, rfl, hle, hS', keep⟩ := hr₂
            repeat (any_goals (first | assumption | wp_step))
            exact k _ _ m hle hS' keep
          | _ => exact hr₂.elim
    | _ => exact hr.elim
end
end My
namespace My
open PySem PySem.W L2 PyProof.Rows
/-! ### told lists: texts with numbers, rising by the texts -/
theorem strict_ext {α : Type} {r : α → α → Prop} (irr : ∀ a, ¬ r a a) (tr : ∀ a b c, r a b → r b c → r a c) : ∀ {a b : List α}, a.Pairwise r → b.Pairwise r → (∀ x, x ∈ a ↔ x ∈ b) → a = b
  | [], [], _, _, _ => rfl
  | [], y :: ys, _, _, h => absurd ((h y).mpr List.mem_cons_self) (by simp)
  | x :: xs, [], _, _, h => absurd ((h x).mp List.mem_cons_self) (by simp)
  | x :: xs, y :: ys, hx, hy, h => by
    have hx' := List.pairwise_cons.mp hx
    have hy' := List.pairwise_cons.mp hy
    have e : x = y := by
      rcases List.mem_cons.mp ((h x).mp List.mem_cons_self) with z | z
      · exact z
      · rcases List.mem_cons.mp ((h y).mpr List.mem_cons_self) with z2 | z2
        · exact z2.symm
        · exact absurd (tr _ _ _ (hx'.1 y z2) (hy'.1 x z)) (irr x)
    subst e
    refine congrArg (x :: ·) (strict_ext irr tr hx'.2 hy'.2 fun z => ?_)
    constructor
    · intro hz
      rcases List.mem_cons.mp ((h z).mp (List.mem_cons_of_mem _ hz)) with q | q
      · exact absurd (by rw [q] at hz; exact hx'.1 x hz) (irr x)
      · exact q
    · intro hz
      rcases List.mem_cons.mp ((h z).mpr (List.mem_cons_of_mem _ hz)) with q | q
      · exact absurd (by rw [q] at hz; exact hy'.1 x hz) (irr x)
      · exact q
def sLt (x y : Str) : Prop := x.cps.toList < y.cps.toList
instance (x y : Str) : Decidable (sLt x y) := by unfold sLt; exact inferInstance
theorem sLt_irr (x : Str) : ¬ sLt x x := List.lt_irrefl _
theorem sLt_trans {x y z : Str} (h : sLt x y) (k : sLt y z) : sLt x z := List.lt_trans h k
theorem sLt_total (x y : Str) : sLt x y ∨ x = y ∨ sLt y x := by
  by_cases h : sLt x y
  · exact .inl h
  · by_cases k : sLt y x
    · exact .inr (.inr k)
    · exact .inr (.inl (str_of_cps (List.le_antisymm (List.not_lt.mp k) (List.not_lt.mp h))))
theorem dataLt_si (x x' : Str) (y y' : Int) : dataLt (.tuple [.str x, .int y]) (.tuple [.str x', .int y']) = decide (sLt x x' ∨ (x = x' ∧ y < y')) := by
  rw [dataLt_pair (by simp [alike]) (by simp [alike]), dataLt_str, dataLt_int]
  have e1 : PyData.eqv (.str x) (.str x') = decide (x = x') := by
    by_cases h : x = x'
    · subst h; simp [PyData.eqv]
    · simp [PyData.eqv, h]
  have e2 : PyData.eqv (.int y) (.int y') = decide (y = y') := by
    by_cases h : y = y'
    · subst h; simp [PyData.eqv]
    · simp [PyData.eqv, h]
  rw [e1, e2]
  by_cases h : x = x'
  · subst h
    have n := sLt_irr x
    by_cases h2 : y = y'
    · subst h2
      simp [n]
    · simp [h2, n]
  · by_cases h3 : sLt x x'
    · have h4 := h3
      unfold sLt at h4
      simp [h, h3, h4]
    · have h4 := h3
      unfold sLt at h4
      simp [h, h3, h4]
abbrev leSI (e f : Str × Int) : Bool := decide (sLt e.1 f.1 ∨ (e.1 = f.1 ∧ e.2 ≤ f.2))
theorem dataLe_si : dataLe false encSI = leSI := by
  funext e f
  show (!dataLt (.tuple [.str f.1, .int f.2]) (.tuple [.str e.1, .int e.2])) = _
  rw [dataLt_si]
  by_cases h : sLt f.1 e.1 ∨ (f.1 = e.1 ∧ f.2 < e.2)
  · have h' : ¬ (sLt e.1 f.1 ∨ (e.1 = f.1 ∧ e.2 ≤ f.2)) := by
      rintro (z | ⟨z, z2⟩)
      · rcases h with k | ⟨k, k2⟩
        · exact sLt_irr _ (sLt_trans z k)
        · rw [k] at z; exact sLt_irr _ z
      · rcases h with k | ⟨k, k2⟩
        · rw [z] at k; exact sLt_irr _ k
        · omega
    simp [h, leSI, h']
  · have h' : sLt e.1 f.1 ∨ (e.1 = f.1 ∧ e.2 ≤ f.2) := by
      rcases sLt_total e.1 f.1 with z | z | z
      · exact .inl z
      · refine .inr ⟨z, ?_⟩
        rcases Int.lt_or_le f.2 e.2 with k | k
        · exact absurd (.inr ⟨z.symm, k⟩) h
        · exact k
      · exact absurd (.inl z) h
    simp only [decide_eq_true h', leSI, decide_eq_false h, Bool.not_false]
theorem leSI_trans (a b c : Str × Int) (h : leSI a b = true) (k : leSI b c = true) : leSI a c = true := by
  have h1 := of_decide_eq_true h
  have k1 := of_decide_eq_true k
  refine decide_eq_true ?_
  rcases h1 with z | ⟨z, z2⟩
  · rcases k1 with w | ⟨w, w2⟩
    · exact .inl (sLt_trans z w)
    · rw [w] at z; exact .inl z
  · rcases k1 with w | ⟨w, w2⟩
    · rw [← z] at w; exact .inl w
    · exact .inr ⟨z.trans w, by omega⟩
theorem leSI_total (a b : Str × Int) : (leSI a b || leSI b a) = true := by
  rw [Bool.or_eq_true]
  rcases sLt_total a.1 b.1 with z | z | z
  · exact .inl (decide_eq_true (.inl z))
  · rcases Int.le_total a.2 b.2 with k | k
    · exact .inl (decide_eq_true (.inr ⟨z, k⟩))
    · exact .inr (decide_eq_true (.inr ⟨z.symm, k⟩))
  · exact .inr (decide_eq_true (.inl z))
/-- rising by the texts -/
def Told (M : List (Str × Int)) : Prop := M.Pairwise fun e f => sLt e.1 f.1
theorem told_of {L : List (Str × Int)} (hn : (L.map Prod.fst).Nodup) : Told (L.mergeSort (dataLe false encSI)) := by
  rw [dataLe_si]
  have hp : (L.mergeSort leSI).Perm L := List.mergeSort_perm _ _
  have hs := List.pairwise_mergeSort (le := leSI) leSI_trans leSI_total L
  have hn2 : ((L.mergeSort leSI).map Prod.fst).Nodup := ((hp.map Prod.fst).nodup_iff).mpr hn
  rw [List.Nodup, List.pairwise_map] at hn2
  refine (hs.and hn2).imp fun {e f} h => ?_
  rcases of_decide_eq_true h.1 with z | z
  · exact z
  · exact absurd z.1 h.2
theorem Told.unique {M N : List (Str × Int)} (h : Told M) (k : Told N) (e : ∀ x, x ∈ M ↔ x ∈ N) : M = N :=
  strict_ext (r := fun e f : Str × Int => sLt e.1 f.1) (fun a => sLt_irr _) (fun _ _ _ => sLt_trans) h k e
/-- texts alone -/
abbrev leS (x y : Str) : Bool := decide (x.cps.toList ≤ y.cps.toList)
theorem dataLe_s : dataLe false (fun x : Str => PyData.str x) = leS := dataLe_str fun x => x
theorem leS_trans (a b c : Str) (h : leS a b = true) (k : leS b c = true) : leS a c = true := decide_eq_true (List.le_trans (of_decide_eq_true h) (of_decide_eq_true k))
theorem leS_total (a b : Str) : (leS a b || leS b a) = true := by
  rw [Bool.or_eq_true]
  rcases List.le_total a.cps.toList b.cps.toList with z | z
  · exact .inl (decide_eq_true z)
  · exact .inr (decide_eq_true z)
theorem texts_of {L : List Str} (hn : L.Nodup) : (L.mergeSort leS).Pairwise sLt := by
  have hp : (L.mergeSort leS).Perm L := List.mergeSort_perm _ _
  have hs := List.pairwise_mergeSort (le := leS) leS_trans leS_total L
  refine (hs.and ((hp.nodup_iff).mpr hn)).imp fun {x y} h => ?_
  rcases sLt_total x y with z | z | z
  · exact z
  · exact absurd z h.2
  · exact absurd z (List.not_lt.mpr (of_decide_eq_true h.1))
end My
set_option maxHeartbeats 4000000
namespace My
open PySem PySem.Spec PyProof.Rows L2
/-! ### sorted(a set of texts), len of it -/
def textIn : Value → Str | .str x _ => x | _ => Str.empty
theorem each_text : ∀ l : List Value, (∀ v ∈ l, ∃ k tk, v = Value.str k tk) → PySem.W.EachIs (fun v b => ∃ t, v = Value.str b t) l (l.map textIn)
  | [], _ => .nil
  | v :: l, h => by
    obtain ⟨k, tk, rfl⟩ := h v List.mem_cons_self
    exact .cons ⟨tk, rfl⟩ (each_text l fun u hu => h u (List.mem_cons_of_mem _ hu))
theorem vals_text : ∀ {out : List Value} {M : List Str}, PySem.W.EachIs (fun v b => ∃ t, v = Value.str b t) out M → Vals (M.map V.str) out
  | _, _, .nil => .nil
  | _, _, .cons h t => .cons (show RelV _ _ from h) (vals_text t)
section
variable {P : Program} {w : World} {A : Around} {E : Value → Shared → Prop} {s : Shared} {a : Addr} {S : Str → Bool} {n : Nat}
theorem sorted_texts {Q : Value → Shared → Prop} (R : SetTx w s.heap a S n) (calm : A.handled = none) (small : n ≤ 100000) (hu : A.units + 64 < cLine)
    (hQ : ∀ s' p (out : Array Value) (c : Nat) (M : List Str), (∀ b o, s.heap.get? b = some o → s'.heap.get? b = some o) → s'.gens = s.gens → s'.os = s.os → s.heap.objs.size ≤ p →
      s'.heap.get? p = some (seqObj "list" out c) → Vals (M.map V.str) out.toList → M.Pairwise sLt → (∀ k, k ∈ M ↔ S k = true) → M.length = n → Q (.ref p) s') :
    wpAny (model P w) A (call (.builtin "sorted") [.ref a]) Q E s := by
  obtain ⟨o, es, ep, t, ho, hex, hd, g, nd, hm, ⟨hb, hf, hn⟩, hr, hl⟩ := R
  have line : n ≤ sizeLine := Nat.le_trans small (by decide)
  refine Calls.call_function_entry kind_sorted plain_sorted entry_sorted (args_sorted1 _) ?_
  unfold Builtin.«sorted»
  refine wpAny_bind (m := checkCount "sorted" 1 1 _) (wpAny_pure ?_)
  refine wpAny_bind (collect_set (A := A.in1) calm ⟨o, ho, hex.1, hd⟩ hf hb hr hl fun s1 vs k1 hz g1 o1 pm => ?_)
  have many : vs.length = n := by rw [pm.length_eq, List.length_map, Array.length_toList]; exact hn
  have each := each_text vs fun v hv => by
    obtain ⟨e, he, q⟩ := List.mem_map.mp (pm.mem_iff.mp hv)
    obtain ⟨k, tk, h1, _⟩ := g e he
    exact ⟨k, tk, by rw [← q]; exact h1⟩
  have pk : (vs.map textIn).Perm (es.toList.map txtOf) := by
    have q := pm.map textIn
    rw [List.map_map] at q
    exact q
  have nd2 : (vs.map textIn).Nodup := pk.nodup_iff.mpr nd
  refine wpAny_bind (wpAny_newList ?_ (by rw [many]; exact line))
  have laid : (s1.heap.push (seqObj "list" vs.toArray 0)).get? s1.heap.objs.size = some (seqObj "list" vs.toArray 0) := Heap.get?_push_size _ rfl
  refine wpAny_bind (wpAny_holding (PySem.W.list_sort_data (s := { s1 with heap := s1.heap.push (seqObj "list" vs.toArray 0) }) (enc := PyData.str) (bs := vs.map textIn) laid each (each.mono fun v b ⟨t, e⟩ => ⟨[], by rw [e]; exact .str _ _, by simp⟩) ?_ ?_ ?_ ?_ fun out len outs => ?_))
  · intro d hd d' hd'
    obtain ⟨x, _, rfl⟩ := List.mem_map.mp hd
    obtain ⟨y, _, rfl⟩ := List.mem_map.mp hd'
    rfl
  · exact .others (enc := PyData.str) fun b => ⟨fun z => (by cases z), fun xs z => (by cases z)⟩
  · rw [List.length_map, many]; exact line
  · intro b _
    show A.units + 1 + 1 + 0 < cLine
    omega
  · obtain ⟨c, hc⟩ := sortedHeap_at (vs := vs) (out := out.toArray) laid
    rw [show PySem.W.dataLe false PyData.str = leS from dataLe_s] at outs
    have pn : ((vs.map textIn).mergeSort leS).Perm (es.toList.map txtOf) := (List.mergeSort_perm _ _).trans pk
    refine wpAny_pure ⟨_, rfl, hQ _ s1.heap.objs.size out.toArray c ((vs.map textIn).mergeSort leS) (fun b u e => ?_) g1 o1 hz hc (by simpa using vals_text outs) (texts_of nd2) (fun k => by rw [pn.mem_iff, ← hm k]) ?_⟩
    · have q := k1 b u e
      have hlt := Heap.lt_size q
      show (sortedHeap (s1.heap.push (seqObj "list" vs.toArray 0)) s1.heap.objs.size vs out.toArray).get? b = some u
      rw [sortedHeap_old (Nat.ne_of_lt hlt) (by rw [size_push']; exact Nat.lt_succ_of_lt hlt)]
      exact Heap.get?_push_of_some _ q
    · rw [pn.length_eq, List.length_map, Array.length_toList]; exact hn
end
/-- a set of texts in the heap -/
def TxO (w : World) (a : Addr) (S : Str → Bool) (n : Nat) : HO := .ext fun h => SetTx w h a S n
section
variable {X : Cx}
theorem txO_new {w : World} {P : Program} {H : Hp} {h : Heap} {a : Addr} {S : Str → Bool} {n : Nat} (R : SetTx w h a S n) : ObjOk P w H h a (TxO w a S n) := by
  have ⟨o, _, _, _, ho, _⟩ := R
  exact ⟨R, ⟨o, ho⟩, fun _ _ p k => SetTx.at p k⟩
theorem txO_get {pins : List (Addr × Obj)} {σ : L2.St} {H : Hp} {s : Shared} {a : Addr} {S : Str → Bool} {n : Nat} (I : Inv X pins σ H s) (ha : H a = some (TxO X.w a S n)) : SetTx X.w s.heap a S n := (I.hok a _ ha).1
/-- sorted(found) -/
def rSortTx (w : World) : List V → Hp → VK → Prop := fun vs H Q => ∃ (a : Addr) (S : Str → Bool) (n : Nat), vs = [V.ref a] ∧ H a = some (TxO w a S n) ∧ n ≤ 100000 ∧
  ∀ (M : List Str) (p : Addr), M.Pairwise sLt → (∀ k : Str, k ∈ M ↔ S k = true) → M.length = n → H p = none → Q (.ref p) (upd H p (.lst (M.map V.str)))
theorem cr_sortTx (hc : X.calm = true) (hu : X.A.units + 64 < cLine) : CallR X (.builtin "sorted") (rSortTx X.w) := by
  intro pins s σ H vs us Q I r h
  obtain ⟨a, S, n, rfl, ha, small, q⟩ := h
  have R := txO_get I ha
  rw [Vals.ref1 r]
  refine sorted_texts R (I.ok.hd hc) small hu fun s' p out c M k g o hp hg hv hs hm hl => ?_
  have line : (M.map V.str).length ≤ sizeLine := by rw [List.length_map, hl]; exact Nat.le_trans small (by decide)
  have free : H p = none := I.hok.fresh hp
  have J : Inv X pins σ (upd H p (.lst (M.map V.str))) { s with heap := s'.heap, gens := s'.gens, drawn := s'.drawn, toks := s'.toks } :=
    I.call (ch := []) (Un.laid k hp free) (I.hok.laid k hp ⟨line, out.toList, c, hv, hg⟩) (by rw [g]; exact I.bare) (fun _ z => nomatch z)
  have same : s' = { s with heap := s'.heap, gens := s'.gens, drawn := s'.drawn, toks := s'.toks } := by
    cases s'
    cases s
    cases o
    rfl
  rw [same]
  exact ⟨.ref p, _, J, rfl, q M p hs hm hl free⟩
/-- len(found) -/
theorem cr_lenTx : CallR X (.builtin "len") (fun vs H Q => ∃ (a : Addr) (S : Str → Bool) (n : Nat), vs = [V.ref a] ∧ H a = some (TxO X.w a S n) ∧ n ≤ 100000 ∧ Q (.int (n : Int)) H) := by
  intro pins s σ H vs us Q I r h
  obtain ⟨a, S, n, rfl, ha, small, q⟩ := h
  obtain ⟨o, es, ep, t, ho, hex, hd, _, _, _, ⟨_, hf, hn⟩, _⟩ := txO_get I ha
  rw [Vals.ref1 r]
  exact call_len_set ho hex hd hf (by rw [hn]; omega) ⟨.int (n : Int), H, I.tok _, ⟨_, by rw [hn]⟩, q⟩
end
end My
set_option maxHeartbeats 4000000
namespace My
open PySem PySem.Spec PyProof.Rows L2
/-! ### sets of whole numbers -/
def inI (xs : List Int) : Int → Bool := fun j => decide (j ∈ xs)
section
variable {prog : Program} {w : World} {A : Around} {E : Value → Shared → Prop} {s : Shared}
theorem set_of_ints {q : Addr} {ys : Array Value} {xs : List Int} {Q : Value → Shared → Prop}
    (calm : A.handled = none) (hq : s.heap.IsList q ys) (hx : PyProof.Rows.IntsAre ys.toList xs) (few : xs.length + 1 < scanBound)
    (k : ∀ (h' : Heap) (tk m : Nat), m ≤ xs.length → SetR w h' s.heap.objs.size (inI xs) m →
      (∀ b o, b < s.heap.objs.size → s.heap.get? b = some o → h'.get? b = some o) → Q (.ref s.heap.objs.size) { s with heap := h', toks := tk }) :
    wpAny (model prog w) A (call (.type "set") [.ref q]) Q E s := by
  obtain ⟨c, tl, hmro⟩ := PySem.F.called_set.mro
  have hmade := PySem.F.called_set.made
  have hsub := PySem.F.called_set.sub
  refine wpAny_call (codeAny_of_tree ?_)
  show wpAny _ _ (callAny (.type "set") _) _ _ _
  refine wpAny_pure ⟨Code.quiet_builtin _ (by decide +kernel), codeAny_builtin PySem.F.entry_type_call ?_⟩
  rw [Around.under_plain (weight_type_call_type "set" [.ref q] []) rfl]
  have h1 := PySem.F.called_set.notType
  have h2 := PySem.F.called_set.canCreate
  have hct := PySem.F.typeCall_set_1 (.ref q)
  repeat (any_goals (first | assumption | wp_step))
  refine codeAny_mono (set_made (w := w) (.ref q) (E := E) (Q₁ := fun obj s₁ => obj = .ref s.heap.objs.size ∧ s₁ = { s with heap := s.heap.push (newSet w) }) ⟨rfl, rfl⟩) fun r s₁ hr => ?_
  cases r with
  | error e => exact hr
  | ok fl =>
    cases fl with
    | ret obj =>
      obtain ⟨rfl, rfl⟩ := hr
      have hS : (s.heap.push (newSet w)).get? s.heap.objs.size = some (newSet w) := Heap.get?_push_size _ rfl
      have hT : Shared.TypeIs { s with heap := s.heap.push (newSet w) } (.ref s.heap.objs.size) "set" := ⟨_, hS, rfl⟩
      have hli := PySem.F.called_set.init.lookup
      have hbi := PySem.F.called_set.init.bind (.ref s.heap.objs.size)
      repeat (any_goals (first | assumption | wp_step))
      refine codeAny_mono (codeAny_call_builtin (R := wants (fun r s₂ => r = .none ∧ ∃ h' tk m, s₂ = { s with heap := h', toks := tk } ∧ m ≤ xs.length ∧
          SetR w h' s.heap.objs.size (inI xs) m ∧
          (∀ b o, b < s.heap.objs.size → s.heap.get? b = some o → h'.get? b = some o)) E) PySem.F.called_set.init.plain PySem.F.entry_set_init (check_set_init_1 hT ?_)) fun r₂ s₂ hr₂ => ?_
      · obtain ⟨ol, hol, hcl, nl, hdl⟩ := hq
        obtain ⟨ocls, odict, odata, oslots⟩ := ol
        simp only at hcl hdl
        subst hcl; subst hdl
        have hol' : (s.heap.push (newSet w)).get? q = some { cls := .type "list", dict := odict, data := .seq ys nl, slots := oslots } := Heap.get?_push_of_some _ hol
        have hsls := PySem.F.sub_list_set
        have hslf := PySem.F.sub_list_frozenset
        have hne : (Value.type "list" == Value.type "dict") = false := by decide
        have hl1 : (s.heap.push (newSet w)).IsList q ys := ⟨_, hol', rfl, nl, rfl⟩
        unfold Builtin.«set.__init__» noKeywords Builtin.Frozenset.updateFrom
        generalize hPI : pyIter = PI
        wp_walk
        subst hPI
        refine wpAny_pyIter_list hl1 (wpAny_bind (wpAny_runValue ?_))
        have qS : q < s.heap.objs.size := Heap.lt_size hol
        have calm3 : A.in1.in1.in1.handled = none := by simp [calm]
        have z1 : (s.heap.push (newSet w)).objs.size = s.heap.objs.size + 1 := Heap.size_push ..
        have qI : q ≠ (s.heap.push (newSet w)).objs.size := by
          rw [z1]; exact Nat.ne_of_lt (Nat.lt_succ_of_lt qS)
        have away : s.heap.objs.size ∉ [(s.heap.push (newSet w)).objs.size, q] := by
          rw [z1]; simp only [List.mem_cons, List.mem_singleton, List.not_mem_nil, or_false, not_or]
          exact ⟨Nat.ne_of_lt (Nat.lt_succ_self _), Nat.ne_of_gt qS⟩
        have sz : ys.size = xs.length := by
          have q := PyProof.Rows.IntsAre.length hx
          rw [Array.length_toList] at q
          exact q
        have rd : ∀ (i : Nat) (v : Value), ys[i]? = some v → ∃ k t, xs[i]? = some k ∧ v = .int k t := fun i v hv => by
          have hi : i < xs.length := by rw [← sz]; exact (Array.getElem?_eq_some_iff.mp hv).1
          obtain ⟨t, e⟩ := PyProof.Rows.IntsAre.int_at hx i v (by rw [Array.getElem?_toList]; exact hv)
          refine ⟨xs[i], t, List.getElem?_eq_getElem hi, ?_⟩
          rw [e, List.getD_eq_getElem?_getD, List.getElem?_eq_getElem hi] <;> rfl
        refine L2.set_update_ints ((Walks.list calm3 _ q qI ys).toS) s.heap.objs.size
          away xs sz few rd (ys.size - 0) 0 _ (by omega) (Nat.zero_le _)
          ⟨⟨_, Heap.get?_push_size _ rfl, rfl, rfl⟩, (hl1.push _)⟩ ?start ?end_
        case start =>
          exact ⟨0, Nat.le_refl 0, setR_new_at (Heap.get?_push_of_some _ hS)⟩
        case end_ =>
          intro s' m hm hle hS'
          obtain ⟨h', g', d', tk', os'⟩ := s'
          cases (show g' = s.gens from hm.gens)
          cases (show d' = s.drawn from hm.drawn)
          cases (show os' = s.os from hm.os)
          show wpAny _ _ _ _ _ _
          refine wpAny_pure ?_
          show wpAny _ _ (ret Value.none) _ _ _
          refine wpAny_pure ⟨rfl, h', tk', m, rfl, by rw [← sz]; exact hle, hS', fun b o hb e => ?_⟩
          have b1 : b ≠ s.heap.objs.size := Nat.ne_of_lt hb
          have b2 : b ≠ (s.heap.push (newSet w)).objs.size := by
            rw [z1]; exact Nat.ne_of_lt (Nat.lt_succ_of_lt hb)
          exact hm.heap b o (by simp only [List.mem_cons, List.mem_singleton, List.not_mem_nil, or_false, not_or]; exact ⟨b1, b2⟩) (Heap.get?_push_of_some _ (Heap.get?_push_of_some _ e))
      · cases r₂ with
        | error e => exact hr₂
        | ok fl₂ =>
          cases fl₂ with
          | ret r =>
            obtain ⟨rfl, h', tk, m, rfl, hle, hS', keep⟩ := hr₂
            repeat (any_goals (first | assumption | wp_step))
            exact k _ _ m hle hS' keep
          | _ => exact hr₂.elim
    | _ => exact hr.elim
set_option maxHeartbeats 3200000 in

theorem ints_many {w : World} {h : Heap} {a : Addr} {xs : List Int} {n : Nat} (R : SetR w h a (inI xs) n) (D : List Int) (hD : D.Nodup) (hm : ∀ k, k ∈ D ↔ k ∈ xs) : D.length = n := by
  obtain ⟨o, es, ep, t, _, _, _, _, nd, hS, _, _, hn, _⟩ := R
  have p : D.Perm (es.toList.map keyOf) := (List.perm_ext_iff_of_nodup hD nd).mpr fun k => by
    rw [hm, ← hS k]
    unfold inI
    rw [decide_eq_true_iff]
  rw [p.length_eq, List.length_map, Array.length_toList, hn]
end
def InO (w : World) (a : Addr) (S : Int → Bool) (n : Nat) : HO := .ext fun h => SetR w h a S n
section
variable {X : Cx}
theorem inO_new {w : World} {P : Program} {H : Hp} {h : Heap} {a : Addr} {S : Int → Bool} {n : Nat} (R : SetR w h a S n) : ObjOk P w H h a (InO w a S n) := by
  have ⟨o, _, _, _, ho, _⟩ := R
  exact ⟨R, ⟨o, ho⟩, fun _ _ p k => SetR.at p k⟩
theorem inO_get {pins : List (Addr × Obj)} {σ : L2.St} {H : Hp} {s : Shared} {a : Addr} {S : Int → Bool} {n : Nat} (I : Inv X pins σ H s) (ha : H a = some (InO X.w a S n)) : SetR X.w s.heap a S n := (I.hok a _ ha).1
def rSetIn (K : PySem.W.Frag) (w : World) : List V → Hp → VK → Prop := fun vs H Q => ∃ (l : Addr) (xs : List Int), vs = [V.ref l] ∧ SqL K H l (xs.map V.int) ∧ xs.length ≤ 1000 ∧
  ∀ (p : Addr) (n : Nat), (∀ D : List Int, D.Nodup → (∀ k, k ∈ D ↔ k ∈ xs) → D.length = n) → n ≤ xs.length → H p = none → Q (.ref p) (upd H p (InO w p (inI xs) n))
theorem cr_setIn (hc : X.calm = true) : CallR X (.type "set") (rSetIn X.K X.w) := by
  intro pins s σ H vs us Q I r h
  obtain ⟨l, xs, rfl, hq, small, q⟩ := h
  rw [Vals.ref1 r]
  have few : xs.length + 1 < scanBound := by unfold scanBound; omega
  obtain ⟨its, rv, pl, hz⟩ := I.list hq
  exact set_of_ints (I.ok.hd hc) pl.isList (by simpa using ints_of_vals rv) few fun h' tk m hle R keep =>
    ⟨.ref _, upd H s.heap.objs.size (InO X.w s.heap.objs.size (inI xs) m), I.laid (t' := tk) (fun b u e => keep b u (Heap.lt_size e) e) (Nat.le_refl _) (inO_new R), rfl, q _ m (ints_many R) hle (I.hok.fresh (Nat.le_refl _))⟩
def rSortIn (w : World) : List V → Hp → VK → Prop := fun vs H Q => ∃ (a : Addr) (S : Int → Bool) (n : Nat), vs = [V.ref a] ∧ H a = some (InO w a S n) ∧ n < 64 ∧
  ∀ (M : List Int) (p : Addr), M.Pairwise (· < ·) → (∀ k : Int, k ∈ M ↔ S k = true) → M.length = n → H p = none → Q (.ref p) (upd H p (.lst (M.map V.int)))
theorem cr_sortIn (hc : X.calm = true) : CallR X (.builtin "sorted") (rSortIn X.w) := by
  intro pins s σ H vs us Q I r h
  obtain ⟨a, S, n, rfl, ha, small, q⟩ := h
  have R := inO_get I ha
  rw [Vals.ref1 r]
  refine L2.sorted_set R (I.ok.hd hc) small fun s' p out c M k g o hp hg hv hs hm hl => ?_
  have line : (M.map V.int).length ≤ sizeLine := by rw [List.length_map, hl]; exact Nat.le_trans (Nat.le_of_lt small) (by decide)
  have free : H p = none := I.hok.fresh hp
  have J : Inv X pins σ (upd H p (.lst (M.map V.int))) { s with heap := s'.heap, gens := s'.gens, drawn := s'.drawn, toks := s'.toks } :=
    I.call (ch := []) (Un.laid k hp free) (I.hok.laid k hp ⟨line, out.toList, c, vals_of_ints hv, hg⟩) (by rw [g]; exact I.bare) (fun _ z => nomatch z)
  have same : s' = { s with heap := s'.heap, gens := s'.gens, drawn := s'.drawn, toks := s'.toks } := by
    cases s'
    cases s
    cases o
    rfl
  rw [same]
  exact ⟨.ref p, _, J, rfl, q M p hs hm hl free⟩
theorem cr_lenIn : CallR X (.builtin "len") (fun vs H Q => ∃ (a : Addr) (S : Int → Bool) (n : Nat), vs = [V.ref a] ∧ H a = some (InO X.w a S n) ∧ n ≤ 100000 ∧ Q (.int (n : Int)) H) := by
  intro pins s σ H vs us Q I r h
  obtain ⟨a, S, n, rfl, ha, small, q⟩ := h
  obtain ⟨o, es, ep, t, ho, hex, hd, _, _, _, _, hf, hn, _⟩ := inO_get I ha
  rw [Vals.ref1 r]
  exact call_len_set ho hex hd hf (by rw [hn]; omega) ⟨.int (n : Int), H, I.tok _, ⟨_, by rw [hn]⟩, q⟩
end
end My
namespace My
open PySem L2 PyProof.Rows
def topS (i : Nat) : Stmt := PySem.Challenge.pw_suretexts_k20_webs_and_parts_refused.main.body.getD i (.Pass ⟨0, 0, 0, 0⟩)
abbrev sis_integer : Stmt := topS 11
theorem scis_integer : FnScope ["value"] ["value"] (defScope sis_integer) := ⟨rfl, rfl, rfl, by decide +kernel, rfl, by decide +kernel, by decide +kernel⟩
abbrev sis_count : Stmt := topS 12
theorem scis_count : FnScope ["value"] ["value"] (defScope sis_count) := ⟨rfl, rfl, rfl, by decide +kernel, rfl, by decide +kernel, by decide +kernel⟩
abbrev sis_between : Stmt := topS 13
theorem scis_between : FnScope ["value", "least", "most"] ["value", "least", "most"] (defScope sis_between) := ⟨rfl, rfl, rfl, by decide +kernel, rfl, by decide +kernel, by decide +kernel⟩
abbrev sis_below : Stmt := topS 14
theorem scis_below : FnScope ["value", "limit"] ["value", "limit"] (defScope sis_below) := ⟨rfl, rfl, rfl, by decide +kernel, rfl, by decide +kernel, by decide +kernel⟩
abbrev sis_listed : Stmt := topS 15
theorem scis_listed : FnScope ["value"] ["value"] (defScope sis_listed) := ⟨rfl, rfl, rfl, by decide +kernel, rfl, by decide +kernel, by decide +kernel⟩
abbrev slongest_borders : Stmt := topS 17
theorem sclongest_borders : FnScope ["word", "lengths", "kept", "sign"] ["word"] (defScope slongest_borders) := ⟨rfl, rfl, rfl, by decide +kernel, rfl, by decide +kernel, by decide +kernel⟩
abbrev sstarts_in : Stmt := topS 18
theorem scstarts_in : FnScope ["cycle", "word", "lengths", "found", "kept", "at", "sign"] ["cycle", "word"] (defScope sstarts_in) := ⟨rfl, rfl, rfl, by decide +kernel, rfl, by decide +kernel, by decide +kernel⟩
abbrev sare_ties : Stmt := topS 24
theorem scare_ties : FnScope ["places", "value", "tie"] ["places", "value"] (defScope sare_ties) := ⟨rfl, rfl, rfl, by decide +kernel, rfl, by decide +kernel, by decide +kernel⟩
abbrev sneed_web : Stmt := topS 26
theorem scneed_web : FnScope ["web"] ["web"] (defScope sneed_web) := ⟨rfl, rfl, rfl, by decide +kernel, rfl, by decide +kernel, by decide +kernel⟩
abbrev sneed_place : Stmt := topS 27
theorem scneed_place : FnScope ["web", "place"] ["web", "place"] (defScope sneed_place) := ⟨rfl, rfl, rfl, by decide +kernel, rfl, by decide +kernel, by decide +kernel⟩
abbrev sare_numbers : Stmt := topS 28
theorem scare_numbers : FnScope ["web", "value", "tie"] ["web", "value"] (defScope sare_numbers) := ⟨rfl, rfl, rfl, by decide +kernel, rfl, by decide +kernel, by decide +kernel⟩
abbrev s_go_on : Stmt := topS 29
theorem sc_go_on : FnScope ["web", "value", "longest", "ties", "at"] ["web", "value", "longest"] (defScope s_go_on) := ⟨rfl, rfl, rfl, by decide +kernel, rfl, by decide +kernel, by decide +kernel⟩
abbrev sis_walk : Stmt := topS 30
theorem scis_walk : FnScope ["web", "value"] ["web", "value"] (defScope sis_walk) := ⟨rfl, rfl, rfl, by decide +kernel, rfl, by decide +kernel, by decide +kernel⟩
abbrev sis_round : Stmt := topS 31
theorem scis_round : FnScope ["web", "value", "ties"] ["web", "value"] (defScope sis_round) := ⟨rfl, rfl, rfl, by decide +kernel, rfl, by decide +kernel, by decide +kernel⟩
abbrev sneed_walk : Stmt := topS 32
theorem scneed_walk : FnScope ["web", "walk"] ["web", "walk"] (defScope sneed_walk) := ⟨rfl, rfl, rfl, by decide +kernel, rfl, by decide +kernel, by decide +kernel⟩
abbrev sneed_tour : Stmt := topS 33
theorem scneed_tour : FnScope ["web", "tour"] ["web", "tour"] (defScope sneed_tour) := ⟨rfl, rfl, rfl, by decide +kernel, rfl, by decide +kernel, by decide +kernel⟩
abbrev sleads : Stmt := topS 34
theorem scleads : FnScope ["web", "walk", "ties"] ["web", "walk"] (defScope sleads) := ⟨rfl, rfl, rfl, by decide +kernel, rfl, by decide +kernel, by decide +kernel⟩
abbrev scovers : Stmt := topS 35
theorem sccovers : FnScope ["web", "tour"] ["web", "tour"] (defScope scovers) := ⟨rfl, rfl, rfl, by decide +kernel, rfl, by decide +kernel, by decide +kernel⟩
abbrev swalk_in_round : Stmt := topS 36
theorem scwalk_in_round : FnScope ["web", "tour", "walk"] ["web", "tour", "walk"] (defScope swalk_in_round) := ⟨rfl, rfl, rfl, by decide +kernel, rfl, by decide +kernel, by decide +kernel⟩
abbrev sweb_steps : Stmt := topS 37
theorem scweb_steps : FnScope ["web", "tie", "near", "far"] ["web"] (defScope sweb_steps) := ⟨rfl, rfl, rfl, by decide +kernel, rfl, by decide +kernel, by decide +kernel⟩
abbrev sback_web : Stmt := topS 38
theorem scback_web : FnScope ["web", "near", "far"] ["web"] (defScope sback_web) := ⟨rfl, rfl, rfl, by decide +kernel, rfl, by decide +kernel, by decide +kernel⟩
abbrev sparts_in_turn : Stmt := topS 40
theorem scparts_in_turn : FnScope ["points", "steps", "ahead", "behind", "near", "far", "_", "left", "seen", "point", "parts"] ["points", "steps"] (defScope sparts_in_turn) := ⟨rfl, rfl, rfl, by decide +kernel, rfl, by decide +kernel, by decide +kernel⟩
abbrev s_left_from : Stmt := topS 41
theorem sc_left_from : FnScope ["ends", "point", "seen", "left", "trail", "here", "at", "end"] ["ends", "point", "seen"] (defScope s_left_from) := ⟨rfl, rfl, rfl, by decide +kernel, rfl, by decide +kernel, by decide +kernel⟩
abbrev s_need_without : Stmt := topS 43
theorem sc_need_without : FnScope ["web", "without"] ["web", "without"] (defScope s_need_without) := ⟨rfl, rfl, rfl, by decide +kernel, rfl, by decide +kernel, by decide +kernel⟩
abbrev s_places_to : Stmt := topS 44
theorem sc_places_to : FnScope ["web", "without", "ends", "tie", "near", "far", "_"] ["web", "without"] (defScope s_places_to) := ⟨rfl, rfl, rfl, by decide +kernel, rfl, by decide +kernel, by decide +kernel⟩
abbrev sreach : Stmt := topS 45
theorem screach : FnScope ["web", "place", "without", "ends", "seen", "waiting", "here", "end"] ["web", "place", "without"] (defScope sreach) := ⟨rfl, rfl, rfl, by decide +kernel, rfl, by decide +kernel, by decide +kernel⟩
abbrev sway : Stmt := topS 46
theorem scway : FnScope ["web", "near", "far", "without", "ties", "came_by", "line", "at", "place", "tie", "end"] ["web", "near", "far", "without"] (defScope sway) := ⟨rfl, rfl, rfl, by decide +kernel, rfl, by decide +kernel, by decide +kernel⟩
abbrev s_walk_back : Stmt := topS 47
theorem sc_walk_back : FnScope ["ties", "came_by", "near", "far", "back"] ["ties", "came_by", "near", "far"] (defScope s_walk_back) := ⟨rfl, rfl, rfl, by decide +kernel, rfl, by decide +kernel, by decide +kernel⟩
abbrev splain_parts : Stmt := topS 48
theorem scplain_parts : FnScope ["web", "reached", "parts", "place", "part", "other"] ["web"] (defScope splain_parts) := ⟨rfl, rfl, rfl, by decide +kernel, rfl, by decide +kernel, by decide +kernel⟩
abbrev sparts_of : Stmt := topS 49
theorem scparts_of : FnScope ["web"] ["web"] (defScope sparts_of) := ⟨rfl, rfl, rfl, by decide +kernel, rfl, by decide +kernel, by decide +kernel⟩
abbrev sis_close : Stmt := topS 50
theorem scis_close : FnScope ["web"] ["web"] (defScope sis_close) := ⟨rfl, rfl, rfl, by decide +kernel, rfl, by decide +kernel, by decide +kernel⟩
abbrev sis_single_ring : Stmt := topS 51
theorem scis_single_ring : FnScope ["web"] ["web"] (defScope sis_single_ring) := ⟨rfl, rfl, rfl, by decide +kernel, rfl, by decide +kernel, by decide +kernel⟩
abbrev s_need_part : Stmt := topS 52
theorem sc_need_part : FnScope ["web", "part", "place"] ["web", "part"] (defScope s_need_part) := ⟨rfl, rfl, rfl, by decide +kernel, rfl, by decide +kernel, by decide +kernel⟩
abbrev spart_web : Stmt := topS 53
theorem scpart_web : FnScope ["web", "part", "anew", "at", "place", "ties", "within", "tie", "near", "far"] ["web", "part"] (defScope spart_web) := ⟨rfl, rfl, rfl, by decide +kernel, rfl, by decide +kernel, by decide +kernel⟩
abbrev s_law_pot : Stmt := topS 55
theorem sc_law_pot : FnScope ["_law_script", "_law_k", "_law_cell", "_law_mixed"] ["_law_script", "_law_k"] (defScope s_law_pot) := ⟨rfl, rfl, rfl, by decide +kernel, rfl, by decide +kernel, by decide +kernel⟩
abbrev s_law_draw : Stmt := topS 56
theorem sc_law_draw : FnScope ["_law_pot_here", "_law_many", "_law_drawn"] ["_law_pot_here", "_law_many"] (defScope s_law_draw) := ⟨rfl, rfl, rfl, by decide +kernel, rfl, by decide +kernel, by decide +kernel⟩
abbrev s_law_heard : Stmt := topS 57
theorem sc_law_heard : FnScope ["_law_call", "e"] ["_law_call"] (defScope s_law_heard) := ⟨rfl, rfl, rfl, by decide +kernel, rfl, by decide +kernel, by decide +kernel⟩
abbrev s_law_are : Stmt := topS 58
theorem sc_law_are : FnScope ["_law_word", "_law_odd", "_law_calls", "_law_call"] ["_law_word", "_law_odd", "_law_calls"] (defScope s_law_are) := ⟨rfl, rfl, rfl, by decide +kernel, rfl, by decide +kernel, by decide +kernel⟩
abbrev s_law_made_right : Stmt := topS 59
theorem sc_law_made_right : FnScope ["_law_odd", "_law_calls", "_law_long", "_law_odds"] [] (defScope s_law_made_right) := ⟨rfl, rfl, rfl, by decide +kernel, rfl, by decide +kernel, by decide +kernel⟩
abbrev s_law_webs_right : Stmt := topS 60
theorem sc_law_webs_right : FnScope ["_law_odd", "_law_calls"] [] (defScope s_law_webs_right) := ⟨rfl, rfl, rfl, by decide +kernel, rfl, by decide +kernel, by decide +kernel⟩
abbrev s_law_others_right : Stmt := topS 61
theorem sc_law_others_right : FnScope ["_law_web", "_law_loop", "_law_odd", "_law_calls", "_law_long"] ["_law_web", "_law_loop"] (defScope s_law_others_right) := ⟨rfl, rfl, rfl, by decide +kernel, rfl, by decide +kernel, by decide +kernel⟩
abbrev s_law_right : Stmt := topS 62
theorem sc_law_right : FnScope ["_law_pot_here", "_law_way_of"] ["_law_pot_here"] (defScope s_law_right) := ⟨rfl, rfl, rfl, by decide +kernel, rfl, by decide +kernel, by decide +kernel⟩
abbrev slaw : Stmt := topS 63
theorem sclaw : FnScope ["_law_script"] ["_law_script"] (defScope slaw) := ⟨rfl, rfl, rfl, by decide +kernel, rfl, by decide +kernel, by decide +kernel⟩
abbrev sWeb___init__ : Stmt := inClass (topS 25) 0
theorem scWeb___init__ : FnScope ["self", "places", "ties", "tie", "ends", "_"] ["self", "places", "ties"] (defScope sWeb___init__) := ⟨rfl, rfl, rfl, by decide +kernel, rfl, by decide +kernel, by decide +kernel⟩
abbrev sWeb___eq__ : Stmt := inClass (topS 25) 1
theorem scWeb___eq__ : FnScope ["self", "other"] ["self", "other"] (defScope sWeb___eq__) := ⟨rfl, rfl, rfl, by decide +kernel, rfl, by decide +kernel, by decide +kernel⟩
abbrev sWeb_places : Stmt := inClass (topS 25) 2
theorem scWeb_places : FnScope ["self"] ["self"] (defScope sWeb_places) := ⟨rfl, rfl, rfl, by decide +kernel, rfl, by decide +kernel, by decide +kernel⟩
abbrev sWeb_many : Stmt := inClass (topS 25) 3
theorem scWeb_many : FnScope ["self"] ["self"] (defScope sWeb_many) := ⟨rfl, rfl, rfl, by decide +kernel, rfl, by decide +kernel, by decide +kernel⟩
abbrev sWeb_ties : Stmt := inClass (topS 25) 4
theorem scWeb_ties : FnScope ["self"] ["self"] (defScope sWeb_ties) := ⟨rfl, rfl, rfl, by decide +kernel, rfl, by decide +kernel, by decide +kernel⟩
abbrev sWeb_ties_from : Stmt := inClass (topS 25) 5
theorem scWeb_ties_from : FnScope ["self", "place"] ["self", "place"] (defScope sWeb_ties_from) := ⟨rfl, rfl, rfl, by decide +kernel, rfl, by decide +kernel, by decide +kernel⟩
abbrev sWeb_ties_to : Stmt := inClass (topS 25) 6
theorem scWeb_ties_to : FnScope ["self", "place"] ["self", "place"] (defScope sWeb_ties_to) := ⟨rfl, rfl, rfl, by decide +kernel, rfl, by decide +kernel, by decide +kernel⟩
structure Bs (mg : Str → Option Value) : Prop where
  isinstance : mg "isinstance" = none
  int : mg "int" = none
  bool : mg "bool" = none
  list : mg "list" = none
  tuple : mg "tuple" = none
  len : mg "len" = none
  range : mg "range" = none
  abs : mg "abs" = none
  max : mg "max" = none
  divmod : mg "divmod" = none
  enumerate : mg "enumerate" = none
  sorted : mg "sorted" = none
  set : mg "set" = none
  all : mg "all" = none
  repr : mg "repr" = none
structure Glo (mg : Str → Option Value) : Prop where
  MOST_PLACES : ∃ t, mg "MOST_PLACES" = some (.int 60 t)
  MOST_TIES : ∃ t, mg "MOST_TIES" = some (.int 80 t)
  LONGEST_WALK : ∃ t, mg "LONGEST_WALK" = some (.int 400 t)
  LONGEST_ROUND : ∃ t, mg "LONGEST_ROUND" = some (.int 200000 t)
structure WebK (K : PySem.W.Frag) (mg : Str → Option Value) (C : Addr) : Prop where
  cl : Cls K C
  nP : NoAttr K C "_places"
  nT : NoAttr K C "_ties"
  nF : NoAttr K C "_ties_from"
  nO : NoAttr K C "_ties_to"
  mgC : mg "Web" = some (.ref C)
  i1 : PySem.W.findIn K (.ref C) "__class__" = some (some (.builtin "object.__class__"))
  i2 : PySem.W.specialIn K (.builtin "object.__class__") "__get__" = some (some (.builtin "getset_descriptor.__get__"))
  i3 : PySem.W.takesIn K (.builtin "object.__class__") = some true
  i4 : PySem.W.mroIn K C (.type "object") = some true
  i5 : PySem.W.kitOne K (.ref C) (.ref C) = some true
  ne : PySem.W.findIn K (.ref C) "__ne__" = some (some (.builtin "object.__ne__"))
  no : ∀ t ∈ ["NoneType", "bool", "int", "str", "list", "tuple", "dict"], PySem.W.kitOne K (.type t) (.ref C) = some false
abbrev exs : List Str := ["InvalidWeb", "InvalidPlaces", "InvalidTies", "InvalidPlace", "InvalidWalk", "InvalidRound", "InvalidWithout", "InvalidPart"]
structure ExM (K : PySem.W.Frag) (XA : Str → Addr) (CPE : Addr) : Prop where
  e : ∀ i j, i < 8 → j ≤ i → PySem.W.exmOne K (.ref (XA (exs.getD i ""))) (.ref (XA (exs.getD j ""))) = some (decide (i = j))
  s : ∀ i, i < 8 → PySem.W.isIn K (.ref (XA (exs.getD i ""))) CPE = true
/-- an exception of the class at C that bears v -/
def Rz (E : XK) (C : Addr) (v : V) (H : Hp) : Prop := ∀ H1 d, Same H H1 → H1 d = none → E (.ref C) (some d) (upd H1 d (.xd [("value", v)]))
theorem Rz.same {E : XK} {C : Addr} {v : V} {H H' : Hp} (h : Rz E C v H) (s : Same H H') : Rz E C v H' := fun H1 d s1 n => h H1 d (fun b u z => s1 _ _ (s _ _ z)) n
theorem Rz.go {E : XK} {C : Addr} {v : V} {H H1 : Hp} (h : Rz E C v H) (s : Same H H1) : ([v] : List V).length ≤ 1000 ∧ ∀ a, H1 a = none → spExcF "value" C (.ref a :: ([v] ++ [])) (upd H1 a (exo a C none))
      (fun u H2 => u = .non ∧ ∃ (d : Addr) (fs : List (Str × V)), H2 a = some (exo a C (some d)) ∧ H2 d = some (exd d fs) ∧ H1 d = none ∧ E (.ref C) (some d) (upd (del H2 a) d (.xd fs))) (fun _ _ _ => False) := mkf fun d nd => h H1 d s nd
/-! ### data -/
def tyD : PyData → String
  | .none => "NoneType"
  | .bool _ => "bool"
  | .int _ => "int"
  | .str _ => "str"
  | .list _ => "list"
  | .tuple _ => "tuple"
  | .dict _ => "dict"
theorem Vd.ty {K : PySem.W.Frag} {H : Hp} {v : V} {d : PyData} (h : Vd H v d) : TyX K H v (.type (tyD d)) := by
  cases h with
  | non => exact .base .non
  | bl b => exact .base (.bl b)
  | int i => exact .base (.int i)
  | str x _ => exact .base (.str x)
  | lst h _ => exact .base (.lst h)
  | tup h _ => exact .base (.tup h)
  | emp h => exact .base (.dK h)
theorem tyD_in (d : PyData) : tyD d ∈ ["NoneType", "bool", "int", "str", "list", "tuple", "dict"] := by cases d <;> simp [tyD]
def isT : PyData → Bool | .tuple _ => true | _ => false
theorem kit_tup : ∀ d : PyData, kitB (tyD d) "tuple" = some (isT d)
  | .none => (by decide +kernel : kitB "NoneType" "tuple" = some false)
  | .bool _ => (by decide +kernel : kitB "bool" "tuple" = some false)
  | .int _ => (by decide +kernel : kitB "int" "tuple" = some false)
  | .str _ => (by decide +kernel : kitB "str" "tuple" = some false)
  | .list _ => (by decide +kernel : kitB "list" "tuple" = some false)
  | .tuple _ => (by decide +kernel : kitB "tuple" "tuple" = some true)
  | .dict _ => (by decide +kernel : kitB "dict" "tuple" = some false)
def numD : PyData → Option Int | .int i => some i | _ => none
def lsD : PyData → Option (List PyData) | .list l => some l | .tuple l => some l | _ => none
def valD (d : PyData) : Option (List (Option Int)) := (lsD d).map fun l => l.map numD
abbrev iv (L : List Nat) : List V := L.map fun n : Nat => V.int (n : Int)
theorem same_new {H : Hp} {p : Addr} (h : H p = none) (o : HO) : Same H (upd H p o) := fun b u q => by rw [upd_ne (ne_of_none q h)]; exact q
theorem iteNo {c A B : Prop} [Decidable c] (h : ¬ c) (b : B) : if decide c = true then A else B := by
  rw [decide_eq_false h]
  exact iteF b
theorem iteNot {c A B : Prop} [Decidable c] (h : ¬ c) (a : A) : if (!decide c) = true then A else B := by
  rw [decide_eq_false h]
  exact iteT a
theorem iteNot' {c A B : Prop} [Decidable c] (h : c) (b : B) : if (!decide c) = true then A else B := by
  rw [decide_eq_true h]
  exact iteF b
theorem iteNN {c A B : Prop} [Decidable c] (h : ¬ c) (b : B) : if (!!decide c) = true then A else B := by
  rw [decide_eq_false h]
  exact iteF b
theorem iv_at {L : List Nat} {j b : Nat} (h : L[j]? = some b) : atI (iv L) (j : Int) = some (.int (b : Int)) := by
  refine atI_nat ?_
  rw [iv, List.getElem?_map, h]
  rfl
theorem iv_app (L : List Nat) (n : Nat) : iv (L ++ [n]) = iv L ++ [V.int (n : Int)] := by
  unfold iv
  rw [List.map_append]
  rfl
theorem same_upd {H H' : Hp} {p : Addr} {o : HO} (h : Same H H') (np : H p = none) : Same H (upd H' p o) := fun b u q => by
  rw [upd_ne (ne_of_none q np)]
  exact h b u q
theorem iteYes {c A B : Prop} [Decidable c] (h : c) (a : A) : if decide c = true then A else B := by
  rw [decide_eq_true h]
  exact iteT a
theorem bl_true {c : Prop} [Decidable c] {Q : VK} {H : Hp} (h : c) (q : Q (.bl true) H) : Q (.bl (decide c)) H := by
  rw [decide_eq_true h]
  exact q
theorem int_eq {a b : Int} : V.int a = V.int b ↔ a = b := ⟨fun h => V.int.inj h, fun h => by rw [h]⟩
/-! ### lists of ints compared -/
abbrev iz (L : List Int) : List V := L.map V.int
theorem iv_iz (L : List Nat) : iv L = iz (L.map fun n : Nat => (n : Int)) := by
  unfold iv iz
  rw [List.map_map]
  rfl
abbrev dz (L : List Int) : PyData := .list (L.map PyData.int)
theorem dpAll_iz {K : PySem.W.Frag} {H : Hp} : ∀ L : List Int, DpAll K H (iz L) (L.map PyData.int)
  | [] => .nil
  | n :: r => .cons (.int n) (dpAll_iz r)
theorem dp_iz {K : PySem.W.Frag} {H : Hp} {p : Addr} {L : List Int} (h : H p = some (.lst (iz L))) : Dp K H (.ref p) (dz L) := .lst (SqL.of h) (dpAll_iz L)
theorem layAll_iz : ∀ L : List Int, PyData.canLayAll0 (L.map PyData.int) = true
  | [] => rfl
  | n :: r => by
    show (PyData.canLay0 (.int n) && PyData.canLayAll0 (r.map PyData.int)) = true
    rw [layAll_iz r]
    rfl
theorem depthAll_iz : ∀ L : List Int, PyData.depthAll (L.map PyData.int) = 0
  | [] => rfl
  | n :: r => by
    show max (PyData.depth (.int n)) (PyData.depthAll (r.map PyData.int)) = 0
    rw [depthAll_iz r]
    rfl
theorem shaped_iz (L : List Int) : SeqAt.shaped (dz L) = true := by
  unfold SeqAt.shaped
  have h1 : PyData.canLay0 (dz L) = true := by
    show PyData.canLay0 (.list (L.map PyData.int)) = true
    unfold PyData.canLay0
    exact layAll_iz L
  have h2 : PyData.depth (dz L) = 1 := by
    show PyData.depth (.list (L.map PyData.int)) = 1
    unfold PyData.depth
    rw [depthAll_iz]
  rw [h1, h2]
  rfl
theorem eqv_same (L : List Int) : PyData.eqv (dz L) (dz L) = true := by
  have h1 : PyData.canLay0 (dz L) = true := by
    show PyData.canLay0 (.list (L.map PyData.int)) = true
    unfold PyData.canLay0
    exact layAll_iz L
  exact SeqAt.eqv_refl _ h1
theorem eqv_empty (L : List Int) : PyData.eqv (dz L) (dz []) = decide (L = []) := by
  cases L with
  | nil => rfl
  | cons n r => rfl
theorem iteNb {x : Bool} {A B : Prop} (h : x = true) (b : B) : if (!x) = true then A else B := by
  rw [h]
  exact iteF b
theorem bl_is {x : Bool} {Q : VK} {H : Hp} (h : x = true) (q : Q (.bl true) H) : Q (.bl x) H := by
  rw [h]
  exact q
/-! ### webs in the heap -/
def Kept (a : Addr) (H H' : Hp) : Prop := ∀ b o, H b = some o → b ≠ a → H' b = some o
theorem Kept.trans {a : Addr} {H H1 H2 : Hp} (h : Kept a H H1) (h2 : Kept a H1 H2) : Kept a H H2 := fun b o e n => h2 b o (h b o e n) n
theorem Same.kept {a : Addr} {H H' : Hp} (h : Same H H') : Kept a H H' := fun b o e _ => h b o e
theorem paired_get {α β : Type} {F : α → β → Prop} : ∀ {l1 : List α} {l2 : List β} {i : Nat} {a : α}, Paired F l1 l2 → l1[i]? = some a → ∃ b, l2[i]? = some b ∧ F a b
  | _, _, _, _, .nil, h => by simp at h
  | _, _, 0, _, .cons r _, h => ⟨_, rfl, by cases h; exact r⟩
  | _, _, i + 1, _, .cons _ t, h => by
    obtain ⟨b, h1, h2⟩ := paired_get (i := i) t (by simpa using h)
    exact ⟨b, by simpa using h1, h2⟩
theorem paired_mono {α β : Type} {F G : α → β → Prop} (h : ∀ a b, F a b → G a b) : ∀ {l1 : List α} {l2 : List β}, Paired F l1 l2 → Paired G l1 l2
  | _, _, .nil => .nil
  | _, _, .cons a r => .cons (h _ _ a) (paired_mono h r)
theorem paired_len {α β : Type} {F : α → β → Prop} : ∀ {l1 : List α} {l2 : List β}, Paired F l1 l2 → l1.length = l2.length
  | _, _, .nil => rfl
  | _, _, .cons _ r => congrArg Nat.succ (paired_len r)
def TupAt (H : Hp) (p : Addr) (e : Nat × Nat) : Prop := H p = some (.tup [.int (e.1 : Int), .int (e.2 : Int)])
def TiesAt (H : Hp) (t : Addr) (ts : List (Nat × Nat)) : Prop := ∃ tas : List Addr, H t = some (.lst (tas.map V.ref)) ∧ Paired (TupAt H) tas ts
theorem TiesAt.same {H H' : Hp} {t : Addr} {ts : List (Nat × Nat)} (h : TiesAt H t ts) (s : Same H H') : TiesAt H' t ts := by
  obtain ⟨tas, h1, h2⟩ := h
  exact ⟨tas, s _ _ h1, paired_mono (fun p e hp => s _ _ hp) h2⟩
structure OkWeb (N : Nat) (ts : List (Nat × Nat)) : Prop where
  n0 : 0 < N
  n1 : N ≤ 60
  m : ts.length ≤ 80
  ok : ∀ e ∈ ts, e.1 < N ∧ e.2 < N
theorem bl_false {c : Prop} [Decidable c] {Q : VK} {H : Hp} (h : ¬ c) (q : Q (.bl false) H) : Q (.bl (decide c)) H := by
  rw [decide_eq_false h]
  exact q
/-! ### values of every kind -/
/-- a value, and what whole number it is -/
inductive Num (H : Hp) : V → Option Int → Prop where
  | int (n : Int) : Num H (.int n) (some n)
  | non : Num H .non none
  | bl (b : Bool) : Num H (.bl b) none
  | str (s : Str) : Num H (.str s) none
  | lst {a : Addr} {xs : List V} (h : H a = some (.lst xs)) : Num H (.ref a) none
  | tup {a : Addr} {xs : List V} (h : H a = some (.tup xs)) : Num H (.ref a) none
  | dK {a : Addr} {ks : List (Key × V)} (h : H a = some (.dK ks)) : Num H (.ref a) none
theorem Num.same {H H' : Hp} {v : V} {o : Option Int} (h : Num H v o) (s : Same H H') : Num H' v o := by
  cases h with
  | int n => exact .int n
  | non => exact .non
  | bl b => exact .bl b
  | str x => exact .str x
  | lst h => exact .lst (s _ _ h)
  | tup h => exact .tup (s _ _ h)
  | dK h => exact .dK (s _ _ h)
theorem Num.some_is {H : Hp} {v : V} {n : Int} (h : Num H v (some n)) : v = .int n := by cases h; rfl
def inR (n : Nat) (o : Option Int) : Bool := o.any fun i => decide (0 ≤ i) && decide (i < (n : Int))
/-- a value, and what it lists -/
inductive Val (H : Hp) : V → Option (List (Option Int)) → Prop where
  | int (n : Int) : Val H (.int n) none
  | non : Val H .non none
  | bl (b : Bool) : Val H (.bl b) none
  | str (s : Str) : Val H (.str s) none
  | dK {a : Addr} {ks : List (Key × V)} (h : H a = some (.dK ks)) : Val H (.ref a) none
  | lst {a : Addr} {xs : List V} {os : List (Option Int)} (h : H a = some (.lst xs)) (p : Paired (Num H) xs os) : Val H (.ref a) (some os)
  | tup {a : Addr} {xs : List V} {os : List (Option Int)} (h : H a = some (.tup xs)) (p : Paired (Num H) xs os) : Val H (.ref a) (some os)
theorem Val.same {H H' : Hp} {v : V} {o : Option (List (Option Int))} (h : Val H v o) (s : Same H H') : Val H' v o := by
  cases h with
  | int n => exact .int n
  | non => exact .non
  | bl b => exact .bl b
  | str x => exact .str x
  | lst h p => exact .lst (s _ _ h) (paired_mono (fun a b q => q.same s) p)
  | tup h p => exact .tup (s _ _ h) (paired_mono (fun a b q => q.same s) p)
  | dK h => exact .dK (s _ _ h)
theorem Vd.num {H : Hp} {v : V} {d : PyData} (h : Vd H v d) : Num H v (numD d) := by
  cases h with
  | non => exact .non
  | bl b => exact .bl b
  | int i => exact .int i
  | str x _ => exact .str x
  | lst h _ => exact .lst h
  | tup h _ => exact .tup h
  | emp h => exact .dK h
theorem VdAll.num {H : Hp} : ∀ {vs : List V} {ds : List PyData}, VdAll H vs ds → Paired (Num H) vs (ds.map numD)
  | _, _, .nil => .nil
  | _, _, .cons h k => .cons h.num k.num
theorem Vd.val {H : Hp} {v : V} {d : PyData} (h : Vd H v d) : Val H v (valD d) := by
  cases h with
  | non => exact .non
  | bl b => exact .bl b
  | int i => exact .int i
  | str x _ => exact .str x
  | lst h k => exact .lst h k.num
  | tup h k => exact .tup h k.num
  | emp h => exact .dK h
def tieD (N : Nat) : PyData → Bool
  | .tuple [a, b] => inR N (numD a) && inR N (numD b)
  | _ => false
def areT (N : Nat) (d : PyData) : Bool := match lsD d with
  | some l => decide (l.length ≤ 80) && l.all (tieD N)
  | none => false
theorem inR_lt {u n : Nat} (h : u < n) : inR n (some (u : Int)) = true := by
  show (decide (0 ≤ (u : Int)) && decide ((u : Int) < (n : Int))) = true
  rw [decide_eq_true (by omega), decide_eq_true (by omega)]
  rfl
/-- ties, in a list or in a tuple -/
def TiesS (H : Hp) (t : Addr) (ts : List (Nat × Nat)) : Prop := ∃ tas : List Addr, (H t = some (.lst (tas.map V.ref)) ∨ H t = some (.tup (tas.map V.ref))) ∧ Paired (TupAt H) tas ts
theorem TiesS.same {H H' : Hp} {t : Addr} {ts : List (Nat × Nat)} (h : TiesS H t ts) (s : Same H H') : TiesS H' t ts := by
  obtain ⟨tas, h1, h2⟩ := h
  exact ⟨tas, h1.imp (s _ _) (s _ _), paired_mono (fun p e hp => s _ _ hp) h2⟩
theorem TiesAt.s {H : Hp} {t : Addr} {ts : List (Nat × Nat)} (h : TiesAt H t ts) : TiesS H t ts := by
  obtain ⟨tas, h1, h2⟩ := h
  exact ⟨tas, .inl h1, h2⟩
theorem ties_num {H : Hp} : ∀ {tas : List Addr} {ts : List (Nat × Nat)}, Paired (TupAt H) tas ts → Paired (Num H) (tas.map V.ref) (tas.map fun _ => none)
  | _, _, .nil => .nil
  | _, _, .cons h r => .cons (.tup h) (ties_num r)
theorem TiesS.val {H : Hp} {t : Addr} {ts : List (Nat × Nat)} (h : TiesS H t ts) : ∃ os, Val H (.ref t) (some os) := by
  obtain ⟨tas, h1 | h1, h2⟩ := h
  · exact ⟨_, .lst h1 (ties_num h2)⟩
  · exact ⟨_, .tup h1 (ties_num h2)⟩
section
variable {P : Program} {w : World} {K : PySem.W.Frag} {mg : Str → Option Value} {base : Heap} {C CPE cM : Addr} {XA : Str → Addr} {TL : List (Addr × Str)}
def spis_integer (_ : PySem.W.Frag) (_ : Addr) (_ : Str → Addr) : Sp := fun vs H Q _ => ∃ v o, vs = [v] ∧ Num H v o ∧ Q (.bl o.isSome) H
theorem okis_integer (D : Def K mg "is_integer" sis_integer ["value"]) (B : Bs mg) (Glb : Glo mg) (WK : WebK K mg C) (EXInvalidWeb : ExcF P w K mg base "value" "InvalidWeb" (XA "InvalidWeb")) (EXInvalidPlaces : ExcF P w K mg base "value" "InvalidPlaces" (XA "InvalidPlaces")) (EXInvalidTies : ExcF P w K mg base "value" "InvalidTies" (XA "InvalidTies")) (EXInvalidPlace : ExcF P w K mg base "value" "InvalidPlace" (XA "InvalidPlace")) (EXInvalidWalk : ExcF P w K mg base "value" "InvalidWalk" (XA "InvalidWalk")) (EXInvalidRound : ExcF P w K mg base "value" "InvalidRound" (XA "InvalidRound")) (EXInvalidWithout : ExcF P w K mg base "value" "InvalidWithout" (XA "InvalidWithout")) (EXInvalidPart : ExcF P w K mg base "value" "InvalidPart" (XA "InvalidPart")) (PErr : mg "PieceError" = some (.ref CPE)) (EXM : ExM K XA CPE) :
    Good P w K mg base "is_integer" sis_integer ["value"] 1 (spis_integer K C XA) := by
  refine D.good fun f fd F => ?_
  refine F.ok scis_integer (fun vs H Q E h => ?_) (fun cdv A outer s H vs Q E hr h => ?_)
  · obtain ⟨v, o, rfl, hv, q⟩ := h
    first | rfl | (rcases h with ⟨_, _, rfl, _⟩ | ⟨_, rfl, _⟩ <;> rfl)
  obtain ⟨v, o, rfl, hv, q⟩ := h
  refine ⟨_, (pss_one (ps_ret (pe_and (pe_callB call_isi (by rfl) B.isinstance (by decide +kernel) (pa_cons (pv 0) (pa_cons (pe_bltn (v := .ty "int") (by rfl) B.int (by decide +kernel) rfl) pa_nil))) (pe_one (pe_not (pe_callB call_isi (by rfl) B.isinstance (by decide +kernel) (pa_cons (pv 0) (pa_cons (pe_bltn (v := .ty "bool") (by rfl) B.bool (by decide +kernel) rfl) pa_nil)))))))), ?_⟩
  cases hv with
  | int n => exact ⟨_, rfl, _, _, _, _, true, rfl, .ty _, .base (.int n), kit_ty (by decide +kernel), _, rfl, iteT ⟨_, rfl, _, _, _, _, false, rfl, .ty _, .base (.int n), kit_ty (by decide +kernel), _, rfl, q⟩⟩
  | non => exact ⟨_, rfl, _, _, _, _, false, rfl, .ty _, .base .non, kit_ty (by decide +kernel), _, rfl, iteF q⟩
  | bl b => exact ⟨_, rfl, _, _, _, _, true, rfl, .ty _, .base (.bl b), kit_ty (by decide +kernel), _, rfl, iteT ⟨_, rfl, _, _, _, _, true, rfl, .ty _, .base (.bl b), kit_ty (by decide +kernel), _, rfl, q⟩⟩
  | str x => exact ⟨_, rfl, _, _, _, _, false, rfl, .ty _, .base (.str x), kit_ty (by decide +kernel), _, rfl, iteF q⟩
  | lst h => exact ⟨_, rfl, _, _, _, _, false, rfl, .ty _, .base (.lst h), kit_ty (by decide +kernel), _, rfl, iteF q⟩
  | tup h => exact ⟨_, rfl, _, _, _, _, false, rfl, .ty _, .base (.tup h), kit_ty (by decide +kernel), _, rfl, iteF q⟩
  | dK h => exact ⟨_, rfl, _, _, _, _, false, rfl, .ty _, .base (.dK h), kit_ty (by decide +kernel), _, rfl, iteF q⟩
def spis_count (_ : PySem.W.Frag) (_ : Addr) (_ : Str → Addr) : Sp := fun vs H Q _ => ∃ v o, vs = [v] ∧ Num H v o ∧ Q (.bl (o.any fun i => decide (0 ≤ i))) H
theorem okis_count (D : Def K mg "is_count" sis_count ["value"]) (B : Bs mg) (Glb : Glo mg) (WK : WebK K mg C) (EXInvalidWeb : ExcF P w K mg base "value" "InvalidWeb" (XA "InvalidWeb")) (EXInvalidPlaces : ExcF P w K mg base "value" "InvalidPlaces" (XA "InvalidPlaces")) (EXInvalidTies : ExcF P w K mg base "value" "InvalidTies" (XA "InvalidTies")) (EXInvalidPlace : ExcF P w K mg base "value" "InvalidPlace" (XA "InvalidPlace")) (EXInvalidWalk : ExcF P w K mg base "value" "InvalidWalk" (XA "InvalidWalk")) (EXInvalidRound : ExcF P w K mg base "value" "InvalidRound" (XA "InvalidRound")) (EXInvalidWithout : ExcF P w K mg base "value" "InvalidWithout" (XA "InvalidWithout")) (EXInvalidPart : ExcF P w K mg base "value" "InvalidPart" (XA "InvalidPart")) (PErr : mg "PieceError" = some (.ref CPE)) (EXM : ExM K XA CPE)
    (his_integer : Good P w K mg base "is_integer" sis_integer ["value"] 1 (spis_integer K C XA)) :
    Good P w K mg base "is_count" sis_count ["value"] 2 (spis_count K C XA) := by
  refine D.good fun f fd F => ?_
  obtain ⟨fis_integer, dis_integer, Ois_integer, mis_integer, kis_integer, bis_integer, Fis_integer⟩ := his_integer
  refine F.ok scis_count (fun vs H Q E h => ?_) (fun cdv A outer s H vs Q E hr h => ?_)
  · obtain ⟨v, o, rfl, hv, q⟩ := h
    first | rfl | (rcases h with ⟨_, _, rfl, _⟩ | ⟨_, rfl, _⟩ <;> rfl)
  obtain ⟨v, o, rfl, hv, q⟩ := h
  refine ⟨_, (pss_one (ps_ret (pe_and (pe_call Ois_integer hr rfl mis_integer kis_integer bis_integer .nil pass0 (pa_cons (pv 0) pa_nil)) (pe_one (pe_cmpR op_ge (pv 0) pe_int (nomark _)))))), ?_⟩
  cases o with
  | none => exact ⟨_, rfl, v, none, rfl, hv, _, rfl, iteF q⟩
  | some n =>
    cases hv.some_is
    exact ⟨_, rfl, _, some n, rfl, hv, _, rfl, iteT ⟨_, rfl, _, _, rfl, rfl, q⟩⟩
def btwO (a b : Int) (o : Option Int) : Bool := o.any fun n => decide (a ≤ n) && decide (n ≤ b)
def spis_between (_ : PySem.W.Frag) (_ : Addr) (_ : Str → Addr) : Sp := fun vs H Q _ => ∃ v o, ∃ a b : Int, vs = [v, .int a, .int b] ∧ Num H v o ∧ Q (.bl (btwO a b o)) H
theorem okis_between (D : Def K mg "is_between" sis_between ["value", "least", "most"]) (B : Bs mg) (Glb : Glo mg) (WK : WebK K mg C) (EXInvalidWeb : ExcF P w K mg base "value" "InvalidWeb" (XA "InvalidWeb")) (EXInvalidPlaces : ExcF P w K mg base "value" "InvalidPlaces" (XA "InvalidPlaces")) (EXInvalidTies : ExcF P w K mg base "value" "InvalidTies" (XA "InvalidTies")) (EXInvalidPlace : ExcF P w K mg base "value" "InvalidPlace" (XA "InvalidPlace")) (EXInvalidWalk : ExcF P w K mg base "value" "InvalidWalk" (XA "InvalidWalk")) (EXInvalidRound : ExcF P w K mg base "value" "InvalidRound" (XA "InvalidRound")) (EXInvalidWithout : ExcF P w K mg base "value" "InvalidWithout" (XA "InvalidWithout")) (EXInvalidPart : ExcF P w K mg base "value" "InvalidPart" (XA "InvalidPart")) (PErr : mg "PieceError" = some (.ref CPE)) (EXM : ExM K XA CPE)
    (his_integer : Good P w K mg base "is_integer" sis_integer ["value"] 1 (spis_integer K C XA)) :
    Good P w K mg base "is_between" sis_between ["value", "least", "most"] 2 (spis_between K C XA) := by
  refine D.good fun f fd F => ?_
  obtain ⟨fis_integer, dis_integer, Ois_integer, mis_integer, kis_integer, bis_integer, Fis_integer⟩ := his_integer
  refine F.ok scis_between (fun vs H Q E h => ?_) (fun cdv A outer s H vs Q E hr h => ?_)
  · obtain ⟨v, o, a, b, rfl, hv, q⟩ := h
    first | rfl | (rcases h with ⟨_, _, rfl, _⟩ | ⟨_, rfl, _⟩ <;> rfl)
  obtain ⟨v, o, a, b, rfl, hv, q⟩ := h
  refine ⟨_, (pss_one (ps_ret (pe_and (pe_call Ois_integer hr rfl mis_integer kis_integer bis_integer .nil pass0 (pa_cons (pv 0) pa_nil)) (pe_one (pe_chain op_le op_le (pv 1) (pv 0) (pv 2)))))), ?_⟩
  refine ⟨_, rfl, v, o, rfl, hv, _, rfl, ?_⟩
  cases o with
  | none => exact iteF q
  | some n =>
    cases hv.some_is
    refine iteT ⟨_, rfl, _, rfl, _, _, rfl, rfl, _, rfl, ?_⟩
    replace q : Q (.bl (decide (a ≤ n) && decide (n ≤ b))) H := q
    by_cases h : a ≤ n
    · rw [decide_eq_true h, Bool.true_and] at q
      exact iteYes h ⟨_, rfl, _, _, rfl, rfl, q⟩
    · rw [decide_eq_false h, Bool.false_and] at q
      exact iteNo h q
def spis_below (_ : PySem.W.Frag) (_ : Addr) (_ : Str → Addr) : Sp := fun vs H Q _ => ∃ v o, ∃ m : Nat, vs = [v, .int (m : Int)] ∧ Num H v o ∧ Q (.bl (inR m o)) H
theorem okis_below (D : Def K mg "is_below" sis_below ["value", "limit"]) (B : Bs mg) (Glb : Glo mg) (WK : WebK K mg C) (EXInvalidWeb : ExcF P w K mg base "value" "InvalidWeb" (XA "InvalidWeb")) (EXInvalidPlaces : ExcF P w K mg base "value" "InvalidPlaces" (XA "InvalidPlaces")) (EXInvalidTies : ExcF P w K mg base "value" "InvalidTies" (XA "InvalidTies")) (EXInvalidPlace : ExcF P w K mg base "value" "InvalidPlace" (XA "InvalidPlace")) (EXInvalidWalk : ExcF P w K mg base "value" "InvalidWalk" (XA "InvalidWalk")) (EXInvalidRound : ExcF P w K mg base "value" "InvalidRound" (XA "InvalidRound")) (EXInvalidWithout : ExcF P w K mg base "value" "InvalidWithout" (XA "InvalidWithout")) (EXInvalidPart : ExcF P w K mg base "value" "InvalidPart" (XA "InvalidPart")) (PErr : mg "PieceError" = some (.ref CPE)) (EXM : ExM K XA CPE)
    (his_count : Good P w K mg base "is_count" sis_count ["value"] 2 (spis_count K C XA)) :
    Good P w K mg base "is_below" sis_below ["value", "limit"] 3 (spis_below K C XA) := by
  refine D.good fun f fd F => ?_
  obtain ⟨fis_count, dis_count, Ois_count, mis_count, kis_count, bis_count, Fis_count⟩ := his_count
  refine F.ok scis_below (fun vs H Q E h => ?_) (fun cdv A outer s H vs Q E hr h => ?_)
  · obtain ⟨v, o, m, rfl, hv, q⟩ := h
    first | rfl | (rcases h with ⟨_, _, rfl, _⟩ | ⟨_, rfl, _⟩ <;> rfl)
  obtain ⟨v, o, m, rfl, hv, q⟩ := h
  refine ⟨_, (pss_one (ps_ret (pe_and (pe_call Ois_count hr rfl mis_count kis_count bis_count .nil pass0 (pa_cons (pv 0) pa_nil)) (pe_one (pe_cmpR op_lt (pv 0) (pv 1) (nomark _)))))), ?_⟩
  refine ⟨_, rfl, v, o, rfl, hv, ?_⟩
  cases o with
  | none => exact ⟨_, rfl, iteF q⟩
  | some n =>
    cases hv.some_is
    refine ⟨_, rfl, ?_⟩
    replace q : Q (.bl (decide (0 ≤ n) && decide (n < (m : Int)))) H := q
    show if decide (0 ≤ n) = true then _ else _
    by_cases h : 0 ≤ n
    · rw [decide_eq_true h, Bool.true_and] at q
      exact iteYes h ⟨_, rfl, _, rfl, _, _, rfl, rfl, q⟩
    · rw [decide_eq_false h, Bool.false_and] at q
      exact iteNo h q
theorem isi_listed {v : V} {o : Option (List (Option Int))} {H : Hp} {tp : Addr} {Q : VK} (hv : Val H v o) (ntp : H tp = none) (q : Q (.bl o.isSome) (upd H tp (.tup [.ty "list", .ty "tuple"]))) : rIsiT K [v, .ref tp] (upd H tp (.tup [.ty "list", .ty "tuple"])) Q := by
  have no : ∀ {t : String} {x : V}, TyX K (upd H tp (.tup [.ty "list", .ty "tuple"])) x (.type t) → kitB t "list" = some false → kitB t "tuple" = some false → Q (.bl false) (upd H tp (.tup [.ty "list", .ty "tuple"])) → rIsiT K [x, .ref tp] (upd H tp (.tup [.ty "list", .ty "tuple"])) Q :=
    fun ty h1 h2 q => ⟨_, tp, [.ty "list", .ty "tuple"], _, [.type "list", .type "tuple"], false, rfl, upd_same, .cons (.ty _) (.cons (.ty _) .nil), ty, kitAny_cons (b := false) (kit_ty h1) (fun _ => kitAny_cons (b := false) (kit_ty h2) (fun _ => kitAny_nil) (fun h => by cases h)) (fun h => by cases h), q⟩
  cases hv with
  | lst ha _ => exact ⟨_, tp, [.ty "list", .ty "tuple"], .type "list", [.type "list", .type "tuple"], true, rfl, upd_same, .cons (.ty _) (.cons (.ty _) .nil), .base (.lst (same_new ntp _ _ _ ha)), kitAny_cons (b := true) (kit_ty (by decide +kernel)) (fun h => by cases h) (fun _ => rfl), q⟩
  | tup ha _ => exact ⟨_, tp, [.ty "list", .ty "tuple"], .type "tuple", [.type "list", .type "tuple"], true, rfl, upd_same, .cons (.ty _) (.cons (.ty _) .nil), .base (.tup (same_new ntp _ _ _ ha)), kitAny_cons (b := false) (kit_ty (by decide +kernel)) (fun _ => kitAny_cons (b := true) (kit_ty (by decide +kernel)) (fun h => by cases h) (fun _ => rfl)) (fun h => by cases h), q⟩
  | int n => exact no (.base (.int n)) (by decide +kernel) (by decide +kernel) q
  | non => exact no (.base .non) (by decide +kernel) (by decide +kernel) q
  | bl b => exact no (.base (.bl b)) (by decide +kernel) (by decide +kernel) q
  | str x => exact no (.base (.str x)) (by decide +kernel) (by decide +kernel) q
  | dK h => exact no (.base (.dK (same_new ntp _ _ _ h))) (by decide +kernel) (by decide +kernel) q
def spis_listed (_ : PySem.W.Frag) (_ : Addr) (_ : Str → Addr) : Sp := fun vs H Q _ => ∃ v o, vs = [v] ∧ Val H v o ∧ ∀ H', Same H H' → Q (.bl o.isSome) H'
theorem okis_listed (D : Def K mg "is_listed" sis_listed ["value"]) (B : Bs mg) (Glb : Glo mg) (WK : WebK K mg C) (EXInvalidWeb : ExcF P w K mg base "value" "InvalidWeb" (XA "InvalidWeb")) (EXInvalidPlaces : ExcF P w K mg base "value" "InvalidPlaces" (XA "InvalidPlaces")) (EXInvalidTies : ExcF P w K mg base "value" "InvalidTies" (XA "InvalidTies")) (EXInvalidPlace : ExcF P w K mg base "value" "InvalidPlace" (XA "InvalidPlace")) (EXInvalidWalk : ExcF P w K mg base "value" "InvalidWalk" (XA "InvalidWalk")) (EXInvalidRound : ExcF P w K mg base "value" "InvalidRound" (XA "InvalidRound")) (EXInvalidWithout : ExcF P w K mg base "value" "InvalidWithout" (XA "InvalidWithout")) (EXInvalidPart : ExcF P w K mg base "value" "InvalidPart" (XA "InvalidPart")) (PErr : mg "PieceError" = some (.ref CPE)) (EXM : ExM K XA CPE) :
    Good P w K mg base "is_listed" sis_listed ["value"] 1 (spis_listed K C XA) := by
  refine D.good fun f fd F => ?_
  refine F.ok scis_listed (fun vs H Q E h => ?_) (fun cdv A outer s H vs Q E hr h => ?_)
  · obtain ⟨v, o, rfl, hv, q⟩ := h
    first | rfl | (rcases h with ⟨_, _, rfl, _⟩ | ⟨_, rfl, _⟩ <;> rfl)
  obtain ⟨v, o, rfl, hv, q⟩ := h
  refine ⟨_, (pss_one (ps_ret (pe_callB call_isiT (by rfl) B.isinstance (by decide +kernel) (pa_cons (pv 0) (pa_cons (pe_tup (pa_cons (pe_bltn (v := .ty "list") (by rfl) B.list (by decide +kernel) rfl) (pa_cons (pe_bltn (v := .ty "tuple") (by rfl) B.tuple (by decide +kernel) rfl) pa_nil))) pa_nil))))), ?_⟩
  exact ⟨_, rfl, (by show 2 ≤ sizeLine; decide), fun tp ntp => isi_listed hv ntp (q _ (same_new ntp _))⟩
theorem areT_no {N : Nat} {d : PyData} {l : List PyData} {i : Nat} {e : PyData} (h : lsD d = some l) (he : l[i]? = some e) (k : tieD N e = false) : areT N d = false := by
  unfold areT
  rw [h]
  show (decide (l.length ≤ 80) && l.all (tieD N)) = false
  rw [Bool.and_eq_false_iff]
  refine .inr ?_
  rw [List.all_eq_false]
  exact ⟨e, List.mem_of_getElem? he, by rw [k]; exact Bool.false_ne_true⟩
theorem Vd.listed {H : Hp} {v : V} {d : PyData} {l : List PyData} (h : Vd H v d) (e : lsD d = some l) : ∃ t xs, v = .ref t ∧ (H t = some (.lst xs) ∨ H t = some (.tup xs)) ∧ VdAll H xs l := by
  cases h with
  | lst h k => cases e; exact ⟨_, _, rfl, .inl h, k⟩
  | tup h k => cases e; exact ⟨_, _, rfl, .inr h, k⟩
  | _ => cases e
def spare_ties (_ : PySem.W.Frag) (_ : Addr) (_ : Str → Addr) : Sp := fun vs H Q _ => ∃ (N : Nat) (v : V) (d : PyData), vs = [.int (N : Int), v] ∧ Vd H v d ∧ ∀ H', Same H H' → Q (.bl (areT N d)) H'
theorem okare_ties (D : Def K mg "are_ties" sare_ties ["places", "value"]) (B : Bs mg) (Glb : Glo mg) (WK : WebK K mg C) (EXInvalidWeb : ExcF P w K mg base "value" "InvalidWeb" (XA "InvalidWeb")) (EXInvalidPlaces : ExcF P w K mg base "value" "InvalidPlaces" (XA "InvalidPlaces")) (EXInvalidTies : ExcF P w K mg base "value" "InvalidTies" (XA "InvalidTies")) (EXInvalidPlace : ExcF P w K mg base "value" "InvalidPlace" (XA "InvalidPlace")) (EXInvalidWalk : ExcF P w K mg base "value" "InvalidWalk" (XA "InvalidWalk")) (EXInvalidRound : ExcF P w K mg base "value" "InvalidRound" (XA "InvalidRound")) (EXInvalidWithout : ExcF P w K mg base "value" "InvalidWithout" (XA "InvalidWithout")) (EXInvalidPart : ExcF P w K mg base "value" "InvalidPart" (XA "InvalidPart")) (PErr : mg "PieceError" = some (.ref CPE)) (EXM : ExM K XA CPE)
    (his_listed : Good P w K mg base "is_listed" sis_listed ["value"] 1 (spis_listed K C XA))
    (his_below : Good P w K mg base "is_below" sis_below ["value", "limit"] 3 (spis_below K C XA)) :
    Good P w K mg base "are_ties" sare_ties ["places", "value"] 4 (spare_ties K C XA) := by
  refine D.good fun f fd F => ?_
  obtain ⟨fis_listed, dis_listed, Ois_listed, mis_listed, kis_listed, bis_listed, Fis_listed⟩ := his_listed
  obtain ⟨fis_below, dis_below, Ois_below, mis_below, kis_below, bis_below, Fis_below⟩ := his_below
  refine F.ok scare_ties (fun vs H Q E h => ?_) (fun cdv A outer s H vs Q E hr h => ?_)
  · obtain ⟨N, v, d, rfl, hv, q⟩ := h
    first | rfl | (rcases h with ⟨_, _, rfl, _⟩ | ⟨_, rfl, _⟩ <;> rfl)
  obtain ⟨N, v, d, rfl, hv, q⟩ := h
  refine ⟨_, (pss_cons (ps_if (PW.pt (pw_or (pt_not (pt_val (pe_call Ois_listed (hr.mono (by decide)) rfl mis_listed kis_listed bis_listed .nil pass0 (pa_cons (pv 1) pa_nil)))) (pw_or1 (pt_cmpR op_gt (pe_callB call_len_seq (by rfl) B.len (by decide +kernel) (pa_cons (pv 1) pa_nil)) (pe_globI Glb.MOST_TIES) (nomark _)))))
    (pss_one (ps_ret pe_bl)) pss_nil)
  (pss_cons (ps_for PassesOwn.never rfl (pi_or (pi_list (pv 1)) (pi_tup (pv 1))) (pg_name (i := 2) scare_ties.nd rfl (by first | exact Or.inl rfl | exact Or.inr rfl))
    (pss_cons (ps_if (PW.pt (pw_or (pt_not (pt_val (pe_callB call_isi (by rfl) B.isinstance (by decide +kernel) (pa_cons (pv 2) (pa_cons (pe_bltn (v := .ty "tuple") (by rfl) B.tuple (by decide +kernel) rfl) pa_nil))))) (pw_or1 (pt_cmpR op_ne (pe_callB call_len_seq (by rfl) B.len (by decide +kernel) (pa_cons (pv 2) pa_nil)) pe_int (nomark _)))))
    (pss_one (ps_ret pe_bl)) pss_nil)
  (pss_one (ps_if (PW.pt (pw_or (pt_not (pt_val (pe_call Ois_below hr rfl mis_below kis_below bis_below .nil pass0 (pa_cons (pe_ix ix_tup (pv 2) pe_int (fun _ _ => rfl)) (pa_cons (pv 0) pa_nil))))) (pw_or1 (pt_not (pt_val (pe_call Ois_below hr rfl mis_below kis_below bis_below .nil pass0 (pa_cons (pe_ix ix_tup (pv 2) pe_int (fun _ _ => rfl)) (pa_cons (pv 0) pa_nil))))))))
    (pss_one (ps_ret pe_bl)) pss_nil))))
  (pss_one (ps_ret pe_bl)))), ?_⟩
  refine ⟨_, rfl, v, valD d, rfl, hv.val, fun H1 hS1 => ⟨_, rfl, ?_⟩⟩
  have hv1 := hv.same hS1
  cases e : lsD d with
  | none =>
    have hz : valD d = none := by unfold valD; rw [e]; rfl
    have ha : areT N d = false := by unfold areT; rw [e]
    have := q H1 hS1
    rw [ha] at this
    rw [hz]
    exact iteT this
  | some l =>
    have hz : valD d = some (l.map numD) := by unfold valD; rw [e]; rfl
    rw [hz]
    obtain ⟨t, xs, rfl, hx, hk⟩ := hv1.listed e
    have hl := hk.len
    refine iteF ⟨_, rfl, _, _, rfl, hx.imp SqL.of SqT.of, _, _, rfl, rfl, _, rfl, ?_⟩
    by_cases c80 : xs.length ≤ 80
    case neg =>
      have ha : areT N d = false := by
        unfold areT
        rw [e]
        show (decide (l.length ≤ 80) && l.all (tieD N)) = false
        rw [decide_eq_false (by omega)]
        rfl
      have := q H1 hS1
      rw [ha] at this
      exact iteYes (by show (80 : Int) < (xs.length : Int); omega) this
    refine iteNo (by show ¬ (80 : Int) < (xs.length : Int); omega) ?_
    have fin : ∀ H', Same H1 H' → (l.take xs.length).all (tieD N) = true → Q (.bl true) H' := by
      intro H' s h
      have := q H' (hS1.trans s)
      rw [hl, List.take_length] at h
      rwa [show areT N d = true by unfold areT; rw [e]; show (decide (l.length ≤ 80) && l.all (tieD N)) = true; rw [h, decide_eq_true (by omega)]; rfl] at this
    have bad : ∀ (H' : Hp) (i : Nat) (f : PyData), Same H1 H' → l[i]? = some f → tieD N f = false → Q (.bl false) H' := by
      intro H' i f s h k
      have := q H' (hS1.trans s)
      rwa [areT_no e h k] at this
    rcases hx with hx | hx
    case' inl => refine .inl ⟨_, rfl, t, rfl, ⟨_, SqL.of hx⟩, for_list (K := K) (a := t) (xs := xs) (fun i σ H' => Same H1 H' ∧ (l.take i).all (tieD N) = true ∧ ∃ v, σ = [some (.int (N : Int)), some (.ref t), v]) ⟨fun _ _ z => z, rfl, none, rfl⟩ (fun i σ H' _ ⟨hS', _⟩ => SqL.of (hS' _ _ hx)) ?s1 ?e1⟩
    case' inr => refine .inr ⟨_, rfl, t, rfl, ⟨_, SqT.of hx⟩, for_tup (K := K) (a := t) (xs := xs) (fun i σ H' => Same H1 H' ∧ (l.take i).all (tieD N) = true ∧ ∃ v, σ = [some (.int (N : Int)), some (.ref t), v]) ⟨fun _ _ z => z, rfl, none, rfl⟩ (fun i σ H' _ ⟨hS', _⟩ => SqT.of (hS' _ _ hx)) ?s2 ?e2⟩
    case e1 | e2 =>
      rintro σ H2 ⟨hS2, hall, v, rfl⟩
      exact fin H2 hS2 hall
    case s1 | s2 =>
      rintro i x σ H2 hxi ⟨hS2, hall, v, rfl⟩
      obtain ⟨f, hf, hvf⟩ := hk.at hxi
      have hv2 := hvf.same hS2
      refine ⟨_, rfl, _, _, _, _, _, rfl, .ty _, hv2.ty, kit_ty (kit_tup f), _, rfl, ?_⟩
      cases hv2 with
      | @tup p vs es hp hke =>
        refine iteF ⟨_, rfl, _, _, rfl, .inr (SqT.of hp), rfl, _, rfl, ?_⟩
        match vs, es, hke with
        | [], [], .nil => exact iteNot (fun z => nomatch int_eq.mp z) (bad H2 i _ hS2 hf rfl)
        | [_], [_], .cons _ .nil => exact iteNot (fun z => nomatch int_eq.mp z) (bad H2 i _ hS2 hf rfl)
        | [a, b], [da, db], .cons ka (.cons kb .nil) =>
          refine iteNot' rfl ?_
          refine ⟨_, rfl, _, _, _, a, rfl, rfl, SqT.of hp, rfl, _, rfl, _, _, N, rfl, ka.num, _, rfl, ?_⟩
          cases c1 : inR N (numD da) with
          | false => exact iteT (bad H2 i _ hS2 hf (by show (inR N (numD da) && inR N (numD db)) = false; rw [c1]; rfl))
          | true =>
            refine iteF ⟨_, rfl, _, _, _, b, rfl, rfl, SqT.of hp, rfl, _, rfl, _, _, N, rfl, kb.num, _, rfl, ?_⟩
            cases c2 : inR N (numD db) with
            | false => exact iteT (bad H2 i _ hS2 hf (by show (inR N (numD da) && inR N (numD db)) = false; rw [c1, c2]; rfl))
            | true =>
              refine iteF ⟨hS2, ?_, _, rfl⟩
              rw [List.take_add_one, hf, List.all_append, hall]
              show (true && ((inR N (numD da) && inR N (numD db)) && true)) = true
              rw [c1, c2]
              rfl
        | _ :: _ :: _ :: r, _ :: _ :: _ :: r2, .cons _ (.cons _ (.cons _ _)) =>
          refine iteNot (fun z => ?_) (bad H2 i _ hS2 hf rfl)
          have := int_eq.mp z
          simp at this
          omega
      | _ => exact iteT (bad H2 i _ hS2 hf rfl)
end
end My
namespace My
open PySem L2 PyProof.Rows
/-! ### numbers of ties from a place -/
def frmN (ts : List (Nat × Nat)) (p : Nat) : Nat → List Nat
  | 0 => []
  | i + 1 => if (ts[i]?.map Prod.fst) = some p then frmN ts p i ++ [i] else frmN ts p i
abbrev frm (ts : List (Nat × Nat)) (p : Nat) : List Nat := frmN ts p ts.length
theorem frmN_len (ts : List (Nat × Nat)) (p : Nat) : ∀ i, (frmN ts p i).length ≤ i
  | 0 => by simp [frmN]
  | i + 1 => by
    have := frmN_len ts p i
    unfold frmN
    split
    · simp; omega
    · omega
theorem frmN_mem (ts : List (Nat × Nat)) (p x : Nat) : ∀ i, x ∈ frmN ts p i ↔ x < i ∧ ts[x]?.map Prod.fst = some p
  | 0 => by simp [frmN]
  | i + 1 => by
    have ih := frmN_mem ts p x i
    unfold frmN
    split
    · rename_i c
      rw [List.mem_append, ih, List.mem_singleton]
      constructor
      · rintro (⟨h1, h2⟩ | rfl)
        · exact ⟨by omega, h2⟩
        · exact ⟨by omega, c⟩
      · rintro ⟨h1, h2⟩
        by_cases z : x = i
        · exact .inr z
        · exact .inl ⟨by omega, h2⟩
    · rename_i c
      rw [ih]
      constructor
      · rintro ⟨h1, h2⟩
        exact ⟨by omega, h2⟩
      · rintro ⟨h1, h2⟩
        refine ⟨?_, h2⟩
        by_cases z : x = i
        · subst z; exact absurd h2 c
        · omega
theorem nodup_get {α : Type} {L : List α} {j k : Nat} {x : α} (hn : L.Nodup) (h1 : L[j]? = some x) (h2 : L[k]? = some x) : j = k :=
  (List.getElem?_inj (List.getElem?_eq_some_iff.mp h1).1 hn).mp (h1.trans h2.symm)
/-! ### new empty lists -/
def Fresh (H1 : Hp) (D : Addr) (n : Nat) (H' : Hp) : Prop := ∃ fas : List Addr, fas.length = n ∧ fas.Nodup ∧ (∀ x ∈ fas, H1 x = none ∧ x ≠ D) ∧ Same H1 H' ∧ H' D = some (.lst (fas.map V.ref)) ∧ ∀ x ∈ fas, H' x = some (.lst [])
theorem Fresh.zero {H1 : Hp} {D : Addr} (h : H1 D = none) : Fresh H1 D 0 (upd H1 D (.lst [])) :=
  ⟨[], rfl, by simp, fun x h => by simp at h, same_new h _, upd_same, fun x h => by simp at h⟩
theorem Fresh.step {H1 H2 : Hp} {D p : Addr} {n : Nat} (h : Fresh H1 D n H2) (nD : H1 D = none) (hn : n < 1000) (np : H2 p = none) :
    ∃ acc, upd H2 p (.lst []) D = some (.lst acc) ∧ acc.length < sizeLine ∧ Fresh H1 D (n + 1) (upd (upd H2 p (.lst [])) D (.lst (acc ++ [.ref p]))) := by
  obtain ⟨fas, h1, h2, h3, h4, h5, h6⟩ := h
  have hpD : D ≠ p := ne_of_none h5 np
  refine ⟨fas.map V.ref, by rw [upd_ne hpD]; exact h5, by rw [List.length_map, h1]; exact Nat.lt_trans hn (by decide), fas ++ [p], by simp [h1], ?_, ?_, ?_, by rw [upd_same, List.map_append]; rfl, ?_⟩
  · rw [List.nodup_append]
    refine ⟨h2, by simp, fun x hx y hy => ?_⟩
    rw [List.mem_singleton.mp hy]
    rintro rfl
    rw [h6 _ hx] at np
    cases np
  · intro x hx
    rcases List.mem_append.mp hx with z | z
    · exact h3 x z
    · rw [List.mem_singleton.mp z]
      exact ⟨h4.free np, hpD.symm⟩
  · intro b o e
    rw [upd_ne (ne_of_none e nD), upd_ne (ne_of_none (h4 _ _ e) np)]
    exact h4 _ _ e
  · intro x hx
    rcases List.mem_append.mp hx with z | z
    · rw [upd_ne (h3 x z).2, upd_ne (ne_of_none (h6 x z) np)]
      exact h6 x z
    · rw [List.mem_singleton.mp z, upd_ne hpD.symm, upd_same]
/-- rows: heaps that keep what H held, but for these lists -/
def KeptR (R : List Addr) (H H' : Hp) : Prop := ∀ b o, H b = some o → b ∉ R → H' b = some o
theorem KeptR.refl (R : List Addr) (H : Hp) : KeptR R H H := fun _ _ h _ => h
theorem KeptR.new {R : List Addr} {H H' : Hp} {p : Addr} {o : HO} (h : KeptR R H H') (np : H' p = none) : KeptR R H (upd H' p o) := fun b u e n => by
  have := h b u e n
  rw [upd_ne (ne_of_none this np)]
  exact this
theorem KeptR.put {R : List Addr} {H H' : Hp} {p : Addr} {o : HO} (h : KeptR R H H') (hp : p ∈ R) : KeptR R H (upd H' p o) := fun b u e n => by
  rw [upd_ne (fun z => n (by rw [z]; exact hp))]
  exact h b u e n
/-! ### webs -/
def wf (N : Nat) (tl fl ol : Addr) : List (Str × V) := putF "_ties_to" (.ref ol) (putF "_ties_from" (.ref fl) (putF "_ties" (.ref tl) (putF "_places" (.int (N : Int)) [])))
theorem wf_P (N : Nat) (tl fl ol : Addr) : (wf N tl fl ol).lookup ("_places" : Str) = some (.int (N : Int)) := by
  unfold wf
  rw [lookup_putF, if_neg (by decide +kernel), lookup_putF, if_neg (by decide +kernel), lookup_putF, if_neg (by decide +kernel), lookup_putF, if_pos rfl]
theorem wf_T (N : Nat) (tl fl ol : Addr) : (wf N tl fl ol).lookup ("_ties" : Str) = some (.ref tl) := by
  unfold wf
  rw [lookup_putF, if_neg (by decide +kernel), lookup_putF, if_neg (by decide +kernel), lookup_putF, if_pos rfl]
theorem wf_F (N : Nat) (tl fl ol : Addr) : (wf N tl fl ol).lookup ("_ties_from" : Str) = some (.ref fl) := by
  unfold wf
  rw [lookup_putF, if_neg (by decide +kernel), lookup_putF, if_pos rfl]
theorem wf_O (N : Nat) (tl fl ol : Addr) : (wf N tl fl ol).lookup ("_ties_to" : Str) = some (.ref ol) := by
  unfold wf
  rw [lookup_putF, if_pos rfl]
theorem wf_no (N : Nat) (tl fl ol : Addr) {m : Str} (h1 : ¬ m = "_ties_to") (h2 : ¬ m = "_ties_from") (h3 : ¬ m = "_ties") (h4 : ¬ m = "_places") : (wf N tl fl ol).lookup m = none := by
  unfold wf
  rw [lookup_putF, if_neg h1, lookup_putF, if_neg h2, lookup_putF, if_neg h3, lookup_putF, if_neg h4]
  all_goals rfl
theorem putF_len (f : Str) (v : V) : ∀ l : List (Str × V), (putF f v l).length ≤ l.length + 1
  | [] => by simp [putF]
  | (g, x) :: r => by
    have := putF_len f v r
    unfold putF
    split
    · simp
    · simp; omega
def RowsAt (H : Hp) (p : Addr) (N : Nat) (f : Nat → List Nat) : Prop := ∃ fas : List Addr, H p = some (.lst (fas.map V.ref)) ∧ fas.length = N ∧ ∀ j x, fas[j]? = some x → H x = some (.lst (iv (f j)))
theorem RowsAt.same {H H' : Hp} {p : Addr} {N : Nat} {f : Nat → List Nat} (h : RowsAt H p N f) (s : Same H H') : RowsAt H' p N f := by
  obtain ⟨fas, h1, h2, h3⟩ := h
  exact ⟨fas, s _ _ h1, h2, fun j x e => s _ _ (h3 j x e)⟩
theorem RowsAt.get {H : Hp} {p : Addr} {N : Nat} {f : Nat → List Nat} (h : RowsAt H p N f) {j : Nat} (hj : j < N) : ∃ x xs, H p = some (.lst xs) ∧ atI xs (j : Int) = some (.ref x) ∧ H x = some (.lst (iv (f j))) := by
  obtain ⟨fas, h1, h2, h3⟩ := h
  have e : fas[j]? = some (fas[j]'(by omega)) := List.getElem?_eq_getElem _
  refine ⟨_, _, h1, atI_nat ?_, h3 j _ e⟩
  rw [List.getElem?_map, e]
  rfl
def WebAt (C a : Addr) (N : Nat) (ts : List (Nat × Nat)) (H : Hp) : Prop := ∃ dx tl fl ol, H a = some (.ins C dx (wf N tl fl ol)) ∧ TiesAt H tl ts ∧ RowsAt H fl N (frm ts) ∧ RowsAt H ol N (frm (ts.map Prod.swap))
theorem WebAt.same {C a : Addr} {N : Nat} {ts : List (Nat × Nat)} {H H' : Hp} (h : WebAt C a N ts H) (s : Same H H') : WebAt C a N ts H' := by
  obtain ⟨dx, tl, fl, ol, h1, h2, h3, h4⟩ := h
  exact ⟨dx, tl, fl, ol, s _ _ h1, h2.same s, h3.same s, h4.same s⟩
/-- what is new in H' or a tuple, and what stands at a -/
noncomputable def Sub (H H' : Hp) (a : Addr) : Hp := fun b => by
  classical
  exact if H b = none ∨ b = a ∨ ∃ xs, H' b = some (.tup xs) then H' b else none
theorem Sub.of {H H' : Hp} {a b : Addr} {o : HO} (h : H' b = some o) (k : H b = none ∨ b = a ∨ ∃ xs, H' b = some (.tup xs)) : Sub H H' a b = some o := by
  unfold Sub
  rw [if_pos k]
  exact h
theorem Sub.same {H H' : Hp} {a : Addr} : Same (Sub H H' a) H' := fun b o e => by
  unfold Sub at e
  split at e
  · exact e
  · cases e
theorem Sub.none {H H' : Hp} {a b : Addr} {xs : List V} (h : H b = some (.lst xs)) (n : b ≠ a) (k : H' b = some (.lst xs)) : Sub H H' a b = Option.none := by
  unfold Sub
  rw [if_neg]
  rintro (z | z | ⟨ys, z⟩)
  · rw [h] at z; cases z
  · exact n z
  · rw [k] at z; cases z
theorem btw_of {d : PyData} (h : btwO 1 60 (numD d) = true) : ∃ N : Nat, d = .int (N : Int) ∧ 1 ≤ N ∧ N ≤ 60 := by
  cases d with
  | int i =>
    have h1 : (decide (1 ≤ i) && decide (i ≤ 60)) = true := h
    rw [Bool.and_eq_true, decide_eq_true_iff, decide_eq_true_iff] at h1
    exact ⟨i.toNat, by rw [Int.toNat_of_nonneg (by omega)], by omega, by omega⟩
  | _ => cases h
theorem inR_of {N : Nat} {d : PyData} (h : inR N (numD d) = true) : ∃ u : Nat, d = .int (u : Int) ∧ u < N := by
  cases d with
  | int i =>
    have h1 : (decide (0 ≤ i) && decide (i < (N : Int))) = true := h
    rw [Bool.and_eq_true, decide_eq_true_iff, decide_eq_true_iff] at h1
    exact ⟨i.toNat, by rw [Int.toNat_of_nonneg (by omega)], by omega⟩
  | _ => cases h
theorem ties_all {H : Hp} {N : Nat} : ∀ {xs : List V} {l : List PyData}, VdAll H xs l → l.all (tieD N) = true → ∃ (tas : List Addr) (ts : List (Nat × Nat)), xs = tas.map V.ref ∧ Paired (TupAt H) tas ts ∧ ts.length = l.length ∧ ∀ e ∈ ts, e.1 < N ∧ e.2 < N
  | _, _, .nil, _ => ⟨[], [], rfl, .nil, rfl, fun e h => nomatch h⟩
  | x :: xs, d :: l, .cons h k, e => by
    rw [List.all_cons, Bool.and_eq_true] at e
    obtain ⟨tas, ts, rfl, hP, hl, hb⟩ := ties_all k e.2
    have e1 := e.1
    cases h with
    | @tup p vs es hp hk =>
      match vs, es, hk, e1 with
      | [a, b], [da, db], .cons ka (.cons kb .nil), e1 =>
        have e2 : (inR N (numD da) && inR N (numD db)) = true := e1
        rw [Bool.and_eq_true] at e2
        obtain ⟨u, rfl, hu⟩ := inR_of e2.1
        obtain ⟨v, rfl, hv⟩ := inR_of e2.2
        cases ka
        cases kb
        refine ⟨p :: tas, (u, v) :: ts, rfl, .cons hp hP, by simp [hl], fun e he => ?_⟩
        rcases List.mem_cons.mp he with z | z
        · rw [z]; exact ⟨hu, hv⟩
        · exact hb e z
      | [], [], .nil, e1 => cases e1
      | [_], [_], .cons _ .nil, e1 => cases e1
      | _ :: _ :: _ :: r, _ :: _ :: _ :: r2, .cons _ (.cons _ (.cons _ _)), e1 => cases e1
    | _ => cases e1
theorem ties_of {H : Hp} {N : Nat} {v : V} {d : PyData} (h : Vd H v d) (e : areT N d = true) : ∃ t ts, v = .ref t ∧ TiesS H t ts ∧ ts.length ≤ 80 ∧ ∀ e ∈ ts, e.1 < N ∧ e.2 < N := by
  unfold areT at e
  cases hl : lsD d with
  | none => rw [hl] at e; cases e
  | some l =>
    rw [hl] at e
    have e2 : (decide (l.length ≤ 80) && l.all (tieD N)) = true := e
    rw [Bool.and_eq_true, decide_eq_true_iff] at e2
    obtain ⟨t, xs, rfl, hx, hk⟩ := h.listed hl
    obtain ⟨tas, ts, rfl, hP, hl2, hb⟩ := ties_all hk e2.2
    exact ⟨t, ts, rfl, ⟨tas, hx, hP⟩, by omega, hb⟩
theorem btw {n a b : Int} (h1 : a ≤ n) (h2 : n ≤ b) : (decide (a ≤ n) && decide (n ≤ b)) = true := by
  rw [decide_eq_true h1, decide_eq_true h2]
  rfl
section
variable {P : Program} {w : World} {K : PySem.W.Frag} {mg : Str → Option Value} {base : Heap} {C CPE cM : Addr} {XA : Str → Addr} {TL : List (Addr × Str)}
def spWeb___init__ (_ : PySem.W.Frag) (C : Addr) (XA : Str → Addr) : Sp := fun vs H Q E => ∃ a dx vP dp tv dt, vs = [.ref a, vP, tv] ∧ Vd H vP dp ∧ Vd H tv dt ∧ H a = some (.ins C dx []) ∧
  (btwO 1 60 (numD dp) = false → Rz E (XA "InvalidPlaces") vP H) ∧ (∀ N : Nat, dp = .int (N : Int) → 1 ≤ N → N ≤ 60 → areT N dt = false → Rz E (XA "InvalidTies") tv H) ∧
  (∀ N t ts, dp = .int ((N : Nat) : Int) → tv = .ref t → OkWeb N ts → TiesS H t ts → ∀ H', Kept a H H' → WebAt C a N ts (Sub H H' a) → Q .non H')
theorem okWeb___init__ (D : DefI K C "__init__" "Web.__init__" sWeb___init__ ["self", "places", "ties"]) (B : Bs mg) (Glb : Glo mg) (WK : WebK K mg C) (EXInvalidWeb : ExcF P w K mg base "value" "InvalidWeb" (XA "InvalidWeb")) (EXInvalidPlaces : ExcF P w K mg base "value" "InvalidPlaces" (XA "InvalidPlaces")) (EXInvalidTies : ExcF P w K mg base "value" "InvalidTies" (XA "InvalidTies")) (EXInvalidPlace : ExcF P w K mg base "value" "InvalidPlace" (XA "InvalidPlace")) (EXInvalidWalk : ExcF P w K mg base "value" "InvalidWalk" (XA "InvalidWalk")) (EXInvalidRound : ExcF P w K mg base "value" "InvalidRound" (XA "InvalidRound")) (EXInvalidWithout : ExcF P w K mg base "value" "InvalidWithout" (XA "InvalidWithout")) (EXInvalidPart : ExcF P w K mg base "value" "InvalidPart" (XA "InvalidPart")) (PErr : mg "PieceError" = some (.ref CPE)) (EXM : ExM K XA CPE)
    (his_between : Good P w K mg base "is_between" sis_between ["value", "least", "most"] 2 (spis_between K C XA))
    (hare_ties : Good P w K mg base "are_ties" sare_ties ["places", "value"] 4 (spare_ties K C XA)) :
    GoodJX P w K mg base C "__init__" "Web.__init__" sWeb___init__ ["self", "places", "ties"] 5 (spWeb___init__ K C XA) := by
  refine D.goodJX fun f fd F => ?_
  obtain ⟨fis_between, dis_between, Ois_between, mis_between, kis_between, bis_between, Fis_between⟩ := his_between
  obtain ⟨fare_ties, dare_ties, Oare_ties, mare_ties, kare_ties, bare_ties, Fare_ties⟩ := hare_ties
  refine F.okX scWeb___init__ (fun vs H Q E h => ?_) (fun cdv A outer s H vs Q E hr h => ?_)
  · obtain ⟨a, dx, vP, dp, tv, dt, rfl, hpv, htv, ha, qP, qT, q⟩ := h
    first | rfl | (rcases h with ⟨_, _, rfl, _⟩ | ⟨_, rfl, _⟩ <;> rfl)
  obtain ⟨a, dx, vP, dp, tv, dt, rfl, hpv, htv, ha, qP, qT, q⟩ := h
  refine ⟨_, (pss_cons (ps_if (pt_not (pt_val (pe_call Ois_between (hr.mono (by decide)) rfl mis_between kis_between bis_between .nil pass0 (pa_cons (pv 1) (pa_cons pe_int (pa_cons (pe_globI Glb.MOST_PLACES) pa_nil))))))
    (pss_one (ps_raise rfl (takes_of rfl rfl rfl rfl) (pmk_fld EXInvalidPlaces (hr.mono (by decide)) (by rfl) (pa_cons (pv 1) pa_nil)))) pss_nil)
  (pss_cons (ps_if (pt_not (pt_val (pe_call Oare_ties hr rfl mare_ties kare_ties bare_ties .nil pass0 (pa_cons (pv 1) (pa_cons (pv 2) pa_nil)))))
    (pss_one (ps_raise rfl (takes_of rfl rfl rfl rfl) (pmk_fld EXInvalidTies (hr.mono (by decide)) (by rfl) (pa_cons (pv 2) pa_nil)))) pss_nil)
  (pss_cons (ps_fld (pv 0) (pv 1) rfl)
  (pss_cons (ps_fld (pv 0) (pe_callTy call_list_of (by rfl) B.list (by decide +kernel) (pa_cons (pv 2) pa_nil)) rfl)
  (pss_cons (ps_fld (pv 0) (pe_lc (own := [("_", 5)]) (g := gName 5) (by rfl) scWeb___init__.nd (pi_range1 (by rfl) B.range (pa_cons (pv 1) pa_nil)) (blkOk_by (own := [("_", 5)]) (N := ["self", "places", "ties", "tie", "ends", "_"]) (sc := defScope sWeb___init__) (by decide +kernel)) (fun _ _ _ _ _ => (pg_name (i := 5) scWeb___init__.nd rfl (by first | exact Or.inl rfl | exact Or.inr rfl))) (fun _ _ _ _ _ => pts_nil) (fun _ _ _ _ _ => (pe_lst pa_nil))) rfl)
  (pss_cons (ps_fld (pv 0) (pe_lc (own := [("_", 5)]) (g := gName 5) (by rfl) scWeb___init__.nd (pi_range1 (by rfl) B.range (pa_cons (pv 1) pa_nil)) (blkOk_by (own := [("_", 5)]) (N := ["self", "places", "ties", "tie", "ends", "_"]) (sc := defScope sWeb___init__) (by decide +kernel)) (fun _ _ _ _ _ => (pg_name (i := 5) scWeb___init__.nd rfl (by first | exact Or.inl rfl | exact Or.inr rfl))) (fun _ _ _ _ _ => pts_nil) (fun _ _ _ _ _ => (pe_lst pa_nil))) rfl)
  (pss_one (ps_for (passes_of rfl) rfl (pi_enum (by rfl) B.enumerate (pa_cons (pe_fld (pv 0) rfl) pa_nil)) (pg_tup rfl (pgs_cons (pg_name (i := 3) scWeb___init__.nd rfl (by first | exact Or.inl rfl | exact Or.inr rfl)) (pgs_cons (pg_name (i := 4) scWeb___init__.nd rfl (by first | exact Or.inl rfl | exact Or.inr rfl)) pgs_nil)))
    (pss_cons (ps_expr (pe_bm PySem.F.plainAttrs_list PySem.F.slot_list_append PySem.F.type_list_append mt_append (pe_ix ix_list (pe_fld (pv 0) rfl) (pe_ix ix_tup (pv 4) pe_int (fun _ _ => rfl)) (fun _ _ => rfl)) (pa_cons (pv 3) pa_nil)))
  (pss_one (ps_expr (pe_bm PySem.F.plainAttrs_list PySem.F.slot_list_append PySem.F.type_list_append mt_append (pe_ix ix_list (pe_fld (pv 0) rfl) (pe_ix ix_tup (pv 4) pe_int (fun _ _ => rfl)) (fun _ _ => rfl)) (pa_cons (pv 3) pa_nil))))))))))))), ?_⟩
  refine ⟨_, rfl, vP, numD dp, 1, 60, rfl, hpv.num, _, rfl, ?_⟩
  cases c1 : btwO 1 60 (numD dp) with
  | false => exact iteT ⟨_, rfl, (qP c1).go (fun _ _ z => z)⟩
  | true =>
  refine iteF ?_
  obtain ⟨N, rfl, n1, n60⟩ := btw_of c1
  cases hpv
  refine ⟨_, rfl, _, rfl, N, tv, dt, rfl, htv, fun H1 hS1 => ⟨_, rfl, ?_⟩⟩
  cases c2 : areT N dt with
  | false => exact iteT ⟨_, rfl, (qT N rfl n1 n60 c2).go hS1⟩
  | true =>
  refine iteF ?_
  obtain ⟨t, ts, rfl, ht, hlen, hok⟩ := ties_of htv c2
  have ho : OkWeb N ts := ⟨by omega, n60, hlen, hok⟩
  replace q := q N t ts rfl rfl ho ht
  have ha1 := hS1 _ _ ha
  obtain ⟨tas, ht1, hP1⟩ := ht.same hS1
  have nat : t ≠ a := ht1.elim (fun h => ne_of h ha1 (by intro q; cases q)) (fun h => ne_of h ha1 (by intro q; cases q))
  have nta : ∀ p e, TupAt H1 p e → p ≠ a := fun p e hp => ne_of hp ha1 (by intro q; cases q)
  refine ⟨_, rfl, _, rfl, a, C, dx, [], rfl, ha1, WK.cl, WK.nP, (by decide), ?_⟩
  refine ⟨_, rfl, t, _, rfl, (ht1.imp (fun h => SqL.of (by rw [upd_ne nat]; exact h)) (fun h => SqT.of (by rw [upd_ne nat]; exact h))), fun tl ntl => ?_⟩
  have natl : a ≠ tl := ne_of_none upd_same ntl
  have ntl1 : H1 tl = none := by rw [upd_ne natl.symm] at ntl; exact ntl
  refine ⟨_, rfl, a, C, dx, _, rfl, (by rw [upd_ne natl]; exact upd_same), WK.cl, WK.nT, Nat.lt_of_le_of_lt (putF_len _ _ _) (by decide), ?_⟩
  generalize e4 : upd (upd (upd H1 a (.ins C dx (putF "_places" (.int (N : Int)) []))) tl (.lst (tas.map V.ref))) a (.ins C dx (putF "_ties" (.ref tl) (putF "_places" (.int (N : Int)) []))) = H4
  have k4 : Kept a H1 H4 := fun b o e n => by rw [← e4, upd_ne n, upd_ne (ne_of_none e ntl1), upd_ne n]; exact e
  have ha4 : H4 a = some (.ins C dx (putF "_ties" (.ref tl) (putF "_places" (.int (N : Int)) []))) := by rw [← e4]; exact upd_same
  have htl4 : H4 tl = some (.lst (tas.map V.ref)) := by rw [← e4, upd_ne natl.symm]; exact upd_same
  have hN := ho.n1
  refine ⟨_, rfl, _, rfl, by omega, by omega, fun D1 nD1 => ?_⟩
  refine lc_range (lo := 0) (n := N) (fun i H' => Fresh H4 D1 i H') (Fresh.zero nD1) ?_ ?_
  · intro i H' hi hf
    exact ⟨rfl, Nat.zero_le _, fun p np => hf.step nD1 (by omega) np⟩
  rintro H5 ⟨fas, f1, f2, f3, f4, f5, f6⟩
  have ha5 := f4 _ _ ha4
  have fa : ∀ x ∈ fas, x ≠ a := fun x hx z => by
    have := (f3 x hx).1
    rw [z, ha4] at this
    cases this
  have naD1 : D1 ≠ a := fun z => by rw [z, ha4] at nD1; cases nD1
  refine ⟨_, rfl, a, C, dx, _, rfl, ha5, WK.cl, WK.nF, Nat.lt_of_le_of_lt (putF_len _ _ _) (Nat.lt_of_le_of_lt (Nat.succ_le_succ (putF_len _ _ _)) (by decide)), ?_⟩
  generalize e6 : upd H5 a (.ins C dx (putF "_ties_from" (.ref D1) (putF "_ties" (.ref tl) (putF "_places" (.int (N : Int)) [])))) = H6
  have k6 : Kept a H5 H6 := fun b o e n => by rw [← e6, upd_ne n]; exact e
  have ha6 : H6 a = some (.ins C dx (putF "_ties_from" (.ref D1) (putF "_ties" (.ref tl) (putF "_places" (.int (N : Int)) [])))) := by rw [← e6]; exact upd_same
  refine ⟨_, rfl, _, rfl, by omega, by omega, fun D2 nD2 => ?_⟩
  refine lc_range (lo := 0) (n := N) (fun i H' => Fresh H6 D2 i H') (Fresh.zero nD2) ?_ ?_
  · intro i H' hi hf
    exact ⟨rfl, Nat.zero_le _, fun p np => hf.step nD2 (by omega) np⟩
  rintro H7 ⟨os, g1, g2, g3, g4, g5, g6⟩
  have ha7 := g4 _ _ ha6
  refine ⟨_, rfl, a, C, dx, _, rfl, ha7, WK.cl, WK.nO, Nat.lt_of_le_of_lt (putF_len _ _ _) (Nat.lt_of_le_of_lt (Nat.succ_le_succ (putF_len _ _ _)) (Nat.lt_of_le_of_lt (Nat.succ_le_succ (Nat.succ_le_succ (putF_len _ _ _))) (by decide))), ?_⟩
  generalize e8 : upd H7 a (.ins C dx (putF "_ties_to" (.ref D2) (putF "_ties_from" (.ref D1) (putF "_ties" (.ref tl) (putF "_places" (.int (N : Int)) []))))) = H8
  have k8 : Kept a H7 H8 := fun b o e n => by rw [← e8, upd_ne n]; exact e
  have ha8 : H8 a = some (.ins C dx (wf N tl D1 D2)) := by rw [← e8]; exact upd_same
  have oa : ∀ x ∈ os, x ≠ a := fun x hx z => by
    have := (g3 x hx).1
    rw [z, ha6] at this
    cases this
  have naD2 : D2 ≠ a := fun z => by rw [z, ha6] at nD2; cases nD2
  have fo : ∀ x ∈ fas, x ∉ os := fun x hx z => by
    have h := (g3 x z).1
    rw [k6 _ _ (f6 x hx) (fa x hx)] at h
    cases h
  -- what stands before the lists is none of them
  have old : ∀ b o, H4 b = some o → b ≠ a → H8 b = some o ∧ b ∉ fas ∧ b ∉ os := fun b o e n => by
    have h5 := f4 _ _ e
    have h6 := k6 _ _ h5 n
    refine ⟨k8 _ _ (g4 _ _ h6) n, fun z => ?_, fun z => ?_⟩
    · rw [(f3 b z).1] at e; cases e
    · rw [(g3 b z).1] at h6; cases h6
  have ntla : tl ≠ a := natl.symm
  have oldA : a ∉ fas ∧ a ∉ os := ⟨fun z => fa a z rfl, fun z => oa a z rfl⟩
  have oldT := old _ _ htl4 ntla
  have oldE : ∀ p e, TupAt H1 p e → TupAt H8 p e ∧ p ∉ fas ∧ p ∉ os := fun p e hp => old _ _ (k4 _ _ hp (nta p e hp)) (nta p e hp)
  have f58 : H8 D1 = some (.lst (fas.map V.ref)) := k8 _ _ (g4 _ _ (k6 _ _ f5 naD1)) naD1
  have D1f : D1 ∉ fas := fun z => (f3 D1 z).2 rfl
  have D1o : D1 ∉ os := fun z => by
    have h := (g3 D1 z).1
    rw [k6 _ _ f5 naD1] at h
    cases h
  have g58 : H8 D2 = some (.lst (os.map V.ref)) := k8 _ _ g5 naD2
  have D2o : D2 ∉ os := fun z => (g3 D2 z).2 rfl
  have D2f : D2 ∉ fas := fun z => by
    have h := k6 _ _ (f6 D2 z) (fa D2 z)
    rw [nD2] at h
    cases h
  have fe8 : ∀ x ∈ fas, H8 x = some (.lst []) := fun x hx => k8 _ _ (g4 _ _ (k6 _ _ (f6 x hx) (fa x hx))) (fa x hx)
  have oe8 : ∀ x ∈ os, H8 x = some (.lst []) := fun x hx => k8 _ _ (g6 x hx) (oa x hx)
  have nin : ∀ {b : Addr}, b ∉ fas → b ∉ os → b ∉ fas ++ os := fun h1 h2 z => (List.mem_append.mp z).elim h1 h2
  refine ⟨_, rfl, a, C, dx, _, _, rfl, ha8, WK.cl, WK.nT, wf_T _ _ _ _, tl, _, rfl, SqL.of oldT.1, ?_⟩
  refine for_it (walk_enum (K := K) (a := tl) (xs := tas.map V.ref)) (fun i σ H' => ∃ v3 v4 v5 : Option V, σ = [some (.ref a), some (.int (N : Int)), some (.ref t), v3, v4, v5] ∧ KeptR (fas ++ os) H8 H' ∧ (∀ (j : Nat) (x : Addr), fas[j]? = some x → H' x = some (.lst (iv (frmN ts j i)))) ∧ (∀ (j : Nat) (x : Addr), os[j]? = some x → H' x = some (.lst (iv (frmN (ts.map Prod.swap) j i))))) ?_ ?_ ?_ ?_
  · exact ⟨_, _, _, rfl, .refl _ _, fun j x e => fe8 x (List.mem_of_getElem? e), fun j x e => oe8 x (List.mem_of_getElem? e)⟩
  · rintro i σ H' hi ⟨v3, v4, v5, rfl, hk, _, _⟩
    exact SqL.of (hk _ _ oldT.1 (nin oldT.2.1 oldT.2.2))
  · rintro i x σ H9 H10 hi ⟨v3, v4, v5, rfl, hk, hf, hos⟩ ⟨T0, x1, x2, rfl, nT0, rfl, e1, e2⟩
    cases e1
    rw [List.length_map] at hi
    replace e2 : (tas.map V.ref)[i]? = some x2 := e2
    rw [List.getElem?_map, List.getElem?_eq_getElem hi] at e2
    cases e2
    obtain ⟨⟨u, v⟩, he, hpe⟩ := paired_get hP1 (List.getElem?_eq_getElem hi)
    obtain ⟨hu, hv⟩ := ho.ok _ (List.mem_of_getElem? he)
    have hp8 := oldE _ _ hpe
    have hp9 : H9 tas[i] = some (.tup [.int (u : Int), .int (v : Int)]) := hk _ _ hp8.1 (nin hp8.2.1 hp8.2.2)
    have hkN : KeptR (fas ++ os) H8 (upd H9 T0 (.tup [.int (i : Int), .ref tas[i]])) := hk.new nT0
    generalize e10 : upd H9 T0 (.tup [.int (i : Int), .ref tas[i]]) = H10
    rw [e10] at hkN
    have hT10 : H10 T0 = some (.tup [.int (i : Int), .ref tas[i]]) := by rw [← e10]; exact upd_same
    have hS10 : Same H9 H10 := by rw [← e10]; exact same_new nT0 _
    have hp10 := hS10 _ _ hp9
    have ha10 := hkN _ _ ha8 (nin oldA.1 oldA.2)
    have hfl10 := hkN _ _ f58 (nin D1f D1o)
    obtain ⟨xu, eu⟩ : ∃ x, fas[u]? = some x := ⟨fas[u]'(by omega), List.getElem?_eq_getElem _⟩
    obtain ⟨xv, ev⟩ : ∃ x, os[v]? = some x := ⟨os[v]'(by omega), List.getElem?_eq_getElem _⟩
    have mu := List.mem_of_getElem? eu
    have mv := List.mem_of_getElem? ev
    have hxu := hS10 _ _ (hf u xu eu)
    have hxv := hos v xv ev
    have nxu : ∀ {b : Addr}, b ∉ fas → b ≠ xu := fun h z => h (by rw [z]; exact mu)
    have nxv : ∀ {b : Addr}, b ∉ os → b ≠ xv := fun h z => h (by rw [z]; exact mv)
    have htl := ho.m
    have htsl : i < ts.length := by rw [← paired_len hP1]; exact hi
    refine ⟨T0, _, rfl, SqT.of hT10, rfl, _, _, rfl, _, _, rfl, rfl, ?_⟩
    refine ⟨_, rfl, a, C, dx, _, _, rfl, ha10, WK.cl, WK.nF, wf_F _ _ _ _, _, rfl, _, _, _, .int (u : Int), rfl, rfl, SqT.of hp10, rfl, _, _, _, .ref xu, rfl, rfl, SqL.of hfl10, atI_nat (by rw [List.getElem?_map, eu]; rfl), .inl ⟨rfl, _, SqL.of hxu⟩, _, rfl, xu, _, _, rfl, rfl, hxu, ?_, ?_⟩
    · rw [List.length_map]
      exact Nat.lt_of_le_of_lt (frmN_len ts u i) (Nat.lt_trans (by omega : i < 1000) (by decide))
    generalize e11 : upd H10 xu (.lst (iv (frmN ts u i) ++ [.int (i : Int)])) = H11
    have hk11 : KeptR (fas ++ os) H8 H11 := by rw [← e11]; exact hkN.put (List.mem_append_left _ mu)
    have ha11 := hk11 _ _ ha8 (nin oldA.1 oldA.2)
    have hol11 := hk11 _ _ g58 (nin D2f D2o)
    have hp11 : H11 tas[i] = some (.tup [.int (u : Int), .int (v : Int)]) := hk11 _ _ hp8.1 (nin hp8.2.1 hp8.2.2)
    have hxv11 : H11 xv = some (.lst (iv (frmN (ts.map Prod.swap) v i))) := by
      rw [← e11, upd_ne (fun z => fo xu mu (by rw [← z]; exact mv))]
      exact hS10 _ _ hxv
    refine ⟨_, rfl, a, C, dx, _, _, rfl, ha11, WK.cl, WK.nO, wf_O _ _ _ _, _, rfl, _, _, _, .int (v : Int), rfl, rfl, SqT.of hp11, rfl, _, _, _, .ref xv, rfl, rfl, SqL.of hol11, atI_nat (by rw [List.getElem?_map, ev]; rfl), .inl ⟨rfl, _, SqL.of hxv11⟩, _, rfl, xv, _, _, rfl, rfl, hxv11, by rw [List.length_map]; exact Nat.lt_of_le_of_lt (frmN_len _ v i) (Nat.lt_trans (by omega : i < 1000) (by decide)), ?_⟩
    refine ⟨_, _, _, rfl, hk11.put (List.mem_append_right _ mv), fun j x e => ?_, fun j x e => ?_⟩
    · have nx : x ≠ xv := fun z => fo x (List.mem_of_getElem? e) (by rw [z]; exact mv)
      rw [upd_ne nx]
      have eti : ts[i]?.map Prod.fst = some u := by rw [he]; rfl
      by_cases c : x = xu
      · have ej : j = u := nodup_get f2 e (by rw [c]; exact eu)
        subst ej
        rw [c, ← e11, upd_same, show frmN ts j (i + 1) = frmN ts j i ++ [i] from if_pos eti, iv_app]
      · have ej : ¬ (ts[i]?.map Prod.fst) = some j := fun z => by
          rw [eti] at z
          cases z
          rw [eu] at e
          exact c (Option.some.inj e).symm
        rw [← e11, upd_ne c, show frmN ts j (i + 1) = frmN ts j i from if_neg ej]
        exact hS10 _ _ (hf j x e)
    · have etv : (ts.map Prod.swap)[i]?.map Prod.fst = some v := by rw [List.getElem?_map, he]; rfl
      by_cases c : x = xv
      · have ej : j = v := nodup_get g2 e (by rw [c]; exact ev)
        subst ej
        rw [c, upd_same, show frmN (ts.map Prod.swap) j (i + 1) = frmN (ts.map Prod.swap) j i ++ [i] from if_pos etv, iv_app]
      · have ej : ¬ ((ts.map Prod.swap)[i]?.map Prod.fst) = some j := fun z => by
          rw [etv] at z
          cases z
          rw [ev] at e
          exact c (Option.some.inj e).symm
        rw [upd_ne c, ← e11, upd_ne (fun z => fo xu mu (by rw [← z]; exact List.mem_of_getElem? e)), show frmN (ts.map Prod.swap) j (i + 1) = frmN (ts.map Prod.swap) j i from if_neg ej]
        exact hS10 _ _ (hos j x e)
  · rintro σ H9 ⟨v3, v4, v5, rfl, hk, hf, hos⟩
    have hlen : (tas.map V.ref).length = ts.length := by rw [List.length_map]; exact paired_len hP1
    rw [hlen] at hf hos
    have to9 : ∀ b o, H4 b = some o → b ≠ a → H9 b = some o := fun b o e n => by
      have h := old b o e n
      exact hk _ _ h.1 (nin h.2.1 h.2.2)
    have g0 : ∀ b, b ≠ a → H4 b = none → H b = none := fun b n e => by
      cases e2 : H b with
      | none => rfl
      | some o =>
        rw [k4 _ _ (hS1 _ _ e2) n] at e
        cases e
    have g06 : ∀ b, b ≠ a → H6 b = none → H b = none := fun b n e => by
      cases e2 : H b with
      | none => rfl
      | some o =>
        rw [k6 _ _ (f4 _ _ (k4 _ _ (hS1 _ _ e2) n)) n] at e
        cases e
    refine q H9 (fun b o e n => to9 b o (k4 _ _ (hS1 _ _ e) n) n) ⟨dx, tl, D1, D2, Sub.of (hk _ _ ha8 (nin oldA.1 oldA.2)) (.inr (.inl rfl)), ⟨tas, Sub.of (to9 _ _ htl4 ntla) (.inl (hS1.free ntl1)), ?_⟩, ⟨fas, Sub.of (hk _ _ f58 (nin D1f D1o)) (.inl (g0 _ naD1 nD1)), f1, fun j x e => Sub.of (hf j x e) (.inl ?_)⟩, ⟨os, Sub.of (hk _ _ g58 (nin D2f D2o)) (.inl (g06 _ naD2 nD2)), g1, fun j x e => Sub.of (by show H9 x = some (.lst (iv (frmN (ts.map Prod.swap) j (ts.map Prod.swap).length))); rw [List.length_map]; exact hos j x e) (.inl ?_)⟩⟩
    · refine paired_mono (fun p e hp => ?_) hP1
      have hp9 := to9 _ _ (k4 _ _ hp (nta p e hp)) (nta p e hp)
      exact Sub.of hp9 (.inr (.inr ⟨_, hp9⟩))
    · have hm := List.mem_of_getElem? e
      exact g0 x (fa x hm) (f3 x hm).1
    · have hm := List.mem_of_getElem? e
      exact g06 x (oa x hm) (g3 x hm).1
def spWeb_places (_ : PySem.W.Frag) (C : Addr) (XA : Str → Addr) : Sp := fun vs H Q _ => ∃ a N ts, vs = [.ref a] ∧ WebAt C a N ts H ∧ Q (.int (N : Int)) H
theorem okWeb_places (D : DefP K C "places" "Web.places" sWeb_places ["self"]) (B : Bs mg) (Glb : Glo mg) (WK : WebK K mg C) (EXInvalidWeb : ExcF P w K mg base "value" "InvalidWeb" (XA "InvalidWeb")) (EXInvalidPlaces : ExcF P w K mg base "value" "InvalidPlaces" (XA "InvalidPlaces")) (EXInvalidTies : ExcF P w K mg base "value" "InvalidTies" (XA "InvalidTies")) (EXInvalidPlace : ExcF P w K mg base "value" "InvalidPlace" (XA "InvalidPlace")) (EXInvalidWalk : ExcF P w K mg base "value" "InvalidWalk" (XA "InvalidWalk")) (EXInvalidRound : ExcF P w K mg base "value" "InvalidRound" (XA "InvalidRound")) (EXInvalidWithout : ExcF P w K mg base "value" "InvalidWithout" (XA "InvalidWithout")) (EXInvalidPart : ExcF P w K mg base "value" "InvalidPart" (XA "InvalidPart")) (PErr : mg "PieceError" = some (.ref CPE)) (EXM : ExM K XA CPE) :
    GoodP P w K mg base C "places" "Web.places" sWeb_places ["self"] 1 (spWeb_places K C XA) := by
  refine D.good fun f fd F => ?_
  refine F.ok scWeb_places (fun vs H Q E h => ?_) (fun cdv A outer s H vs Q E hr h => ?_)
  · obtain ⟨a, N, ts, rfl, ⟨dx, tl, fl, ol, h1, h2, h3⟩, q⟩ := h
    first | rfl | (rcases h with ⟨_, _, rfl, _⟩ | ⟨_, rfl, _⟩ <;> rfl)
  obtain ⟨a, N, ts, rfl, ⟨dx, tl, fl, ol, h1, h2, h3⟩, q⟩ := h
  refine ⟨_, (pss_one (ps_ret (pe_fld (pv 0) rfl))), ?_⟩
  exact ⟨_, rfl, a, C, dx, _, _, rfl, h1, WK.cl, WK.nP, wf_P _ _ _ _, q⟩
def spWeb_many (_ : PySem.W.Frag) (C : Addr) (XA : Str → Addr) : Sp := fun vs H Q _ => ∃ a N ts, vs = [.ref a] ∧ WebAt C a N ts H ∧ Q (.int (ts.length : Int)) H
theorem okWeb_many (D : DefP K C "many" "Web.many" sWeb_many ["self"]) (B : Bs mg) (Glb : Glo mg) (WK : WebK K mg C) (EXInvalidWeb : ExcF P w K mg base "value" "InvalidWeb" (XA "InvalidWeb")) (EXInvalidPlaces : ExcF P w K mg base "value" "InvalidPlaces" (XA "InvalidPlaces")) (EXInvalidTies : ExcF P w K mg base "value" "InvalidTies" (XA "InvalidTies")) (EXInvalidPlace : ExcF P w K mg base "value" "InvalidPlace" (XA "InvalidPlace")) (EXInvalidWalk : ExcF P w K mg base "value" "InvalidWalk" (XA "InvalidWalk")) (EXInvalidRound : ExcF P w K mg base "value" "InvalidRound" (XA "InvalidRound")) (EXInvalidWithout : ExcF P w K mg base "value" "InvalidWithout" (XA "InvalidWithout")) (EXInvalidPart : ExcF P w K mg base "value" "InvalidPart" (XA "InvalidPart")) (PErr : mg "PieceError" = some (.ref CPE)) (EXM : ExM K XA CPE) :
    GoodP P w K mg base C "many" "Web.many" sWeb_many ["self"] 1 (spWeb_many K C XA) := by
  refine D.good fun f fd F => ?_
  refine F.ok scWeb_many (fun vs H Q E h => ?_) (fun cdv A outer s H vs Q E hr h => ?_)
  · obtain ⟨a, N, ts, rfl, ⟨dx, tl, fl, ol, h1, ⟨tas, ht, hP⟩, h3⟩, q⟩ := h
    first | rfl | (rcases h with ⟨_, _, rfl, _⟩ | ⟨_, rfl, _⟩ <;> rfl)
  obtain ⟨a, N, ts, rfl, ⟨dx, tl, fl, ol, h1, ⟨tas, ht, hP⟩, h3⟩, q⟩ := h
  refine ⟨_, (pss_one (ps_ret (pe_callB call_len_seq (by rfl) B.len (by decide +kernel) (pa_cons (pe_fld (pv 0) rfl) pa_nil)))), ?_⟩
  refine ⟨_, rfl, a, C, dx, _, _, rfl, h1, WK.cl, WK.nT, wf_T _ _ _ _, _, _, rfl, .inl (SqL.of ht), ?_⟩
  rw [List.length_map, paired_len hP]
  exact q
def spWeb_ties (_ : PySem.W.Frag) (C : Addr) (XA : Str → Addr) : Sp := fun vs H Q _ => ∃ a N ts, vs = [.ref a] ∧ WebAt C a N ts H ∧ ∀ H' l, H l = none → Same H H' → TiesAt H' l ts → Q (.ref l) H'
theorem okWeb_ties (D : DefM K C "ties" "Web.ties" sWeb_ties ["self"]) (B : Bs mg) (Glb : Glo mg) (WK : WebK K mg C) (EXInvalidWeb : ExcF P w K mg base "value" "InvalidWeb" (XA "InvalidWeb")) (EXInvalidPlaces : ExcF P w K mg base "value" "InvalidPlaces" (XA "InvalidPlaces")) (EXInvalidTies : ExcF P w K mg base "value" "InvalidTies" (XA "InvalidTies")) (EXInvalidPlace : ExcF P w K mg base "value" "InvalidPlace" (XA "InvalidPlace")) (EXInvalidWalk : ExcF P w K mg base "value" "InvalidWalk" (XA "InvalidWalk")) (EXInvalidRound : ExcF P w K mg base "value" "InvalidRound" (XA "InvalidRound")) (EXInvalidWithout : ExcF P w K mg base "value" "InvalidWithout" (XA "InvalidWithout")) (EXInvalidPart : ExcF P w K mg base "value" "InvalidPart" (XA "InvalidPart")) (PErr : mg "PieceError" = some (.ref CPE)) (EXM : ExM K XA CPE) :
    GoodM P w K mg base C "ties" "Web.ties" sWeb_ties ["self"] 1 (spWeb_ties K C XA) := by
  refine D.good fun f fd F => ?_
  refine F.ok scWeb_ties (fun vs H Q E h => ?_) (fun cdv A outer s H vs Q E hr h => ?_)
  · obtain ⟨a, N, ts, rfl, ⟨dx, tl, fl, ol, h1, ⟨tas, ht, hP⟩, h3⟩, q⟩ := h
    first | rfl | (rcases h with ⟨_, _, rfl, _⟩ | ⟨_, rfl, _⟩ <;> rfl)
  obtain ⟨a, N, ts, rfl, ⟨dx, tl, fl, ol, h1, ⟨tas, ht, hP⟩, h3⟩, q⟩ := h
  refine ⟨_, (pss_one (ps_ret (pe_callTy call_list_of (by rfl) B.list (by decide +kernel) (pa_cons (pe_fld (pv 0) rfl) pa_nil)))), ?_⟩
  exact ⟨_, rfl, a, C, dx, _, _, rfl, h1, WK.cl, WK.nT, wf_T _ _ _ _, _, _, rfl, .inl (SqL.of ht), fun l nl => q _ l nl (same_new nl _) ⟨tas, upd_same, paired_mono (fun p e hp => same_new nl _ _ _ hp) hP⟩⟩
def spneed_web (_ : PySem.W.Frag) (C : Addr) (XA : Str → Addr) : Sp := fun vs H Q E => ∃ v, vs = [v] ∧ ((∃ a N ts, v = .ref a ∧ WebAt C a N ts H ∧ Q .non H) ∨ ∃ d, Vd H v d ∧ Rz E (XA "InvalidWeb") v H)
theorem okneed_web (D : Def K mg "need_web" sneed_web ["web"]) (B : Bs mg) (Glb : Glo mg) (WK : WebK K mg C) (EXInvalidWeb : ExcF P w K mg base "value" "InvalidWeb" (XA "InvalidWeb")) (EXInvalidPlaces : ExcF P w K mg base "value" "InvalidPlaces" (XA "InvalidPlaces")) (EXInvalidTies : ExcF P w K mg base "value" "InvalidTies" (XA "InvalidTies")) (EXInvalidPlace : ExcF P w K mg base "value" "InvalidPlace" (XA "InvalidPlace")) (EXInvalidWalk : ExcF P w K mg base "value" "InvalidWalk" (XA "InvalidWalk")) (EXInvalidRound : ExcF P w K mg base "value" "InvalidRound" (XA "InvalidRound")) (EXInvalidWithout : ExcF P w K mg base "value" "InvalidWithout" (XA "InvalidWithout")) (EXInvalidPart : ExcF P w K mg base "value" "InvalidPart" (XA "InvalidPart")) (PErr : mg "PieceError" = some (.ref CPE)) (EXM : ExM K XA CPE) :
    GoodX P w K mg base "need_web" sneed_web ["web"] 3 (spneed_web K C XA) := by
  refine D.goodX fun f fd F => ?_
  refine F.okX scneed_web (fun vs H Q E h => ?_) (fun cdv A outer s H vs Q E hr h => ?_)
  · obtain ⟨v, rfl, h⟩ := h
    first | rfl | (rcases h with ⟨_, _, rfl, _⟩ | ⟨_, rfl, _⟩ <;> rfl)
  obtain ⟨v, rfl, h⟩ := h
  refine ⟨_, (pss_one (ps_if (pt_not (pt_val (pe_callB call_isi (by rfl) B.isinstance (by decide +kernel) (pa_cons (pv 0) (pa_cons (pe_glob (v := .ref C) (by rfl) WK.mgC rfl) pa_nil)))))
    (pss_one (ps_raise rfl (takes_of rfl rfl rfl rfl) (pmk_fld EXInvalidWeb (hr.mono (by decide)) (by rfl) (pa_cons (pv 0) pa_nil)))) pss_nil)), ?_⟩
  rcases h with ⟨a, N, ts, rfl, hw, q⟩ | ⟨d, hd, q⟩
  · obtain ⟨dx, tl, fl, ol, h1, h2, h3, h4⟩ := id hw
    exact ⟨_, rfl, _, _, _, _, true, rfl, .own C, .base (.ins h1 WK.cl WK.i1 WK.i2 WK.i3 WK.i4), WK.i5, _, rfl, iteF q⟩
  · exact ⟨_, rfl, _, _, _, _, false, rfl, .own C, hd.ty, WK.no _ (tyD_in d), _, rfl, iteT ⟨_, rfl, q.go (fun _ _ z => z)⟩⟩
def spneed_place (_ : PySem.W.Frag) (C : Addr) (XA : Str → Addr) : Sp := fun vs H Q E => ∃ a N ts v o, vs = [.ref a, v] ∧ WebAt C a N ts H ∧ Num H v o ∧ (inR N o = true → Q .non H) ∧ (inR N o = false → Rz E (XA "InvalidPlace") v H)
theorem okneed_place (D : Def K mg "need_place" sneed_place ["web", "place"]) (B : Bs mg) (Glb : Glo mg) (WK : WebK K mg C) (EXInvalidWeb : ExcF P w K mg base "value" "InvalidWeb" (XA "InvalidWeb")) (EXInvalidPlaces : ExcF P w K mg base "value" "InvalidPlaces" (XA "InvalidPlaces")) (EXInvalidTies : ExcF P w K mg base "value" "InvalidTies" (XA "InvalidTies")) (EXInvalidPlace : ExcF P w K mg base "value" "InvalidPlace" (XA "InvalidPlace")) (EXInvalidWalk : ExcF P w K mg base "value" "InvalidWalk" (XA "InvalidWalk")) (EXInvalidRound : ExcF P w K mg base "value" "InvalidRound" (XA "InvalidRound")) (EXInvalidWithout : ExcF P w K mg base "value" "InvalidWithout" (XA "InvalidWithout")) (EXInvalidPart : ExcF P w K mg base "value" "InvalidPart" (XA "InvalidPart")) (PErr : mg "PieceError" = some (.ref CPE)) (EXM : ExM K XA CPE)
    (his_below : Good P w K mg base "is_below" sis_below ["value", "limit"] 3 (spis_below K C XA))
    (hWeb_places : GoodP P w K mg base C "places" "Web.places" sWeb_places ["self"] 1 (spWeb_places K C XA)) :
    GoodX P w K mg base "need_place" sneed_place ["web", "place"] 4 (spneed_place K C XA) := by
  refine D.goodX fun f fd F => ?_
  obtain ⟨fis_below, dis_below, Ois_below, mis_below, kis_below, bis_below, Fis_below⟩ := his_below
  obtain ⟨qWeb_places, fWeb_places, dWeb_places, OWeb_places, pWeb_places, bWeb_places⟩ := hWeb_places
  refine F.okX scneed_place (fun vs H Q E h => ?_) (fun cdv A outer s H vs Q E hr h => ?_)
  · obtain ⟨a, N, ts, v, o, rfl, hw, hv, q, qE⟩ := h
    first | rfl | (rcases h with ⟨_, _, rfl, _⟩ | ⟨_, rfl, _⟩ <;> rfl)
  obtain ⟨a, N, ts, v, o, rfl, hw, hv, q, qE⟩ := h
  refine ⟨_, (pss_one (ps_if (pt_not (pt_val (pe_call Ois_below hr rfl mis_below kis_below bis_below .nil pass0 (pa_cons (pv 1) (pa_cons (pe_prop (pv 0) WK.cl pWeb_places OWeb_places (hr.mono (by decide)) bWeb_places .nil pass0 (by rfl)) pa_nil)))))
    (pss_one (ps_raise rfl (takes_of rfl rfl rfl rfl) (pmk_fld EXInvalidPlace (hr.mono (by decide)) (by rfl) (pa_cons (pv 1) pa_nil)))) pss_nil)), ?_⟩
  obtain ⟨dx, tl, fl, ol, h1, _⟩ := id hw
  refine ⟨_, rfl, _, rfl, a, dx, _, rfl, h1, a, N, ts, rfl, hw, v, o, N, rfl, hv, _, rfl, ?_⟩
  cases c : inR N o with
  | true => exact iteF (q c)
  | false => exact iteT ⟨_, rfl, (qE c).go (fun _ _ z => z)⟩
def spWeb_ties_from (_ : PySem.W.Frag) (C : Addr) (XA : Str → Addr) : Sp := fun vs H Q E => ∃ a N ts v o, vs = [.ref a, v] ∧ WebAt C a N ts H ∧ Num H v o ∧ inR N o = false ∧ Rz E (XA "InvalidPlace") v H
theorem okWeb_ties_from (D : DefM K C "ties_from" "Web.ties_from" sWeb_ties_from ["self", "place"]) (B : Bs mg) (Glb : Glo mg) (WK : WebK K mg C) (EXInvalidWeb : ExcF P w K mg base "value" "InvalidWeb" (XA "InvalidWeb")) (EXInvalidPlaces : ExcF P w K mg base "value" "InvalidPlaces" (XA "InvalidPlaces")) (EXInvalidTies : ExcF P w K mg base "value" "InvalidTies" (XA "InvalidTies")) (EXInvalidPlace : ExcF P w K mg base "value" "InvalidPlace" (XA "InvalidPlace")) (EXInvalidWalk : ExcF P w K mg base "value" "InvalidWalk" (XA "InvalidWalk")) (EXInvalidRound : ExcF P w K mg base "value" "InvalidRound" (XA "InvalidRound")) (EXInvalidWithout : ExcF P w K mg base "value" "InvalidWithout" (XA "InvalidWithout")) (EXInvalidPart : ExcF P w K mg base "value" "InvalidPart" (XA "InvalidPart")) (PErr : mg "PieceError" = some (.ref CPE)) (EXM : ExM K XA CPE)
    (hneed_place : GoodX P w K mg base "need_place" sneed_place ["web", "place"] 4 (spneed_place K C XA)) :
    GoodMX P w K mg base C "ties_from" "Web.ties_from" sWeb_ties_from ["self", "place"] 5 (spWeb_ties_from K C XA) := by
  refine D.goodMX fun f fd F => ?_
  obtain ⟨fneed_place, dneed_place, Oneed_place, mneed_place, kneed_place, bneed_place, Fneed_place⟩ := hneed_place
  refine F.okX scWeb_ties_from (fun vs H Q E h => ?_) (fun cdv A outer s H vs Q E hr h => ?_)
  · obtain ⟨a, N, ts, v, o, rfl, hw, hv, c, q⟩ := h
    first | rfl | (rcases h with ⟨_, _, rfl, _⟩ | ⟨_, rfl, _⟩ <;> rfl)
  obtain ⟨a, N, ts, v, o, rfl, hw, hv, c, q⟩ := h
  refine ⟨_, (pss_cons (ps_expr (pe_callS Oneed_place hr rfl mneed_place kneed_place bneed_place (fun σ => passAt (takes_of rfl rfl rfl rfl) σ) (pa_cons (pv 0) (pa_cons (pv 1) pa_nil))))
  (pss_one (ps_ret (pe_callTy call_list_of (by rfl) B.list (by decide +kernel) (pa_cons (pe_ix ix_list (pe_fld (pv 0) rfl) (pv 1) (fun _ _ => rfl)) pa_nil))))), ?_⟩
  exact ⟨_, rfl, _, rfl, a, N, ts, v, o, rfl, hw, hv, (fun z => by rw [c] at z; cases z), fun _ => q⟩
def spWeb_ties_to (_ : PySem.W.Frag) (C : Addr) (XA : Str → Addr) : Sp := fun vs H Q E => ∃ a N ts v o, vs = [.ref a, v] ∧ WebAt C a N ts H ∧ Num H v o ∧ inR N o = false ∧ Rz E (XA "InvalidPlace") v H
theorem okWeb_ties_to (D : DefM K C "ties_to" "Web.ties_to" sWeb_ties_to ["self", "place"]) (B : Bs mg) (Glb : Glo mg) (WK : WebK K mg C) (EXInvalidWeb : ExcF P w K mg base "value" "InvalidWeb" (XA "InvalidWeb")) (EXInvalidPlaces : ExcF P w K mg base "value" "InvalidPlaces" (XA "InvalidPlaces")) (EXInvalidTies : ExcF P w K mg base "value" "InvalidTies" (XA "InvalidTies")) (EXInvalidPlace : ExcF P w K mg base "value" "InvalidPlace" (XA "InvalidPlace")) (EXInvalidWalk : ExcF P w K mg base "value" "InvalidWalk" (XA "InvalidWalk")) (EXInvalidRound : ExcF P w K mg base "value" "InvalidRound" (XA "InvalidRound")) (EXInvalidWithout : ExcF P w K mg base "value" "InvalidWithout" (XA "InvalidWithout")) (EXInvalidPart : ExcF P w K mg base "value" "InvalidPart" (XA "InvalidPart")) (PErr : mg "PieceError" = some (.ref CPE)) (EXM : ExM K XA CPE)
    (hneed_place : GoodX P w K mg base "need_place" sneed_place ["web", "place"] 4 (spneed_place K C XA)) :
    GoodMX P w K mg base C "ties_to" "Web.ties_to" sWeb_ties_to ["self", "place"] 5 (spWeb_ties_to K C XA) := by
  refine D.goodMX fun f fd F => ?_
  obtain ⟨fneed_place, dneed_place, Oneed_place, mneed_place, kneed_place, bneed_place, Fneed_place⟩ := hneed_place
  refine F.okX scWeb_ties_to (fun vs H Q E h => ?_) (fun cdv A outer s H vs Q E hr h => ?_)
  · obtain ⟨a, N, ts, v, o, rfl, hw, hv, c, q⟩ := h
    first | rfl | (rcases h with ⟨_, _, rfl, _⟩ | ⟨_, rfl, _⟩ <;> rfl)
  obtain ⟨a, N, ts, v, o, rfl, hw, hv, c, q⟩ := h
  refine ⟨_, (pss_cons (ps_expr (pe_callS Oneed_place hr rfl mneed_place kneed_place bneed_place (fun σ => passAt (takes_of rfl rfl rfl rfl) σ) (pa_cons (pv 0) (pa_cons (pv 1) pa_nil))))
  (pss_one (ps_ret (pe_callTy call_list_of (by rfl) B.list (by decide +kernel) (pa_cons (pe_ix ix_list (pe_fld (pv 0) rfl) (pv 1) (fun _ _ => rfl)) pa_nil))))), ?_⟩
  exact ⟨_, rfl, _, rfl, a, N, ts, v, o, rfl, hw, hv, (fun z => by rw [c] at z; cases z), fun _ => q⟩
/-- a list or a tuple of ints -/
def SeqAt (H : Hp) (s : Addr) (W : List Nat) : Prop := H s = some (.lst (iv W)) ∨ H s = some (.tup (iv W))
theorem SeqAt.same {H H' : Hp} {s : Addr} {W : List Nat} (h : SeqAt H s W) (hs : Same H H') : SeqAt H' s W := h.imp (hs _ _) (hs _ _)
theorem SeqAt.seq {K : PySem.W.Frag} {H : Hp} {s : Addr} {W : List Nat} (h : SeqAt H s W) : SqL K H s (iv W) ∨ SqT K H s (iv W) := h.imp SqL.of SqT.of
abbrev nz (W : List Nat) : List (Option Int) := W.map fun n : Nat => some (n : Int)
theorem iv_num {H : Hp} : ∀ W : List Nat, Paired (Num H) (iv W) (nz W)
  | [] => .nil
  | n :: r => .cons (.int _) (iv_num r)
theorem SeqAt.val {H : Hp} {s : Addr} {W : List Nat} (h : SeqAt H s W) : Val H (.ref s) (some (nz W)) := by
  rcases h with h | h
  · exact .lst h (iv_num W)
  · exact .tup h (iv_num W)
/-- numbers of so many ties -/
def NumS (n : Nat) (o : Option (List (Option Int))) : Bool := match o with
  | none => false
  | some os => os.all (inR n)
theorem num_get {H : Hp} {xs : List V} {os : List (Option Int)} (h : Paired (Num H) xs os) {i : Nat} {x : V} (hx : xs[i]? = some x) : ∃ o, os[i]? = some o ∧ Num H x o := paired_get h hx
theorem all_take {os : List (Option Int)} {n i : Nat} {o : Option Int} (h : os[i]? = some o) : (os.take (i + 1)).all (inR n) = ((os.take i).all (inR n) && inR n o) := by
  rw [List.take_add_one, h, List.all_append]
  show (_ && (inR n o && true)) = _
  rw [Bool.and_true]
theorem all_no {os : List (Option Int)} {n i : Nat} {o : Option Int} (h : os[i]? = some o) (k : inR n o = false) : os.all (inR n) = false := by
  rw [List.all_eq_false]
  exact ⟨o, List.mem_of_getElem? h, by rw [k]; exact Bool.false_ne_true⟩
def spare_numbers (_ : PySem.W.Frag) (C : Addr) (XA : Str → Addr) : Sp := fun vs H Q _ => ∃ a N ts v o, vs = [.ref a, v] ∧ WebAt C a N ts H ∧ Val H v o ∧ ∀ H', Same H H' → Q (.bl (NumS ts.length o)) H'
theorem okare_numbers (D : Def K mg "are_numbers" sare_numbers ["web", "value"]) (B : Bs mg) (Glb : Glo mg) (WK : WebK K mg C) (EXInvalidWeb : ExcF P w K mg base "value" "InvalidWeb" (XA "InvalidWeb")) (EXInvalidPlaces : ExcF P w K mg base "value" "InvalidPlaces" (XA "InvalidPlaces")) (EXInvalidTies : ExcF P w K mg base "value" "InvalidTies" (XA "InvalidTies")) (EXInvalidPlace : ExcF P w K mg base "value" "InvalidPlace" (XA "InvalidPlace")) (EXInvalidWalk : ExcF P w K mg base "value" "InvalidWalk" (XA "InvalidWalk")) (EXInvalidRound : ExcF P w K mg base "value" "InvalidRound" (XA "InvalidRound")) (EXInvalidWithout : ExcF P w K mg base "value" "InvalidWithout" (XA "InvalidWithout")) (EXInvalidPart : ExcF P w K mg base "value" "InvalidPart" (XA "InvalidPart")) (PErr : mg "PieceError" = some (.ref CPE)) (EXM : ExM K XA CPE)
    (his_listed : Good P w K mg base "is_listed" sis_listed ["value"] 1 (spis_listed K C XA))
    (his_below : Good P w K mg base "is_below" sis_below ["value", "limit"] 3 (spis_below K C XA))
    (hWeb_many : GoodP P w K mg base C "many" "Web.many" sWeb_many ["self"] 1 (spWeb_many K C XA)) :
    Good P w K mg base "are_numbers" sare_numbers ["web", "value"] 4 (spare_numbers K C XA) := by
  refine D.good fun f fd F => ?_
  obtain ⟨fis_listed, dis_listed, Ois_listed, mis_listed, kis_listed, bis_listed, Fis_listed⟩ := his_listed
  obtain ⟨fis_below, dis_below, Ois_below, mis_below, kis_below, bis_below, Fis_below⟩ := his_below
  obtain ⟨qWeb_many, fWeb_many, dWeb_many, OWeb_many, pWeb_many, bWeb_many⟩ := hWeb_many
  refine F.ok scare_numbers (fun vs H Q E h => ?_) (fun cdv A outer s H vs Q E hr h => ?_)
  · obtain ⟨a, N, ts, v, o, rfl, hw, hv, q⟩ := h
    first | rfl | (rcases h with ⟨_, _, rfl, _⟩ | ⟨_, rfl, _⟩ <;> rfl)
  obtain ⟨a, N, ts, v, o, rfl, hw, hv, q⟩ := h
  refine ⟨_, (pss_cons (ps_if (pt_not (pt_val (pe_call Ois_listed (hr.mono (by decide)) rfl mis_listed kis_listed bis_listed .nil pass0 (pa_cons (pv 1) pa_nil))))
    (pss_one (ps_ret pe_bl)) pss_nil)
  (pss_cons (ps_for PassesOwn.never rfl (pi_or (pi_list (pv 1)) (pi_tup (pv 1))) (pg_name (i := 2) scare_numbers.nd rfl (by first | exact Or.inl rfl | exact Or.inr rfl))
    (pss_one (ps_if (pt_not (pt_val (pe_call Ois_below hr rfl mis_below kis_below bis_below .nil pass0 (pa_cons (pv 2) (pa_cons (pe_prop (pv 0) WK.cl pWeb_many OWeb_many (hr.mono (by decide)) bWeb_many .nil pass0 (by rfl)) pa_nil)))))
    (pss_one (ps_ret pe_bl)) pss_nil)))
  (pss_one (ps_ret pe_bl)))), ?_⟩
  refine ⟨_, rfl, v, o, rfl, hv, fun H1 hS1 => ⟨_, rfl, ?_⟩⟩
  have hv1 := hv.same hS1
  cases o with
  | none => exact iteT (q H1 hS1)
  | some os =>
    refine iteF ?_
    replace q : ∀ H', Same H H' → Q (.bl (os.all (inR ts.length))) H' := q
    cases hv1 with
    | @lst s xs _ h hP =>
      refine .inl ⟨_, rfl, s, rfl, ⟨_, SqL.of h⟩, for_list (K := K) (a := s) (xs := xs) (fun i σ H' => Same H1 H' ∧ (os.take i).all (inR ts.length) = true ∧ ∃ v, σ = [some (.ref a), some (.ref s), v]) ⟨fun _ _ e => e, rfl, none, rfl⟩ (fun i σ H' _ ⟨hS', _⟩ => SqL.of (hS' _ _ h)) ?_ ?_⟩
      · rintro i x σ H2 hx ⟨hS2, hall, v, rfl⟩
        obtain ⟨o, ho, hn⟩ := num_get hP hx
        have hw2 := (hw.same hS1).same hS2
        obtain ⟨dx, tl, fl, ol, h1, _⟩ := id hw2
        refine ⟨_, rfl, _, rfl, a, dx, _, rfl, h1, a, N, ts, rfl, hw2, _, o, _, rfl, hn.same hS2, _, rfl, ?_⟩
        cases c : inR ts.length o with
        | true => exact iteF ⟨hS2, by rw [all_take ho, hall, c]; rfl, _, rfl⟩
        | false =>
          have := q H2 (hS1.trans hS2)
          rw [all_no ho c] at this
          exact iteT this
      · rintro σ H2 ⟨hS2, hall, v, rfl⟩
        have := q H2 (hS1.trans hS2)
        rw [paired_len hP, List.take_length] at hall
        rw [hall] at this
        exact this
    | @tup s xs _ h hP =>
      refine .inr ⟨_, rfl, s, rfl, ⟨_, SqT.of h⟩, for_tup (K := K) (a := s) (xs := xs) (fun i σ H' => Same H1 H' ∧ (os.take i).all (inR ts.length) = true ∧ ∃ v, σ = [some (.ref a), some (.ref s), v]) ⟨fun _ _ e => e, rfl, none, rfl⟩ (fun i σ H' _ ⟨hS', _⟩ => SqT.of (hS' _ _ h)) ?_ ?_⟩
      · rintro i x σ H2 hx ⟨hS2, hall, v, rfl⟩
        obtain ⟨o, ho, hn⟩ := num_get hP hx
        have hw2 := (hw.same hS1).same hS2
        obtain ⟨dx, tl, fl, ol, h1, _⟩ := id hw2
        refine ⟨_, rfl, _, rfl, a, dx, _, rfl, h1, a, N, ts, rfl, hw2, _, o, _, rfl, hn.same hS2, _, rfl, ?_⟩
        cases c : inR ts.length o with
        | true => exact iteF ⟨hS2, by rw [all_take ho, hall, c]; rfl, _, rfl⟩
        | false =>
          have := q H2 (hS1.trans hS2)
          rw [all_no ho c] at this
          exact iteT this
      · rintro σ H2 ⟨hS2, hall, v, rfl⟩
        have := q H2 (hS1.trans hS2)
        rw [paired_len hP, List.take_length] at hall
        rw [hall] at this
        exact this
end
end My
namespace My
/-! ### webs: ties, walks by their lengths -/
def Edge (ts : List (Nat × Nat)) (W : List Nat) (u v : Nat) : Prop := ∃ i, ts[i]? = some (u, v) ∧ i ∉ W
inductive Wk (E : Nat → Nat → Prop) : Nat → Nat → Nat → Prop where
  | nil (u : Nat) : Wk E 0 u u
  | snoc {k u x v : Nat} : Wk E k u x → E x v → Wk E (k + 1) u v
theorem wk_zero {E : Nat → Nat → Prop} {u v : Nat} (h : Wk E 0 u v) : v = u := by cases h; rfl
theorem wk_succ {E : Nat → Nat → Prop} {k u v : Nat} (h : Wk E (k + 1) u v) : ∃ x, Wk E k u x ∧ E x v := by
  cases h with
  | snoc a b => exact ⟨_, a, b⟩
theorem wk_append {E : Nat → Nat → Prop} {j k u x v : Nat} (a : Wk E j u x) (b : Wk E k x v) : Wk E (j + k) u v := by
  induction b with
  | nil => exact a
  | snoc _ e ih => exact .snoc (ih a) e
theorem wk_split {E : Nat → Nat → Prop} {u v : Nat} : ∀ (k j : Nat), Wk E (j + k) u v → ∃ x, Wk E j u x ∧ Wk E k x v
  | 0, j, h => ⟨v, h, .nil v⟩
  | k + 1, j, h => by
    obtain ⟨y, h1, h2⟩ := wk_succ (show Wk E ((j + k) + 1) u v from h)
    obtain ⟨x, h3, h4⟩ := wk_split k j h1
    exact ⟨x, h3, .snoc h4 h2⟩
def Rch (E : Nat → Nat → Prop) (u v : Nat) : Prop := ∃ k, Wk E k u v
/-- few numbers below N -/
theorem few {N : Nat} : ∀ {L : List Nat}, L.Nodup → (∀ x ∈ L, x < N) → L.length ≤ N := by
  induction N with
  | zero =>
    intro L _ h
    cases L with
    | nil => simp
    | cons a r => exact absurd (h a List.mem_cons_self) (by omega)
  | succ N ih =>
    intro L hn h
    by_cases c : N ∈ L
    · have h1 := ih (L := L.erase N) (hn.erase N) fun x hx => by
        have h2 := (List.Nodup.mem_erase_iff hn).mp hx
        have := h x h2.2
        have := h2.1
        omega
      rw [List.length_erase_of_mem c] at h1
      omega
    · have h1 := ih hn fun x hx => by
        have := h x hx
        have : x ≠ N := fun z => c (by rw [← z]; exact hx)
        omega
      omega
/-! ### coming to -/
structure RInv (E : Nat → Nat → Prop) (s : Nat) (seen waiting : List Nat) : Prop where
  nd : seen.Nodup
  st : s ∈ seen
  sub : ∀ x ∈ waiting, x ∈ seen
  ok : ∀ x ∈ seen, Rch E s x
  cl : ∀ u ∈ seen, u ∉ waiting → ∀ v, E u v → v ∈ seen
/-- while the ties from one place are gone through; D: those that were -/
structure RMid (E : Nat → Nat → Prop) (s here : Nat) (D : Nat → Prop) (seen waiting : List Nat) : Prop where
  nd : seen.Nodup
  st : s ∈ seen
  hh : here ∈ seen
  sub : ∀ x ∈ waiting, x ∈ seen
  ok : ∀ x ∈ seen, Rch E s x
  cl : ∀ u ∈ seen, u ∉ waiting → u ≠ here → ∀ v, E u v → v ∈ seen
  dn : ∀ v, D v → v ∈ seen
theorem r_start {E : Nat → Nat → Prop} (s : Nat) : RInv E s [s] [s] := by
  refine ⟨by simp, by simp, fun x h => h, fun x h => ?_, fun u h hn => absurd h hn⟩
  rw [List.mem_singleton.mp h]
  exact ⟨0, .nil s⟩
theorem r_pop {E : Nat → Nat → Prop} {s : Nat} {seen w : List Nat} {here : Nat} (h : RInv E s seen (w ++ [here])) : RMid E s here (fun _ => False) seen w := by
  refine ⟨h.nd, h.st, h.sub here (by simp), fun x hx => h.sub x (by simp [hx]), h.ok, fun u hu hn hne v hv => ?_, fun v hv => hv.elim⟩
  refine h.cl u hu (fun hm => ?_) v hv
  rcases List.mem_append.mp hm with z | z
  · exact hn z
  · exact hne (List.mem_singleton.mp z)
theorem r_new {E : Nat → Nat → Prop} {s here v : Nat} {D D' : Nat → Prop} {seen w : List Nat} (h : RMid E s here D seen w) (e : E here v) (hv : v ∉ seen) (hD : ∀ x, D' x → D x ∨ x = v) : RMid E s here D' (seen ++ [v]) (w ++ [v]) := by
  refine ⟨?_, by simp [h.st], by simp [h.hh], fun x hx => ?_, fun x hx => ?_, fun u hu hn hne x hx => ?_, fun x hx => ?_⟩
  · rw [List.nodup_append]
    exact ⟨h.nd, by simp, fun a ha b hb => by rw [List.mem_singleton.mp hb]; rintro rfl; exact hv ha⟩
  · rcases List.mem_append.mp hx with z | z
    · exact List.mem_append_left _ (h.sub x z)
    · exact List.mem_append_right _ z
  · rcases List.mem_append.mp hx with z | z
    · exact h.ok x z
    · rw [List.mem_singleton.mp z]
      obtain ⟨k, hk⟩ := h.ok here h.hh
      exact ⟨k + 1, .snoc hk e⟩
  · rcases List.mem_append.mp hu with z | z
    · exact List.mem_append_left _ (h.cl u z (fun m => hn (List.mem_append_left _ m)) hne x hx)
    · exact absurd (List.mem_append_right _ z) hn
  · rcases hD x hx with z | z
    · exact List.mem_append_left _ (h.dn x z)
    · rw [z]; simp
theorem r_old {E : Nat → Nat → Prop} {s here : Nat} {D D' : Nat → Prop} {seen w : List Nat} (h : RMid E s here D seen w) (hD : ∀ x, D' x → D x ∨ x ∈ seen) : RMid E s here D' seen w :=
  ⟨h.nd, h.st, h.hh, h.sub, h.ok, h.cl, fun x hx => (hD x hx).elim (h.dn x) id⟩
theorem r_done {E : Nat → Nat → Prop} {s here : Nat} {D : Nat → Prop} {seen w : List Nat} (h : RMid E s here D seen w) (hD : ∀ v, E here v → D v) : RInv E s seen w := by
  refine ⟨h.nd, h.st, h.sub, h.ok, fun u hu hn v hv => ?_⟩
  by_cases c : u = here
  · subst c
    exact h.dn v (hD v hv)
  · exact h.cl u hu hn c v hv
theorem r_end {E : Nat → Nat → Prop} {s : Nat} {seen : List Nat} (h : RInv E s seen []) (x : Nat) : x ∈ seen ↔ Rch E s x := by
  refine ⟨h.ok x, ?_⟩
  rintro ⟨k, hk⟩
  induction k generalizing x with
  | zero => rw [wk_zero hk]; exact h.st
  | succ k ih =>
    obtain ⟨y, h1, h2⟩ := wk_succ hk
    exact h.cl y (ih y h1) (by simp) x h2
/-! ### the fewest ties, by levels -/
def Few (E : Nat → Nat → Prop) (a b D : Nat) : Prop := 1 ≤ D ∧ Wk E D a b ∧ ∀ k, 1 ≤ k → k < D → ¬ Wk E k a b
structure Lev (E : Nat → Nat → Prop) (a b m : Nat) (here met : List Nat) : Prop where
  mt : ∀ x, x ∈ met ↔ ∃ j, 1 ≤ j ∧ j ≤ m ∧ Wk E j a x
  hr : ∀ x, x ∈ here ↔ Wk E m a x ∧ ∀ j, 1 ≤ j → j < m → ¬ Wk E j a x
  no : b ∉ met
  nd : met.Nodup
theorem lev_start {E : Nat → Nat → Prop} (a b : Nat) : Lev E a b 0 [a] [] := by
  refine ⟨fun x => ⟨fun h => by simp at h, fun ⟨j, h1, h2, _⟩ => by omega⟩, fun x => ⟨fun h => ?_, fun h => ?_⟩, by simp, by simp⟩
  · rw [List.mem_singleton.mp h]
    exact ⟨.nil a, fun j h1 h2 => by omega⟩
  · rw [wk_zero h.1]
    simp
/-- the next level, by what it holds -/
theorem lev_next {E : Nat → Nat → Prop} {a b m : Nat} {here met met' later : List Nat} (h : Lev E a b m here met) (h1 : ∀ x, x ∈ met' ↔ x ∈ met ∨ ∃ u ∈ here, E u x) (h2 : ∀ x, x ∈ later ↔ x ∉ met ∧ ∃ u ∈ here, E u x) :
    (∀ x, x ∈ met' ↔ ∃ j, 1 ≤ j ∧ j ≤ m + 1 ∧ Wk E j a x) ∧ (∀ x, x ∈ later ↔ Wk E (m + 1) a x ∧ ∀ j, 1 ≤ j → j < m + 1 → ¬ Wk E j a x) := by
  have key : ∀ x, Wk E (m + 1) a x → x ∈ met ∨ ∃ u ∈ here, E u x := fun x hx => by
    obtain ⟨u, hu, e⟩ := wk_succ hx
    by_cases c : u ∈ here
    · exact .inr ⟨u, c, e⟩
    · left
      rw [h.hr] at c
      have c2 : ∃ j, 1 ≤ j ∧ j < m ∧ Wk E j a u := by
        by_cases c3 : ∃ j, 1 ≤ j ∧ j < m ∧ Wk E j a u
        · exact c3
        · exact absurd ⟨hu, fun j g1 g2 g3 => c3 ⟨j, g1, g2, g3⟩⟩ c
      obtain ⟨j, g1, g2, g3⟩ := c2
      exact (h.mt x).mpr ⟨j + 1, by omega, by omega, .snoc g3 e⟩
  have here_wk : ∀ x, (∃ u ∈ here, E u x) → Wk E (m + 1) a x := fun x ⟨u, hu, e⟩ => .snoc ((h.hr u).mp hu).1 e
  constructor
  · intro x
    rw [h1]
    constructor
    · rintro (hx | hx)
      · obtain ⟨j, g1, g2, g3⟩ := (h.mt x).mp hx
        exact ⟨j, g1, by omega, g3⟩
      · exact ⟨m + 1, by omega, by omega, here_wk x hx⟩
    · rintro ⟨j, g1, g2, g3⟩
      by_cases c : j ≤ m
      · exact .inl ((h.mt x).mpr ⟨j, g1, c, g3⟩)
      · have e : j = m + 1 := by omega
        subst e
        exact key x g3
  · intro x
    rw [h2]
    constructor
    · rintro ⟨hx, hu⟩
      exact ⟨here_wk x hu, fun j g1 g2 g3 => hx ((h.mt x).mpr ⟨j, g1, by omega, g3⟩)⟩
    · rintro ⟨g1, g2⟩
      have hx : x ∉ met := fun hm => by
        obtain ⟨j, k1, k2, k3⟩ := (h.mt x).mp hm
        exact g2 j k1 (by omega) k3
      exact ⟨hx, (key x g1).resolve_left hx⟩
theorem lev_few {E : Nat → Nat → Prop} {a b m : Nat} {here met met' : List Nat} (h : Lev E a b m here met) (h1 : ∀ x, x ∈ met' ↔ ∃ j, 1 ≤ j ∧ j ≤ m + 1 ∧ Wk E j a x) (hb : b ∈ met') : Few E a b (m + 1) := by
  obtain ⟨j, g1, g2, g3⟩ := (h1 b).mp hb
  have old : ∀ k, 1 ≤ k → k ≤ m → ¬ Wk E k a b := fun k k1 k2 k3 => h.no ((h.mt b).mpr ⟨k, k1, k2, k3⟩)
  have e : j = m + 1 := by
    rcases Nat.lt_or_ge m j with z | z
    · omega
    · exact absurd g3 (old j g1 z)
  subst e
  exact ⟨by omega, g3, fun k k1 k2 => old k k1 (by omega)⟩
theorem lev_none {E : Nat → Nat → Prop} {a b m : Nat} {met : List Nat} (h : Lev E a b m [] met) : ∀ k, 1 ≤ k → ¬ Wk E k a b := by
  intro k
  induction k using Nat.strongRecOn with
  | _ k ih =>
    intro k1 hk
    by_cases c : k ≤ m
    · exact h.no ((h.mt b).mpr ⟨k, k1, c, hk⟩)
    · obtain ⟨u, h1, h2⟩ := wk_split (k - m) m (by rw [show m + (k - m) = k by omega]; exact hk)
      have hu : u ∉ ([] : List Nat) := by simp
      rw [h.hr] at hu
      have c2 : ∃ j, 1 ≤ j ∧ j < m ∧ Wk E j a u := by
        by_cases c3 : ∃ j, 1 ≤ j ∧ j < m ∧ Wk E j a u
        · exact c3
        · exact absurd ⟨h1, fun j g1 g2 g3 => c3 ⟨j, g1, g2, g3⟩⟩ hu
      obtain ⟨j, g1, g2, g3⟩ := c2
      exact ih (j + (k - m)) (by omega) (by omega) (wk_append g3 h2)
theorem few_unique {E : Nat → Nat → Prop} {a b c d : Nat} (h1 : Few E a b c) (h2 : Few E a b d) : c = d := by
  rcases Nat.lt_trichotomy c d with z | z | z
  · exact absurd h1.2.1 (h2.2.2 c h1.1 z)
  · exact z
  · exact absurd h2.2.1 (h1.2.2 d h2.1 z)
/-! ### a shortest way, by a line of places -/
/-- L: the line, its first place near; T: the ties by which the others were come to; ds: how many ties -/
structure Bfs (ts : List (Nat × Nat)) (W : List Nat) (a : Nat) (L T ds : List Nat) : Prop where
  l1 : L.length = T.length + 1
  l2 : ds.length = L.length
  l0 : L[0]? = some a
  d0 : ds[0]? = some 0
  nd : (L.drop 1).Nodup
  mono : ∀ (i j x y : Nat), i < j → ds[i]? = some x → ds[j]? = some y → x ≤ y
  by_ : ∀ (j t : Nat), T[j]? = some t → ∃ (u v i x : Nat), ts[t]? = some (u, v) ∧ t ∉ W ∧ L[j + 1]? = some v ∧ i ≤ j ∧ L[i]? = some u ∧ ds[i]? = some x ∧ ds[j + 1]? = some (x + 1) ∧ (0 < i → u ≠ a)
  wk : ∀ (j v x : Nat), L[j]? = some v → ds[j]? = some x → Wk (Edge ts W) x a v
/-- the first n of the line are done -/
structure Done (ts : List (Nat × Nat)) (W : List Nat) (n : Nat) (L ds : List Nat) : Prop where
  cl : ∀ (i u x v : Nat), i < n → L[i]? = some u → ds[i]? = some x → Edge ts W u v → ∃ (j y : Nat), L[j + 1]? = some v ∧ ds[j + 1]? = some y ∧ y ≤ x + 1
  up : ∀ (j y x : Nat), 0 < n → ds[j]? = some y → ds[n - 1]? = some x → y ≤ x + 1
  one : n = 0 → L.length = 1
theorem bfs_start (ts : List (Nat × Nat)) (W : List Nat) (a : Nat) : Bfs ts W a [a] [] [0] ∧ Done ts W 0 [a] [0] := by
  refine ⟨⟨rfl, rfl, rfl, rfl, by simp, fun i j x y h h1 h2 => ?_, fun j t h => by simp at h, fun j v x h1 h2 => ?_⟩, ⟨fun i u x v h => by omega, fun j y x h => by omega, fun _ => rfl⟩⟩
  · have := (List.getElem?_eq_some_iff.mp h2).1
    simp at this
    omega
  · have hj := (List.getElem?_eq_some_iff.mp h1).1
    simp at hj
    subst hj
    cases h1
    cases h2
    exact .nil a
/-- whoever is come to by so many ties stands in the line -/
theorem bfs_all {ts : List (Nat × Nat)} {W : List Nat} {a n : Nat} {L T ds : List Nat} (h : Bfs ts W a L T ds) (hd : Done ts W n L ds) : ∀ k v, 1 ≤ k → Wk (Edge ts W) k a v → (∀ x, n < L.length → ds[n]? = some x → k ≤ x) → ∃ (j y : Nat), L[j + 1]? = some v ∧ ds[j + 1]? = some y ∧ y ≤ k := by
  intro k
  induction k with
  | zero => intro v h1; omega
  | succ k ih =>
    intro v _ hw hx
    obtain ⟨u, h1, e⟩ := wk_succ hw
    have small : ∀ (i y : Nat), L[i]? = some u → ds[i]? = some y → y ≤ k → ∃ (j y : Nat), L[j + 1]? = some v ∧ ds[j + 1]? = some y ∧ y ≤ k + 1 := fun i y g1 g2 g3 => by
      have hin : i < n := by
        rcases Nat.lt_or_ge i n with z | z
        · exact z
        · exfalso
          have hi := (List.getElem?_eq_some_iff.mp g1).1
          have hn : n < L.length := by omega
          obtain ⟨x, ex⟩ : ∃ x, ds[n]? = some x := ⟨ds[n]'(by rw [h.l2]; exact hn), List.getElem?_eq_getElem _⟩
          have k1 := hx x hn ex
          by_cases c : i = n
          · subst c
            rw [g2] at ex
            cases ex
            omega
          · have := h.mono n i x y (by omega) ex g2
            omega
      obtain ⟨j, z, q1, q2, q3⟩ := hd.cl i u y v hin g1 g2 e
      exact ⟨j, z, q1, q2, by omega⟩
    rcases Nat.eq_zero_or_pos k with z | z
    · subst z
      have eu := wk_zero h1
      subst eu
      exact small 0 0 h.l0 h.d0 (Nat.le_refl _)
    · obtain ⟨j, y, g1, g2, g3⟩ := ih u z h1 fun x q1 q2 => by have := hx x q1 q2; omega
      exact small (j + 1) y g1 g2 g3
theorem get_drop {L : List Nat} {v : Nat} : v ∈ L.drop 1 ↔ ∃ j : Nat, L[j + 1]? = some v := by
  rw [List.mem_iff_getElem?]
  constructor
  · rintro ⟨i, hi⟩
    rw [List.getElem?_drop] at hi
    exact ⟨i, by rw [Nat.add_comm]; exact hi⟩
  · rintro ⟨j, hj⟩
    exact ⟨j, by rw [List.getElem?_drop, Nat.add_comm]; exact hj⟩
/-- while the ties from the place at n are gone through; G: those places that were come to -/
structure Mid (ts : List (Nat × Nat)) (W : List Nat) (a n here : Nat) (G : Nat → Prop) (L T ds : List Nat) : Prop where
  b : Bfs ts W a L T ds
  at_ : L[n]? = some here
  cl : ∀ (i u x v : Nat), i < n → L[i]? = some u → ds[i]? = some x → Edge ts W u v → ∃ (j y : Nat), L[j + 1]? = some v ∧ ds[j + 1]? = some y ∧ y ≤ x + 1
  up : ∀ (j y x : Nat), ds[j]? = some y → ds[n]? = some x → y ≤ x + 1
  dn : ∀ v, G v → v ∈ L.drop 1
theorem mid_start {ts : List (Nat × Nat)} {W : List Nat} {a n here : Nat} {L T ds : List Nat} (h : Bfs ts W a L T ds) (hd : Done ts W n L ds) (e : L[n]? = some here) : Mid ts W a n here (fun _ => False) L T ds := by
  refine ⟨h, e, hd.cl, fun j y x h1 h2 => ?_, fun v hv => hv.elim⟩
  have hj := (List.getElem?_eq_some_iff.mp h1).1
  have hn := (List.getElem?_eq_some_iff.mp h2).1
  rcases Nat.eq_zero_or_pos n with z | z
  · have h3 := hd.one z
    rw [h.l2, h3] at hj
    have ej : j = 0 := by omega
    subst ej
    rw [h.d0] at h1
    cases h1
    omega
  · obtain ⟨x', ex⟩ : ∃ x', ds[n - 1]? = some x' := ⟨ds[n - 1]'(by omega), List.getElem?_eq_getElem _⟩
    have h3 := hd.up j y x' z h1 ex
    have h4 := h.mono (n - 1) n x' x (by omega) ex h2
    omega
theorem get_snoc {L : List Nat} {i v : Nat} (w : Nat) (h : L[i]? = some v) : (L ++ [w])[i]? = some v := by
  rw [List.getElem?_append_left (List.getElem?_eq_some_iff.mp h).1]
  exact h
theorem of_snoc {L : List Nat} {i v w : Nat} (h : (L ++ [w])[i]? = some v) : (L[i]? = some v ∧ i < L.length) ∨ (i = L.length ∧ v = w) := by
  by_cases c : i < L.length
  · rw [List.getElem?_append_left c] at h
    exact .inl ⟨h, c⟩
  · have hi := (List.getElem?_eq_some_iff.mp h).1
    rw [List.length_append] at hi
    have e : i = L.length := by simp at hi; omega
    subst e
    rw [List.getElem?_append_right (Nat.le_refl _), Nat.sub_self] at h
    cases h
    exact .inr ⟨rfl, rfl⟩
theorem last_snoc (L : List Nat) (w : Nat) : (L ++ [w])[L.length]? = some w := by
  rw [List.getElem?_append_right (Nat.le_refl _), Nat.sub_self]
  rfl
theorem mid_new {ts : List (Nat × Nat)} {W : List Nat} {a n here v t x : Nat} {G G' : Nat → Prop} {L T ds : List Nat} (h : Mid ts W a n here G L T ds) (e : ts[t]? = some (here, v)) (hW : t ∉ W) (hv : v ∉ L.drop 1) (hx : ds[n]? = some x) (hG : ∀ w, G' w → G w ∨ w = v) :
    Mid ts W a n here G' (L ++ [v]) (T ++ [t]) (ds ++ [x + 1]) := by
  have hb := h.b
  have hn := (List.getElem?_eq_some_iff.mp h.at_).1
  have l1 := hb.l1
  have l2 := hb.l2
  have hdrop : (L ++ [v]).drop 1 = L.drop 1 ++ [v] := by rw [List.drop_append_of_le_length (by omega)]
  have ha : 0 < n → here ≠ a := fun hn0 hha => by
    subst hha
    obtain ⟨j, y, g1, _⟩ := h.cl 0 here 0 v hn0 hb.l0 hb.d0 ⟨t, e, hW⟩
    exact hv (get_drop.mpr ⟨j, g1⟩)
  have hwk := hb.wk n here x h.at_ hx
  refine ⟨⟨by simp; omega, by simp; omega, get_snoc _ hb.l0, get_snoc _ hb.d0, ?_, fun i j p q hij g1 g2 => ?_, fun j s g => ?_, fun j w p g1 g2 => ?_⟩, get_snoc _ h.at_, fun i u p w hi g1 g2 he => ?_, fun j y p g1 g2 => ?_, fun w hw => ?_⟩
  · rw [hdrop, List.nodup_append]
    exact ⟨hb.nd, by simp, fun p hp q hq => by rw [List.mem_singleton.mp hq]; rintro rfl; exact hv hp⟩
  · rcases of_snoc g2 with ⟨k2, k3⟩ | ⟨k2, k3⟩
    · rcases of_snoc g1 with ⟨k4, _⟩ | ⟨k4, _⟩
      · exact hb.mono i j p q hij k4 k2
      · omega
    · rcases of_snoc g1 with ⟨k4, _⟩ | ⟨k4, _⟩
      · have := h.up i p x k4 hx
        omega
      · omega
  · rcases of_snoc g with ⟨k2, k3⟩ | ⟨k2, k3⟩
    · obtain ⟨u, w, i, p, q1, q2, q3, q4, q5, q6, q7, q8⟩ := hb.by_ j s k2
      exact ⟨u, w, i, p, q1, q2, get_snoc _ q3, q4, get_snoc _ q5, get_snoc _ q6, get_snoc _ q7, q8⟩
    · subst k2 k3
      refine ⟨here, v, n, x, e, hW, ?_, by omega, get_snoc _ h.at_, get_snoc _ hx, ?_, ha⟩
      · rw [← l1]; exact last_snoc _ _
      · rw [← l1, ← l2]; exact last_snoc _ _
  · rcases of_snoc g1 with ⟨k2, k3⟩ | ⟨k2, k3⟩
    · rcases of_snoc g2 with ⟨k4, _⟩ | ⟨k4, _⟩
      · exact hb.wk j w p k2 k4
      · omega
    · rcases of_snoc g2 with ⟨k4, k5⟩ | ⟨_, k5⟩
      · omega
      · subst k3 k5
        exact .snoc hwk ⟨t, e, hW⟩
  · have hil : i < L.length := by omega
    rcases of_snoc g1 with ⟨k2, _⟩ | ⟨k2, _⟩
    · rcases of_snoc g2 with ⟨k4, _⟩ | ⟨k4, _⟩
      · obtain ⟨j, y, r1, r2, r3⟩ := h.cl i u p w hi k2 k4 he
        exact ⟨j, y, get_snoc _ r1, get_snoc _ r2, r3⟩
      · omega
    · omega
  · have hp : p = x := by
      rcases of_snoc g2 with ⟨k4, _⟩ | ⟨k4, _⟩
      · rw [hx] at k4; cases k4; rfl
      · omega
    subst hp
    rcases of_snoc g1 with ⟨k2, _⟩ | ⟨_, k2⟩
    · exact h.up j y p k2 hx
    · omega
  · rw [hdrop]
    rcases hG w hw with z | z
    · exact List.mem_append_left _ (h.dn w z)
    · rw [z]; simp
theorem mid_old {ts : List (Nat × Nat)} {W : List Nat} {a n here : Nat} {G G' : Nat → Prop} {L T ds : List Nat} (h : Mid ts W a n here G L T ds) (hG : ∀ w, G' w → G w ∨ w ∈ L.drop 1) : Mid ts W a n here G' L T ds :=
  ⟨h.b, h.at_, h.cl, h.up, fun v hv => (hG v hv).elim (h.dn v) id⟩
theorem mid_done {ts : List (Nat × Nat)} {W : List Nat} {a n here : Nat} {G : Nat → Prop} {L T ds : List Nat} (h : Mid ts W a n here G L T ds) (hG : ∀ v, Edge ts W here v → G v) : Bfs ts W a L T ds ∧ Done ts W (n + 1) L ds := by
  refine ⟨h.b, ⟨fun i u x v hi g1 g2 he => ?_, fun j y x _ g1 g2 => h.up j y x g1 g2, fun z => by omega⟩⟩
  by_cases c : i < n
  · exact h.cl i u x v c g1 g2 he
  · have e : i = n := by omega
    subst e
    rw [h.at_] at g1
    cases g1
    obtain ⟨j, hj⟩ := get_drop.mp (h.dn v (hG v he))
    have hl := (List.getElem?_eq_some_iff.mp hj).1
    obtain ⟨y, ey⟩ : ∃ y, ds[j + 1]? = some y := ⟨ds[j + 1]'(by rw [h.b.l2]; exact hl), List.getElem?_eq_getElem _⟩
    exact ⟨j, y, hj, ey, h.up _ _ _ ey g2⟩
/-- far was come to just now: by the fewest ties -/
theorem bfs_few {ts : List (Nat × Nat)} {W : List Nat} {a b n here : Nat} {G : Nat → Prop} {L T ds L' T' ds' : List Nat} (h : Bfs ts W a L T ds) (hd : Done ts W n L ds) (hn : n < L.length) (hb : b ∉ L.drop 1)
    (h' : Mid ts W a n here G L' T' ds') (hds : ds[n]? = ds'[n]?) {j y : Nat} (e1 : L'[j + 1]? = some b) (e2 : ds'[j + 1]? = some y) : Few (Edge ts W) a b y := by
  have hw := h'.b.wk _ _ _ e1 e2
  have hl := (List.getElem?_eq_some_iff.mp e1).1
  obtain ⟨t, et⟩ : ∃ t, T'[j]? = some t := ⟨T'[j]'(by have := h'.b.l1; omega), List.getElem?_eq_getElem _⟩
  obtain ⟨u, v, i, x, _, _, _, _, _, _, q7, _⟩ := h'.b.by_ j t et
  rw [e2] at q7
  have ey : y = x + 1 := Option.some.inj q7
  obtain ⟨z, ez⟩ : ∃ z, ds[n]? = some z := ⟨ds[n]'(by rw [h.l2]; exact hn), List.getElem?_eq_getElem _⟩
  have hz := h'.up (j + 1) y z e2 (by rw [← hds]; exact ez)
  refine ⟨by omega, hw, fun k k1 k2 hk => ?_⟩
  obtain ⟨j', _, g1, _⟩ := bfs_all h hd k b k1 hk fun x' _ ex' => by
    rw [ez] at ex'
    cases ex'
    omega
  exact hb (get_drop.mpr ⟨j', g1⟩)
theorem bfs_none {ts : List (Nat × Nat)} {W : List Nat} {a b n : Nat} {L T ds : List Nat} (h : Bfs ts W a L T ds) (hd : Done ts W n L ds) (hn : ¬ n < L.length) (hb : b ∉ L.drop 1) : ∀ k, 1 ≤ k → ¬ Wk (Edge ts W) k a b := by
  intro k k1 hk
  obtain ⟨j, _, g1, _⟩ := bfs_all h hd k b k1 hk fun x hx => absurd hx hn
  exact hb (get_drop.mpr ⟨j, g1⟩)
/-! ### the way back -/
inductive Pth (ts : List (Nat × Nat)) (W : List Nat) : Nat → List Nat → Nat → Prop where
  | one {t u v : Nat} : ts[t]? = some (u, v) → t ∉ W → Pth ts W u [t] v
  | cons {t u x v : Nat} {r : List Nat} : ts[t]? = some (u, x) → t ∉ W → Pth ts W x r v → Pth ts W u (t :: r) v
end My
namespace My
/-! ### turnings in their order -/
def rot (l : List Nat) (p : Nat) : List Nat := rd l p l.length
theorem rot_len (l : List Nat) (p : Nat) : (rot l p).length = l.length := rd_len _ _ _
def gt (l : List Nat) (i : Nat) : Nat := l.getD (i % l.length) 0
theorem rd_gt (l : List Nat) (p n : Nat) : rd l p n = (List.range n).map fun k => gt l (p + k) := rfl
theorem rd_split (l : List Nat) (p a b : Nat) : rd l p (a + b) = rd l p a ++ rd l (p + a) b := by
  induction b with
  | zero => simp [rd_zero]
  | succ b ih => rw [← Nat.add_assoc, rd_succ, ih, rd_succ, List.append_assoc, Nat.add_assoc]
theorem rd_cons (l : List Nat) (p n : Nat) : rd l p (n + 1) = gt l p :: rd l (p + 1) n := by
  rw [Nat.add_comm n 1, rd_split]
  rfl
theorem rd_congr {l : List Nat} {p q n : Nat} (h : ∀ j, j < n → gt l (p + j) = gt l (q + j)) : rd l p n = rd l q n := by
  rw [rd_gt, rd_gt]
  apply List.map_congr_left
  intro k hk
  exact h k (List.mem_range.mp hk)
theorem gt_congr {l : List Nat} {p q n : Nat} (h : rd l p n = rd l q n) (j : Nat) (hj : j < n) : gt l (p + j) = gt l (q + j) := by
  have e := congrArg (fun z : List Nat => z[j]?) h
  simp only [rd_get _ _ _ _ hj] at e
  exact Option.some.inj e
theorem lt_append {a x y : List Nat} (h : x < y) : a ++ x < a ++ y := by
  induction a with
  | nil => exact h
  | cons c r ih =>
    rw [List.cons_append, List.cons_append, List.cons_lt_cons_iff]
    exact .inr ⟨rfl, ih⟩
/-- alike for k letters, then less: less -/
theorem rot_lt {l : List Nat} {p q k : Nat} (hk : k < l.length) (h : ∀ j, j < k → gt l (p + j) = gt l (q + j)) (hl : gt l (p + k) < gt l (q + k)) : rot l p < rot l q := by
  unfold rot
  rw [show l.length = k + ((l.length - k - 1) + 1) by omega, rd_split l p, rd_split l q, rd_congr h]
  apply lt_append
  rw [rd_cons, rd_cons, List.cons_lt_cons_iff]
  exact .inl hl
def Bad (l : List Nat) (p : Nat) : Prop := ∃ q, rot l q < rot l p
def Opt (l : List Nat) (p : Nat) : Prop := ∀ q, ¬ rot l q < rot l p
theorem opt_bad {l : List Nat} {p : Nat} (h : Opt l p) (b : Bad l p) : False := by
  obtain ⟨q, hq⟩ := b
  exact h q hq
theorem rot_mod (l : List Nat) (p : Nat) : rot l (p % l.length) = rot l p := rd_mod _ _ _
/-- there is a least one -/
theorem opt_ex {l : List Nat} (h0 : 0 < l.length) : ∃ p, p < l.length ∧ Opt l p := by
  have key : ∀ n, 0 < n → ∃ p, p < n ∧ ∀ q, q < n → ¬ rot l q < rot l p := by
    intro n
    induction n with
    | zero => intro h; omega
    | succ n ih =>
      intro _
      rcases Nat.eq_zero_or_pos n with z | z
      · subst z
        refine ⟨0, by omega, fun q hq => ?_⟩
        have e : q = 0 := by omega
        subst e
        exact List.lt_irrefl _
      · obtain ⟨p, hp, hm⟩ := ih z
        by_cases c : rot l n < rot l p
        · refine ⟨n, by omega, fun q hq hlt => ?_⟩
          by_cases e : q = n
          · subst e; exact List.lt_irrefl _ hlt
          · exact hm q (by omega) (List.lt_trans hlt c)
        · refine ⟨p, by omega, fun q hq => ?_⟩
          by_cases e : q = n
          · subst e; exact c
          · exact hm q (by omega)
  obtain ⟨p, hp, hm⟩ := key l.length h0
  refine ⟨p, hp, fun q => ?_⟩
  rw [← rot_mod l q]
  exact hm _ (Nat.mod_lt _ h0)
structure Two (l : List Nat) (one two alike : Nat) : Prop where
  ne : one ≠ two
  in_ : one < l.length ∨ two < l.length
  same : ∀ j, j < alike → gt l (one + j) = gt l (two + j)
  bad : ∀ p, p < max one two → p ≠ one → p ≠ two → Bad l p
  b1 : one ≤ 2 * l.length
  b2 : two ≤ 2 * l.length + 1
  b3 : alike ≤ l.length
theorem two_start {l : List Nat} (h : 0 < l.length) : Two l 0 1 0 := by
  refine ⟨by omega, .inl h, fun j hj => by omega, fun p hp h0 h1 => ?_, by omega, by omega, by omega⟩
  have : max 0 1 = 1 := rfl
  omega
theorem two_alike {l : List Nat} {one two alike : Nat} (h : Two l one two alike) (ha : alike < l.length) (e : gt l (one + alike) = gt l (two + alike)) : Two l one two (alike + 1) := by
  refine ⟨h.ne, h.in_, fun j hj => ?_, h.bad, h.b1, h.b2, by omega⟩
  by_cases c : j = alike
  · subst c; exact e
  · exact h.same j (by omega)
theorem bad_run {l : List Nat} {a b alike : Nat} (ha : alike < l.length) (hs : ∀ j, j < alike → gt l (a + j) = gt l (b + j)) (hg : gt l (b + alike) < gt l (a + alike)) {p : Nat} (h1 : a ≤ p) (h2 : p ≤ a + alike) : Bad l p := by
  refine ⟨b + (p - a), rot_lt (k := alike - (p - a)) (by omega) (fun j hj => ?_) ?_⟩
  · have := hs (p - a + j) (by omega)
    rw [show b + (p - a) + j = b + (p - a + j) by omega, show p + j = a + (p - a + j) by omega]
    exact this.symm
  · rw [show b + (p - a) + (alike - (p - a)) = b + alike by omega, show p + (alike - (p - a)) = a + alike by omega]
    exact hg
theorem two_one {l : List Nat} {one two alike : Nat} (h : Two l one two alike) (h1 : one < l.length) (h2 : two < l.length) (ha : alike < l.length) (hg : gt l (two + alike) < gt l (one + alike)) :
    Two l (one + alike + 1) (if one + alike + 1 = two then two + 1 else two) 0 := by
  have run := fun p => bad_run (p := p) ha h.same hg
  have old := h.bad
  by_cases c : one + alike + 1 = two
  · rw [if_pos c]
    refine ⟨by omega, .inl (by omega), fun j hj => by omega, fun p hp n1 n2 => ?_, by omega, by omega, by omega⟩
    by_cases p1 : p < one
    · exact old p (by omega) (by omega) (by omega)
    · exact run p (by omega) (by omega)
  · rw [if_neg c]
    refine ⟨by omega, .inr h2, fun j hj => by omega, fun p hp n1 n2 => ?_, by omega, by omega, by omega⟩
    by_cases p1 : p < one
    · exact old p (by omega) (by omega) (by omega)
    · by_cases p2 : p ≤ one + alike
      · exact run p (by omega) p2
      · exact old p (by omega) (by omega) n2
theorem two_two {l : List Nat} {one two alike : Nat} (h : Two l one two alike) (h1 : one < l.length) (h2 : two < l.length) (ha : alike < l.length) (hg : gt l (one + alike) < gt l (two + alike)) :
    Two l one (if one = two + alike + 1 then two + alike + 1 + 1 else two + alike + 1) 0 := by
  have run := fun p => bad_run (p := p) ha (fun j hj => (h.same j hj).symm) hg
  have old := h.bad
  by_cases c : one = two + alike + 1
  · rw [if_pos c]
    refine ⟨by omega, .inl h1, fun j hj => by omega, fun p hp n1 n2 => ?_, by omega, by omega, by omega⟩
    by_cases p1 : p < two
    · exact old p (by omega) (by omega) (by omega)
    · exact run p (by omega) (by omega)
  · rw [if_neg c]
    refine ⟨by omega, .inl h1, fun j hj => by omega, fun p hp n1 n2 => ?_, by omega, by omega, by omega⟩
    by_cases p1 : p < two
    · exact old p (by omega) (by omega) (by omega)
    · by_cases p2 : p ≤ two + alike
      · exact run p (by omega) p2
      · exact old p (by omega) n1 (by omega)
theorem rot_shift {l : List Nat} {a b : Nat} (h0 : 0 < l.length) (h : rot l a = rot l b) (i : Nat) : rot l (a + i) = rot l (b + i) := by
  unfold rot at *
  refine rd_congr fun j _ => ?_
  have := gt_congr h ((i + j) % l.length) (Nat.mod_lt _ h0)
  unfold gt at *
  rw [Nat.add_mod_mod, Nat.add_mod_mod] at this
  rw [Nat.add_assoc, Nat.add_assoc]
  exact this
theorem two_end {l : List Nat} {one two alike : Nat} (h0 : 0 < l.length) (h : Two l one two alike) (e : ¬ (one < l.length ∧ two < l.length ∧ alike < l.length)) : min one two < l.length ∧ Opt l (min one two) := by
  obtain ⟨p, hp, ho⟩ := opt_ex h0
  have hne := h.ne
  by_cases c1 : one < l.length
  · by_cases c2 : two < l.length
    · have e3 : rot l one = rot l two := rd_congr fun j hj => h.same j (by omega)
      refine ⟨by omega, ?_⟩
      have both : rot l (min one two) = rot l (max one two) := by
        rcases Nat.lt_or_ge one two with z | z
        · rw [Nat.min_eq_left (by omega), Nat.max_eq_right (by omega)]; exact e3
        · rw [Nat.min_eq_right (by omega), Nat.max_eq_left (by omega)]; exact e3.symm
      have lo_opt : ∀ p, Opt l p → Opt l (min one two) := by
        intro p
        induction p using Nat.strongRecOn with
        | _ p ih =>
          intro ho
          by_cases q1 : p = min one two
          · rw [← q1]; exact ho
          by_cases q2 : p = max one two
          · unfold Opt
            rw [both, ← q2]
            exact ho
          by_cases q3 : p < max one two
          · exact (opt_bad ho (h.bad p q3 (by omega) (by omega))).elim
          · have hs := rot_shift h0 both (p - max one two)
            rw [show max one two + (p - max one two) = p by omega] at hs
            refine ih (min one two + (p - max one two)) (by omega) ?_
            unfold Opt
            rw [hs]
            exact ho
      exact lo_opt p ho
    · have ep : p = one := by
        by_cases q : p = one
        · exact q
        · exact (opt_bad ho (h.bad p (by omega) q (by omega))).elim
      rw [Nat.min_eq_left (by omega), ← ep]
      exact ⟨hp, ho⟩
  · have c2 : two < l.length := by rcases h.in_ with z | z <;> omega
    have ep : p = two := by
      by_cases q : p = two
      · exact q
      · exact (opt_bad ho (h.bad p (by omega) (by omega) q)).elim
    rw [Nat.min_eq_right (by omega), ← ep]
    exact ⟨hp, ho⟩
/-! ### the normal -/
def IsLeast (l m : List Nat) : Prop := ∃ p, p < l.length ∧ m = rot l p ∧ Opt l p
theorem least_unique {l a b : List Nat} (h1 : IsLeast l a) (h2 : IsLeast l b) : a = b := by
  obtain ⟨p, _, rfl, ho⟩ := h1
  obtain ⟨q, _, rfl, hq⟩ := h2
  exact List.le_antisymm (List.not_lt.mp (ho q)) (List.not_lt.mp (hq p))
theorem rot_rot (l : List Nat) (b p : Nat) (h0 : 0 < l.length) : rot (rot l b) p = rot l (b + p) := by
  unfold rot
  rw [rd_len]
  exact rd_turned l b p l.length h0
theorem least_rot {l m : List Nat} {b : Nat} (h0 : 0 < l.length) (h : IsLeast (rot l b) m) : IsLeast l m := by
  obtain ⟨p, hp, rfl, ho⟩ := h
  rw [rot_rot _ _ _ h0]
  refine ⟨(b + p) % l.length, Nat.mod_lt _ h0, (rot_mod _ _).symm, fun q hq => ?_⟩
  rw [rot_mod] at hq
  refine ho (q + (l.length - b % l.length)) ?_
  rw [rot_rot _ _ _ h0, rot_rot _ _ _ h0]
  have e : rot l (b + (q + (l.length - b % l.length))) = rot l q := by
    rw [← rot_mod]
    have h1 := Nat.div_add_mod b l.length
    have h2 : b % l.length < l.length := Nat.mod_lt _ h0
    have e : b + (q + (l.length - b % l.length)) = q + l.length * (b / l.length + 1) := by
      rw [Nat.mul_succ]
      omega
    rw [e, Nat.add_mul_mod_self_left, rot_mod]
  rw [e]
  exact hq
/-- one ring is the other one turned exactly if they have one normal -/
theorem alike_iff {l o a b : List Nat} (h0 : 0 < l.length) (h1 : 0 < o.length) (ha : IsLeast l a) (hb : IsLeast o b) : a = b ↔ ∃ p, p < l.length ∧ o = rot l p := by
  constructor
  · rintro rfl
    obtain ⟨p, _, e1, _⟩ := ha
    obtain ⟨q, hq, e2, _⟩ := hb
    have en : o.length = l.length := by
      have e3 := congrArg List.length e1
      have e4 := congrArg List.length e2
      rw [rot_len] at e3 e4
      omega
    have e5 : rot a (o.length - q) = o := by
      rw [e2, rot_rot _ _ _ h1, show q + (o.length - q) = o.length by omega, ← rot_mod, Nat.mod_self]
      exact rd_self o
    rw [e1, rot_rot _ _ _ h0] at e5
    exact ⟨(p + (o.length - q)) % l.length, Nat.mod_lt _ h0, by rw [rot_mod]; exact e5.symm⟩
  · rintro ⟨p, _, rfl⟩
    exact least_unique ha (least_rot h0 hb)
/-! ### the period is the least -/
theorem rot_zero (l : List Nat) : rot l 0 = l := rd_self l
theorem per_cyc {l : List Nat} {d : Nat} (h0 : 0 < l.length) (h : rot l d = l) (q : Nat) : gt l (q + d) = gt l q := by
  have h2 : rot l d = rot l 0 := by rw [h, rot_zero]
  have h3 := rot_shift h0 h2 q
  have := gt_congr h3 0 (by omega)
  rw [Nat.zero_add, Nat.add_comm d q] at this
  exact this
theorem per_mult {l : List Nat} {d : Nat} (h0 : 0 < l.length) (h : rot l d = l) : ∀ (k q : Nat), gt l (q + k * d) = gt l q
  | 0, q => by simp
  | k + 1, q => by
    rw [Nat.succ_mul, ← Nat.add_assoc, per_cyc h0 h]
    exact per_mult h0 h k q
theorem cyc_rot {l : List Nat} {d : Nat} (h : ∀ q, q < l.length → gt l (q + d) = gt l q) : rot l d = l := by
  have e : rd l d l.length = rd l 0 l.length := rd_congr fun j hj => by rw [Nat.zero_add, Nat.add_comm]; exact h j hj
  unfold rot
  rw [e, rd_self]
theorem least_per {l : List Nat} (h0 : 0 < l.length) : ∃ d, 0 < d ∧ d ≤ l.length ∧ rot l d = l ∧ ∀ p, 0 < p → p < d → rot l p ≠ l := by
  have key : ∀ n, 0 < n → rot l n = l → ∃ d, 0 < d ∧ d ≤ n ∧ rot l d = l ∧ ∀ p, 0 < p → p < d → rot l p ≠ l := by
    intro n
    induction n using Nat.strongRecOn with
    | _ n ih =>
      intro hn hr
      by_cases c : ∃ p, 0 < p ∧ p < n ∧ rot l p = l
      · obtain ⟨p, p0, pn, pr⟩ := c
        obtain ⟨d, d0, dn, dr, dm⟩ := ih p pn p0 pr
        exact ⟨d, d0, by omega, dr, dm⟩
      · exact ⟨n, hn, Nat.le_refl _, hr, fun p p0 pn pr => c ⟨p, p0, pn, pr⟩⟩
  exact key l.length h0 (by rw [← rot_mod, Nat.mod_self, rot_zero])
theorem per_divides {l : List Nat} {d : Nat} (h0 : 0 < l.length) (d0 : 0 < d) (hr : rot l d = l) (hm : ∀ p, 0 < p → p < d → rot l p ≠ l) : l.length % d = 0 := by
  by_cases c : l.length % d = 0
  · exact c
  · exfalso
    have hlt : l.length % d < d := Nat.mod_lt _ d0
    refine hm (l.length % d) (by omega) hlt (cyc_rot fun q _ => ?_)
    have e := Nat.div_add_mod l.length d
    have h1 := per_mult h0 hr (l.length / d) (q + l.length % d)
    rw [← h1, show q + l.length % d + l.length / d * d = q + l.length by rw [Nat.mul_comm (l.length / d) d]; omega]
    unfold gt
    rw [Nat.add_mod_right]
theorem gt_lt {l : List Nat} {i : Nat} (h : i < l.length) : gt l i = l.getD i 0 := by
  unfold gt
  rw [Nat.mod_eq_of_lt h]
theorem per_is {l : List Nat} {b d : Nat} (h : IsLB l b) (d0 : 0 < d) (dn : d ≤ l.length) (hr : rot l d = l) (hm : ∀ p, 0 < p → p < d → rot l p ≠ l) : per l b = d := by
  have hb := h.1
  have h0 : 0 < l.length := by omega
  have sd : l.length - b ≤ d := by
    by_cases c : d = l.length
    · omega
    · have e : rd l d l.length = l := hr
      rw [rd_turn l d (by omega)] at e
      have e2 : l.take (l.length - d) = l.drop d := by
        have := congrArg (List.take (l.length - d)) e
        rw [List.take_append_of_le_length (by rw [List.length_drop]; omega), List.take_of_length_le (by rw [List.length_drop]; omega)] at this
        exact this.symm
      have hs : l.take (l.length - d) <:+ l := by
        rw [e2]
        exact List.drop_suffix _ _
      have := h.2.2 (l.length - d) (by omega) hs
      omega
  have back : (∀ q, q < l.length → gt l (q + (l.length - b)) = gt l q) → d ≤ l.length - b := fun hc => by
    by_cases c : d ≤ l.length - b
    · exact c
    · exact absurd (cyc_rot hc) (hm _ (by omega) (by omega))
  have hline := line_period h
  unfold per
  split
  · rename_i c
    have := back fun q hq => by
      unfold gt
      rw [Nat.mod_eq_of_lt hq]
      exact round_period (by omega) (by omega) c hline q hq
    omega
  · rename_i c
    by_cases cd : d = l.length
    · exact cd.symm
    · exfalso
      have dd := per_divides h0 d0 hr hm
      have d2 : d + d ≤ l.length := by
        have e := Nat.div_add_mod l.length d
        rw [dd, Nat.add_zero] at e
        have q2 : 2 ≤ l.length / d := by
          rcases Nat.lt_or_ge (l.length / d) 2 with z | z
          · exfalso
            have : l.length / d = 0 ∨ l.length / d = 1 := by
              generalize l.length / d = x at z ⊢
              omega
            rcases this with z | z <;> rw [z] at e <;> omega
          · exact z
        have := Nat.mul_le_mul_left d q2
        omega
      have hcyc : ∀ q, q < l.length → gt l (q + (l.length - b)) = gt l q := fun q hq => by
        by_cases c1 : q + (l.length - b) < l.length
        · rw [gt_lt c1, gt_lt hq]
          exact hline q c1
        · have e1 : gt l q = gt l (q - d) := by
            have := per_cyc h0 hr (q - d)
            rw [show q - d + d = q by omega] at this
            exact this
          have e2 : gt l (q - d + (l.length - b)) = gt l (q - d) := by
            rw [gt_lt (by omega), gt_lt (by omega)]
            exact hline (q - d) (by omega)
          have e3 := per_cyc h0 hr (q - d + (l.length - b))
          rw [show q - d + (l.length - b) + d = q + (l.length - b) by omega] at e3
          rw [e3, e2, e1]
      have := back hcyc
      have e : d = l.length - b := by omega
      rw [← e] at c
      exact c dd
theorem per_facts {l : List Nat} {b : Nat} (h : IsLB l b) : 0 < per l b ∧ per l b ≤ l.length ∧ rot l (per l b) = l ∧ (∀ p, 0 < p → p < per l b → rot l p ≠ l) ∧ l.length % per l b = 0 := by
  have h0 : 0 < l.length := by have := h.1; omega
  obtain ⟨d, d0, dn, dr, dm⟩ := least_per h0
  rw [per_is h d0 dn dr dm]
  exact ⟨d0, dn, dr, dm, per_divides h0 d0 dr dm⟩
/-- as many unlike turnings as the period -/
theorem rot_per {l : List Nat} {d : Nat} (h0 : 0 < l.length) (_d0 : 0 < d) (h : rot l d = l) (p : Nat) : rot l p = rot l (p % d) := by
  unfold rot
  refine rd_congr fun j _ => ?_
  have e := Nat.div_add_mod p d
  have := per_mult h0 h (p / d) (p % d + j)
  rw [← this, show p % d + j + p / d * d = p + j by rw [Nat.mul_comm (p / d) d]; omega]
theorem rot_unlike {l : List Nat} {d : Nat} (h0 : 0 < l.length) (dn : d ≤ l.length) (hm : ∀ p, 0 < p → p < d → rot l p ≠ l) {p q : Nat} (hp : p < q) (hq : q < d) : rot l p ≠ rot l q := by
  intro e
  have h1 := rot_shift h0 e (l.length - p)
  rw [show p + (l.length - p) = l.length by omega, ← rot_mod, Nat.mod_self, rot_zero, ← rot_mod, show q + (l.length - p) = (q - p) + l.length by omega, Nat.add_mod_right, rot_mod] at h1
  exact hm (q - p) (by omega) (by omega) h1.symm
/-- the root again and again -/
theorem root_again {l : List Nat} {d : Nat} (h0 : 0 < l.length) (h : rot l d = l) : ∀ k, k * d ≤ l.length → (List.replicate k (l.take d)).flatten = l.take (k * d)
  | 0, _ => by simp
  | k + 1, hk => by
    rw [Nat.succ_mul] at hk
    rw [List.replicate_succ', List.flatten_append, root_again h0 h k (by omega), List.flatten_singleton, Nat.succ_mul, List.take_add]
    congr 1
    apply List.ext_getElem?
    intro i
    by_cases hi : i < d
    · rw [List.getElem?_take_of_lt hi, List.getElem?_take_of_lt hi, List.getElem?_drop, getD_lt (by omega), getD_lt (by omega)]
      have := per_mult h0 h k i
      rw [gt_lt (by omega), gt_lt (by omega)] at this
      rw [Nat.add_comm (k * d) i, this]
    · rw [List.getElem?_eq_none (by rw [List.length_take]; omega), List.getElem?_eq_none (by rw [List.length_take, List.length_drop]; omega)]
end My
namespace My
/-! ### columns: the last letters of the sorted turnings -/
theorem countP_none {α : Type} {P : α → Bool} {l : List α} (h : ∀ a ∈ l, P a ≠ true) : l.countP P = 0 := List.countP_eq_zero.mpr h
/-- a wish that falls along a list cuts it -/
theorem take_filter {α : Type} {P : α → Bool} : ∀ {l : List α}, l.Pairwise (fun a b => P b = true → P a = true) → l.take (l.countP P) = l.filter P
  | [], _ => rfl
  | a :: r, h => by
    obtain ⟨h1, h2⟩ := List.pairwise_cons.mp h
    by_cases c : P a = true
    · rw [List.countP_cons_of_pos c, List.filter_cons_of_pos c, List.take_succ_cons, take_filter h2]
    · have hr : ∀ b ∈ r, P b ≠ true := fun b hb z => c (h1 b hb z)
      rw [List.countP_cons_of_neg c, List.filter_cons_of_neg c, ← take_filter h2, countP_none hr]
      rfl
theorem cut_at {α : Type} {P : α → Bool} : ∀ {l : List α} {i : Nat} {a : α}, l.Pairwise (fun a b => P b = true → P a = true) → l[i]? = some a → (i < l.countP P ↔ P a = true)
  | [], _, _, _, h => by simp at h
  | b :: r, i, a, h, hi => by
    obtain ⟨h1, h2⟩ := List.pairwise_cons.mp h
    by_cases c : P b = true
    · rw [List.countP_cons_of_pos c]
      cases i with
      | zero =>
        have : b = a := by simpa using hi
        subst this
        exact ⟨fun _ => c, fun _ => by omega⟩
      | succ i =>
        have hi : r[i]? = some a := by simpa using hi
        rw [← cut_at h2 hi]
        omega
    · have hr : ∀ b ∈ r, P b ≠ true := fun b hb z => c (h1 b hb z)
      rw [List.countP_cons_of_neg c, countP_none hr]
      refine ⟨fun z => by omega, fun z => ?_⟩
      exfalso
      cases i with
      | zero =>
        have : b = a := by simpa using hi
        subst this
        exact c z
      | succ i => exact hr a (List.mem_of_getElem? (by simpa using hi)) z
theorem countP_or {α : Type} {P Q R : α → Bool} : ∀ {l : List α}, (∀ a ∈ l, R a = (P a || Q a)) → (∀ a ∈ l, P a = true → Q a = false) → l.countP R = l.countP P + l.countP Q
  | [], _, _ => rfl
  | a :: r, h, k => by
    have ih := countP_or (l := r) (fun b hb => h b (List.mem_cons_of_mem _ hb)) (fun b hb => k b (List.mem_cons_of_mem _ hb))
    have h1 := h a List.mem_cons_self
    have k1 := k a List.mem_cons_self
    rw [List.countP_cons, List.countP_cons, List.countP_cons, ih, h1]
    cases hp : P a
    · cases hq : Q a <;> simp <;> omega
    · rw [k1 hp]
      simp
      omega
theorem count_shift {n : Nat} : ∀ (s : Nat) {g : Nat → Bool}, (∀ j, g (j % n) = g j) → (List.range n).countP (fun p => g (p + s)) = (List.range n).countP g
  | 0, _, _ => rfl
  | s + 1, g, hg => by
    have h1 : ∀ j, (fun p => g (p + 1)) (j % n) = (fun p => g (p + 1)) j := fun j => by
      show g (j % n + 1) = g (j + 1)
      rw [← hg (j % n + 1), Nat.mod_add_mod, hg]
    have h2 := count_shift s (g := fun p => g (p + 1)) h1
    have h3 : (fun p => g (p + (s + 1))) = fun p => (fun p => g (p + 1)) (p + s) := rfl
    rw [h3, h2]
    cases n with
    | zero => rfl
    | succ m =>
      rw [List.range_succ_eq_map, List.countP_cons, List.countP_cons, List.countP_map]
      have e1 : (List.map Nat.succ (List.range m)).countP (fun p => g (p + 1)) + (if g (0 + 1) = true then 1 else 0) = (List.range (m + 1)).countP (fun p => g (p + 1)) := by
        rw [List.range_succ_eq_map, List.countP_cons]
      rw [List.countP_map] at e1
      rw [e1, List.range_succ, List.countP_append, List.countP_singleton]
      have e2 : g (m + 1) = g 0 := by rw [← hg (m + 1), Nat.mod_self]
      rw [e2, List.countP_map]
      rfl
def ordLe (r : List Nat) (p q : Nat) : Bool := decide (rot r p ≤ rot r q)
/-- the places, sorted by their turnings -/
def ord (r : List Nat) : List Nat := (List.range r.length).mergeSort (ordLe r)
theorem ord_perm (r : List Nat) : (ord r).Perm (List.range r.length) := List.mergeSort_perm _ _
theorem ord_len (r : List Nat) : (ord r).length = r.length := by rw [(ord_perm r).length_eq, List.length_range]
theorem ord_lt {r : List Nat} {i p : Nat} (h : (ord r)[i]? = some p) : p < r.length := List.mem_range.mp ((ord_perm r).mem_iff.mp (List.mem_of_getElem? h))
theorem ord_sorted (r : List Nat) : (ord r).Pairwise (fun p q => rot r p ≤ rot r q) := by
  have h := List.pairwise_mergeSort (le := ordLe r) (fun a b c h1 h2 => decide_eq_true (List.le_trans (of_decide_eq_true h1) (of_decide_eq_true h2))) (fun a b => by
    rcases List.le_total (rot r a) (rot r b) with z | z
    · rw [show ordLe r a b = true from decide_eq_true z]; rfl
    · rw [show ordLe r b a = true from decide_eq_true z, Bool.or_true]) (List.range r.length)
  exact h.imp fun z => of_decide_eq_true z
theorem gt_all {r : List Nat} {p q : Nat} (h0 : 0 < r.length) (h : rot r p = rot r q) (i : Nat) : gt r (p + i) = gt r (q + i) := by
  have := gt_congr (rot_shift h0 h i) 0 (by omega)
  simpa using this
theorem rd_mono {r : List Nat} {p q : Nat} (h0 : 0 < r.length) (h : rot r p ≤ rot r q) (m : Nat) : rd r p m ≤ rd r q m := by
  refine List.not_lt.mp fun z => ?_
  rw [List.lt_iff_exists] at z
  rcases z with ⟨_, z⟩ | ⟨i, h1, h2, h3, h4⟩
  · rw [rd_len, rd_len] at z; omega
  rw [rd_len] at h1
  have get : ∀ (p j : Nat) (hj : j < (rd r p m).length), (rd r p m)[j] = gt r (p + j) := fun p j hj => by
    have h5 := rd_get r p m j (by rw [rd_len] at hj; exact hj)
    rw [List.getElem?_eq_getElem hj] at h5
    exact Option.some.inj h5
  rw [get, get] at h4
  have h5 : ∀ j, j < i → gt r (q + j) = gt r (p + j) := fun j hj => by
    have := h3 j hj
    rwa [get, get] at this
  by_cases c : i < r.length
  · exact absurd (rot_lt c h5 h4) (List.not_lt.mpr h)
  · have e : rot r q = rot r p := rd_congr fun j hj => h5 j (by omega)
    rw [gt_all h0 e i] at h4
    exact absurd h4 (Nat.lt_irrefl _)
def col (r : List Nat) : List Nat := (ord r).map fun p => gt r (p + (r.length - 1))
theorem col_len (r : List Nat) : (col r).length = r.length := by rw [col, List.length_map, ord_len]
theorem col_get {r : List Nat} {i p : Nat} (h : (ord r)[i]? = some p) : (col r)[i]? = some (gt r (p + (r.length - 1))) := by
  rw [col, List.getElem?_map, h]
  rfl
theorem gt_mod (r : List Nat) (j : Nat) : gt r (j % r.length) = gt r j := by unfold gt; rw [Nat.mod_mod]
theorem gt_mem {r : List Nat} (h0 : 0 < r.length) (j : Nat) : gt r j ∈ r := by
  unfold gt
  rw [List.getD_eq_getElem?_getD, List.getElem?_eq_getElem (Nat.mod_lt _ h0)]
  exact List.getElem_mem _
theorem col_mem {r : List Nat} (h0 : 0 < r.length) {c : Nat} (h : c ∈ col r) : c ∈ r := by
  obtain ⟨p, _, rfl⟩ := List.mem_map.mp h
  exact gt_mem h0 _
/-- an order of words: less, or at most -/
structure Cmp (R : List Nat → List Nat → Bool) : Prop where
  cons : ∀ a c x w, R (a :: x) (c :: w) = (decide (a < c) || (decide (a = c) && R x w))
  mono : ∀ x y w, x ≤ y → R y w = true → R x w = true
def ltR (x w : List Nat) : Bool := decide (x < w)
def leR (x w : List Nat) : Bool := decide (x ≤ w)
theorem cmp_lt : Cmp ltR := by
  refine ⟨fun a c x w => ?_, fun x y w h k => decide_eq_true (List.lt_of_le_of_lt h (of_decide_eq_true k))⟩
  rw [Bool.eq_iff_iff]
  simp [ltR, List.cons_lt_cons_iff]
theorem cmp_le : Cmp leR := by
  refine ⟨fun a c x w => ?_, fun x y w h k => decide_eq_true (List.le_trans h (of_decide_eq_true k))⟩
  rw [Bool.eq_iff_iff]
  simp [leR, List.cons_le_cons_iff]
/-- how many rows are so -/
def cut (R : List Nat → List Nat → Bool) (r w : List Nat) : Nat := (ord r).countP fun p => R (rd r p w.length) w
theorem cut_pair {R : List Nat → List Nat → Bool} (C : Cmp R) {r : List Nat} (h0 : 0 < r.length) (w : List Nat) : (ord r).Pairwise (fun p q => R (rd r q w.length) w = true → R (rd r p w.length) w = true) :=
  (ord_sorted r).imp fun h k => C.mono _ _ _ (rd_mono h0 h _) k
theorem cut_le (R : List Nat → List Nat → Bool) (r w : List Nat) : cut R r w ≤ r.length := by
  have := List.countP_le_length (p := fun p => R (rd r p w.length) w) (l := ord r)
  rw [ord_len] at this
  exact this
theorem cut_row {R : List Nat → List Nat → Bool} (C : Cmp R) {r w : List Nat} (h0 : 0 < r.length) {i p : Nat} (h : (ord r)[i]? = some p) : i < cut R r w ↔ R (rd r p w.length) w = true := cut_at (cut_pair C h0 w) h
theorem lt_nil (r : List Nat) : cut ltR r [] = 0 := countP_none fun p _ => by simp [ltR, rd_zero]
theorem le_nil (r : List Nat) : cut leR r [] = r.length := by
  rw [cut, List.countP_eq_length.mpr fun p _ => by simp [leR, rd_zero], ord_len]
theorem cut_cons {R : List Nat → List Nat → Bool} (C : Cmp R) {r : List Nat} (h0 : 0 < r.length) (c : Nat) (w : List Nat) : cut R r (c :: w) = (col r).countP (fun a => decide (a < c)) + ((col r).take (cut R r w)).count c := by
  have e1 : (col r).countP (fun a => decide (a < c)) = (List.range r.length).countP fun p => decide (gt r p < c) := by
    rw [col, List.countP_map, (ord_perm r).countP_eq]
    exact count_shift (r.length - 1) (g := fun p => decide (gt r p < c)) fun j => by rw [gt_mod]
  have e2 : ((col r).take (cut R r w)).count c = (List.range r.length).countP fun p => (gt r p == c) && R (rd r (p + 1) w.length) w := by
    rw [col, ← List.map_take, cut, take_filter (cut_pair C h0 w), List.count_eq_countP, List.countP_map, List.countP_filter, (ord_perm r).countP_eq, ← count_shift (r.length - 1) (g := fun p => (gt r p == c) && R (rd r (p + 1) w.length) w)]
    · refine List.countP_congr fun p _ => ?_
      have : rd r (p + (r.length - 1) + 1) w.length = rd r p w.length := by
        rw [← rd_mod r (p + (r.length - 1) + 1), show p + (r.length - 1) + 1 = p + r.length by omega, Nat.add_mod_right, rd_mod]
      rw [this]
      rfl
    · intro j
      have : rd r (j % r.length + 1) w.length = rd r (j + 1) w.length := by
        rw [← rd_mod r (j % r.length + 1), Nat.mod_add_mod, rd_mod]
      rw [gt_mod, this]
  rw [e1, e2, cut, (ord_perm r).countP_eq]
  refine countP_or (fun p _ => ?_) (fun p _ h => ?_)
  · rw [List.length_cons, rd_cons, C.cons]
    rfl
  · have : gt r p < c := of_decide_eq_true h
    have e : (gt r p == c) = false := by simp; omega
    rw [e]
    rfl
theorem lt_le (r w : List Nat) : cut leR r w = cut ltR r w + (due r w).length := by
  have e : (due r w).length = (ord r).countP fun p => rd r p w.length == w := by
    rw [(ord_perm r).countP_eq, List.countP_eq_length_filter]
    rfl
  rw [e]
  refine countP_or (fun p _ => ?_) (fun p _ h => ?_)
  · rw [Bool.eq_iff_iff]
    simp only [leR, ltR, Bool.or_eq_true, decide_eq_true_eq, beq_iff_eq]
    constructor
    · intro h
      by_cases c : rd r p w.length = w
      · exact .inr c
      · refine .inl ?_
        by_cases z : rd r p w.length < w
        · exact z
        · exact absurd (List.le_antisymm h (List.not_lt.mp z)) c
    · rintro (h | h)
      · exact List.le_of_lt h
      · rw [h]; exact List.le_refl _
  · have h := of_decide_eq_true h
    cases e : rd r p w.length == w with
    | false => rfl
    | true => rw [beq_iff_eq.mp e] at h; exact absurd h (List.lt_irrefl _)
theorem row_is {r w : List Nat} (h0 : 0 < r.length) {i p : Nat} (h : (ord r)[i]? = some p) : rd r p w.length = w ↔ cut ltR r w ≤ i ∧ i < cut leR r w := by
  have h1 := cut_row cmp_lt (w := w) h0 h
  have h2 := cut_row cmp_le (w := w) h0 h
  have h3 : ltR (rd r p w.length) w = true ↔ rd r p w.length < w := by simp [ltR]
  have h4 : leR (rd r p w.length) w = true ↔ rd r p w.length ≤ w := by simp [leR]
  rw [h3] at h1
  rw [h4] at h2
  rw [h2, ← Nat.not_lt, h1]
  constructor
  · intro e
    rw [e]
    exact ⟨List.lt_irrefl _, List.le_refl _⟩
  · rintro ⟨a, b⟩
    exact List.le_antisymm b (List.not_lt.mp a)
theorem range_cut {a b : Nat} : ∀ n, b ≤ n → (List.range n).filter (fun k => decide (a ≤ k ∧ k < b)) = List.range' a (b - a)
  | 0, h => by
    have : b = 0 := by omega
    subst this
    simp
  | n + 1, h => by
    rw [List.range_succ, List.filter_append]
    by_cases c : b ≤ n
    · rw [range_cut n c, List.filter_cons_of_neg (by simp; omega)]
      simp
    · have e : b = n + 1 := by omega
      subst e
      have ih := range_cut (a := a) (b := n) n (Nat.le_refl _)
      have e2 : (List.range n).filter (fun k => decide (a ≤ k ∧ k < n + 1)) = (List.range n).filter (fun k => decide (a ≤ k ∧ k < n)) := List.filter_congr fun k hk => by
        have := List.mem_range.mp hk
        simp only [decide_eq_decide]
        omega
      rw [e2, ih]
      by_cases c2 : a ≤ n
      · rw [List.filter_cons_of_pos (by simp; omega), show n + 1 - a = (n - a) + 1 by omega, List.range'_concat]
        simp
        omega
      · rw [List.filter_cons_of_neg (by simp; omega), show n - a = 0 by omega, show n + 1 - a = 0 by omega]
        rfl
/-! ### formers -/
def lf (c : List Nat) (i : Nat) : Nat := c.countP (fun a => decide (a < c.getD i 0)) + (c.take i).count (c.getD i 0)
theorem count_take {l : List Nat} {a b : Nat} (h : a ≤ b) (c : Nat) : (l.take a).count c ≤ (l.take b).count c := by
  refine List.Sublist.count_le c ?_
  rw [show l.take a = (l.take b).take a by rw [List.take_take, Nat.min_eq_left h]]
  exact List.take_sublist _ _
theorem count_next {l : List Nat} {i c : Nat} (h : l[i]? = some c) : (l.take (i + 1)).count c = (l.take i).count c + 1 := by
  rw [List.take_add_one, h, List.count_append]
  simp
abbrev oat (r : List Nat) (i : Nat) : Nat := (ord r).getD i 0
theorem oat_get {r : List Nat} {i : Nat} (h : i < r.length) : (ord r)[i]? = some (oat r i) := getD_lt (by rw [ord_len]; exact h)
theorem col_at {r : List Nat} {i : Nat} (h : i < r.length) : (col r).getD i 0 = gt r (oat r i + (r.length - 1)) := by
  rw [List.getD_eq_getElem?_getD, col_get (oat_get h)]
  rfl
theorem rot_back {r : List Nat} (h0 : 0 < r.length) (p : Nat) : rot r (p + (r.length - 1)) = gt r (p + (r.length - 1)) :: rd r p (r.length - 1) := by
  unfold rot
  obtain ⟨m, em⟩ : ∃ m, r.length = m + 1 := ⟨r.length - 1, by omega⟩
  have e : rd r (p + (r.length - 1) + 1) m = rd r p m := by
    rw [← rd_mod r (p + (r.length - 1) + 1), show p + (r.length - 1) + 1 = p + r.length by omega, Nat.add_mod_right, rd_mod]
  rw [show rd r (p + (r.length - 1)) r.length = rd r (p + (r.length - 1)) (m + 1) by rw [← em], rd_cons, e, show r.length - 1 = m by omega]
theorem lf_row {r : List Nat} (h0 : 0 < r.length) {i : Nat} (hi : i < r.length) : lf (col r) i < r.length ∧ rot r (oat r (lf (col r) i)) = rot r (oat r i + (r.length - 1)) := by
  have hp := oat_get hi
  generalize ep : oat r i = p at hp
  have hc := col_get hp
  have hcD : (col r).getD i 0 = gt r (p + (r.length - 1)) := by rw [col_at hi, ep]
  obtain ⟨w, ew⟩ : ∃ w, w = rd r p (r.length - 1) := ⟨_, rfl⟩
  have wl : w.length = r.length - 1 := by rw [ew, rd_len]
  obtain ⟨c, ec⟩ : ∃ c, c = gt r (p + (r.length - 1)) := ⟨_, rfl⟩
  have ek : lf (col r) i = (col r).countP (fun a => decide (a < c)) + ((col r).take i).count c := by rw [lf, hcD, ← ec]
  rw [← ec] at hc
  have h1 : cut ltR r w ≤ i := by
    refine Nat.not_lt.mp fun z => ?_
    have := (cut_row cmp_lt h0 hp).mp z
    rw [wl, ← ew] at this
    exact absurd (of_decide_eq_true this) (List.lt_irrefl _)
  have h2 : i < cut leR r w := (cut_row cmp_le h0 hp).mpr (by rw [wl, ← ew]; exact decide_eq_true (List.le_refl _))
  have h3 : cut ltR r (c :: w) ≤ lf (col r) i := by
    rw [cut_cons cmp_lt h0, ek]
    exact Nat.add_le_add_left (count_take h1 c) _
  have h4 : lf (col r) i < cut leR r (c :: w) := by
    rw [cut_cons cmp_le h0, ek]
    have := count_take (l := col r) (show i + 1 ≤ cut leR r w from h2) c
    rw [count_next hc] at this
    omega
  have h5 : lf (col r) i < r.length := Nat.lt_of_lt_of_le h4 (cut_le _ _ _)
  refine ⟨h5, ?_⟩
  have h6 := (row_is h0 (oat_get h5)).mpr ⟨h3, h4⟩
  rw [rot_back h0, ← ec, ← ew]
  unfold rot
  rw [← h6, List.length_cons, wl]
  congr 2
  omega
theorem lf_mono {r : List Nat} (h0 : 0 < r.length) {i j : Nat} (hij : i < j) (hj : j < r.length) (e : rot r (oat r i) = rot r (oat r j)) : lf (col r) i < lf (col r) j := by
  have hi : i < r.length := by omega
  have ec : (col r).getD i 0 = (col r).getD j 0 := by rw [col_at hi, col_at hj, gt_all h0 e]
  have hc : (col r)[i]? = some ((col r).getD j 0) := by rw [← ec]; exact getD_lt (by rw [col_len]; exact hi)
  unfold lf
  rw [ec]
  have h1 := count_next hc
  have h2 := count_take (l := col r) (show i + 1 ≤ j from hij) ((col r).getD j 0)
  omega
/-- f, so often -/
def itn (f : Nat → Nat) : Nat → Nat → Nat
  | 0, x => x
  | k + 1, x => f (itn f k x)
theorem itn_add (f : Nat → Nat) (b x : Nat) : ∀ a, itn f (a + b) x = itn f a (itn f b x)
  | 0 => by rw [Nat.zero_add]; rfl
  | a + 1 => by
    rw [show a + 1 + b = (a + b) + 1 by omega]
    show f (itn f (a + b) x) = f (itn f a (itn f b x))
    rw [itn_add f b x a]
theorem itn_row {r : List Nat} {d : Nat} (h0 : 0 < r.length) (hd : rot r d = r) {i : Nat} (hi : i < r.length) : ∀ m, m ≤ d → itn (lf (col r)) m i < r.length ∧ rot r (oat r (itn (lf (col r)) m i)) = rot r (oat r i + (d - m))
  | 0, _ => by
    refine ⟨hi, ?_⟩
    have := rot_shift h0 (show rot r d = rot r 0 by rw [hd, rot_zero]) (oat r i)
    rw [Nat.zero_add] at this
    rw [Nat.sub_zero, Nat.add_comm, this]
    rfl
  | m + 1, hm => by
    obtain ⟨h1, h2⟩ := itn_row h0 hd hi m (by omega)
    obtain ⟨h3, h4⟩ := lf_row h0 h1
    refine ⟨h3, ?_⟩
    show rot r (oat r (lf (col r) (itn (lf (col r)) m i))) = _
    rw [h4, rot_shift h0 h2 (r.length - 1), ← rot_mod, show oat r i + (d - m) + (r.length - 1) = oat r i + (d - (m + 1)) + r.length by omega, Nat.add_mod_right, rot_mod]
theorem self_map {f : Nat → Nat} {a b : Nat} (hf : ∀ x, a ≤ x → x < b → a ≤ f x ∧ f x < b) (hm : ∀ x y, a ≤ x → x < y → y < b → f x < f y) {x : Nat} (h1 : a ≤ x) (h2 : x < b) : f x = x := by
  have up : ∀ k, a + k < b → a + k ≤ f (a + k) := by
    intro k
    induction k with
    | zero => intro h; exact (hf _ (Nat.le_refl _) h).1
    | succ k ih =>
      intro h
      have := ih (by omega)
      have := hm (a + k) (a + (k + 1)) (by omega) (by omega) h
      omega
  have down : ∀ k, a + k < b → f (b - 1 - k) ≤ b - 1 - k := by
    intro k
    induction k with
    | zero =>
      intro h
      have := (hf (b - 1 - 0) (by omega) (by omega)).2
      omega
    | succ k ih =>
      intro h
      have := ih (by omega)
      have := hm (b - 1 - (k + 1)) (b - 1 - k) (by omega) (by omega) (by omega)
      omega
  have h3 := up (x - a) (by omega)
  have h4 := down (b - 1 - x) (by omega)
  rw [show a + (x - a) = x by omega] at h3
  rw [show b - 1 - (b - 1 - x) = x by omega] at h4
  omega
theorem itn_home {r : List Nat} {d : Nat} (h0 : 0 < r.length) (hd : rot r d = r) {i : Nat} (hi : i < r.length) : itn (lf (col r)) d i = i := by
  have key : ∀ k, k < r.length → (rot r (oat r k) = rot r (oat r i) ↔ cut ltR r (rot r (oat r i)) ≤ k ∧ k < cut leR r (rot r (oat r i))) := fun k hk => by
    have := row_is (w := rot r (oat r i)) h0 (oat_get hk)
    rw [rot_len] at this
    exact this
  have hb := cut_le leR r (rot r (oat r i))
  have mono : ∀ m, m ≤ d → ∀ x y, x < y → y < r.length → rot r (oat r x) = rot r (oat r y) → itn (lf (col r)) m x < itn (lf (col r)) m y := by
    intro m
    induction m with
    | zero => intro _ x y h _ _; exact h
    | succ m ih =>
      intro hm x y h hy e
      have h1 := ih (by omega) x y h hy e
      obtain ⟨_, h2⟩ := itn_row h0 hd (show x < r.length by omega) m (by omega)
      obtain ⟨h3, h4⟩ := itn_row h0 hd hy m (by omega)
      exact lf_mono h0 h1 h3 (by rw [h2, h4, rot_shift h0 e])
  obtain ⟨g1, g2⟩ := (key i hi).mp rfl
  refine self_map (a := cut ltR r (rot r (oat r i))) (b := cut leR r (rot r (oat r i))) (f := itn (lf (col r)) d) (fun x h1 h2 => ?_) (fun x y h1 h2 h3 => ?_) g1 g2
  · have hx : x < r.length := by omega
    obtain ⟨h3, h4⟩ := itn_row h0 hd hx d (Nat.le_refl _)
    rw [Nat.sub_self, Nat.add_zero] at h4
    exact (key _ h3).mp (by rw [h4]; exact (key x hx).mpr ⟨h1, h2⟩)
  · have hy : y < r.length := by omega
    exact mono d (Nat.le_refl _) x y h2 hy (by rw [(key x (by omega)).mpr ⟨h1, by omega⟩, (key y hy).mpr ⟨by omega, h3⟩])
theorem itn_away {r : List Nat} {d : Nat} (h0 : 0 < r.length) (hd : rot r d = r) (hm : ∀ p, 0 < p → p < d → rot r p ≠ r) {i k : Nat} (hi : i < r.length) (k0 : 0 < k) (kd : k < d) : itn (lf (col r)) k i ≠ i := by
  intro e
  obtain ⟨_, h2⟩ := itn_row h0 hd hi k (by omega)
  rw [e] at h2
  have h3 := rot_shift h0 h2 (r.length - oat r i % r.length)
  have hp := Nat.mod_lt (oat r i) h0
  have e1 : ∀ s, rot r (oat r i + s + (r.length - oat r i % r.length)) = rot r s := fun s => by
    have h4 := Nat.div_add_mod (oat r i) r.length
    rw [← rot_mod, show oat r i + s + (r.length - oat r i % r.length) = s + r.length * (oat r i / r.length + 1) by rw [Nat.mul_succ]; omega, Nat.add_mul_mod_self_left, rot_mod]
  have e2 := e1 0
  rw [Nat.add_zero] at e2
  rw [e1, e2, rot_zero] at h3
  exact hm (d - k) (by omega) (by omega) h3.symm
/-- the letter that is met at the m-th former -/
theorem itn_letter {r : List Nat} {d : Nat} (h0 : 0 < r.length) (hd : rot r d = r) {i m : Nat} (hi : i < r.length) (hm : m < d) : (col r)[itn (lf (col r)) m i]? = some (gt r (oat r i + (d - (m + 1)))) := by
  obtain ⟨h1, h2⟩ := itn_row h0 hd hi m (by omega)
  rw [col_get (oat_get h1), gt_all h0 h2, ← gt_mod, show oat r i + (d - m) + (r.length - 1) = oat r i + (d - (m + 1)) + r.length by omega, Nat.add_mod_right, gt_mod]
def metN (r : List Nat) (p d m : Nat) : List Nat := (List.range m).map fun k => gt r (p + (d - (k + 1)))
theorem metN_succ (r : List Nat) (p d m : Nat) : metN r p d (m + 1) = metN r p d m ++ [gt r (p + (d - (m + 1)))] := by
  unfold metN
  rw [List.range_succ, List.map_append]
  rfl
theorem metN_len (r : List Nat) (p d m : Nat) : (metN r p d m).length = m := by simp [metN]
theorem metN_rev (r : List Nat) (p d : Nat) : (metN r p d d).reverse = rd r p d := by
  refine List.ext_getElem? fun j => ?_
  by_cases c : j < d
  · rw [rd_get _ _ _ _ c, List.getElem?_reverse (by rw [metN_len]; exact c), metN_len, metN, List.getElem?_map, List.getElem?_range (by omega)]
    show some (gt r _) = some (gt r (p + j))
    congr 3
    omega
  · rw [List.getElem?_eq_none (by rw [List.length_reverse, metN_len]; omega), List.getElem?_eq_none (by rw [rd_len]; omega)]
/-- a part of a ring that comes again and again, read from another place on -/
theorem root_rot {r : List Nat} {d : Nat} (h0 : 0 < r.length) (d0 : 0 < d) (hd : rot r d = r) (p : Nat) : rd r p d = rot (rd r 0 d) p := by
  unfold rot
  rw [rd_len]
  have hg : ∀ i, gt (rd r 0 d) i = gt r i := fun i => by
    have h1 : i % d < d := Nat.mod_lt _ d0
    have h2 := rd_get r 0 d (i % d) h1
    unfold gt
    rw [rd_len, List.getD_eq_getElem?_getD, h2]
    show gt r (0 + i % d) = gt r i
    rw [Nat.zero_add]
    conv => rhs; rw [← Nat.mod_add_div i d, Nat.mul_comm]
    exact (per_mult h0 hd _ _).symm
  rw [rd_gt, rd_gt]
  refine List.map_congr_left fun k _ => ?_
  exact (hg _).symm
/-- the places at which a word begins: as often as the period tells -/
theorem countP_per {g : Nat → Bool} {d : Nat} (hg : ∀ j, g (j + d) = g j) : ∀ k, (List.range (k * d)).countP g = k * (List.range d).countP g
  | 0 => by simp
  | k + 1 => by
    rw [Nat.succ_mul, Nat.succ_mul, List.range_add, List.countP_append, countP_per hg k, List.countP_map]
    congr 1
    refine List.countP_congr fun j _ => ?_
    have : ∀ k, g (k * d + j) = g j := by
      intro k
      induction k with
      | zero => simp
      | succ k ih => rw [Nat.succ_mul, show k * d + d + j = k * d + j + d by omega, hg, ih]
    show g (k * d + j) = true ↔ _
    rw [this]
theorem due_per {r w : List Nat} {d : Nat} (h0 : 0 < r.length) (d0 : 0 < d) (hd : rot r d = r) (hdiv : r.length % d = 0) : (due r w).length % (r.length / d) = 0 := by
  have e : (due r w).length = (List.range r.length).countP fun p => rd r p w.length == w := by
    rw [List.countP_eq_length_filter]
    rfl
  have h1 : r.length = r.length / d * d := by
    have := Nat.div_add_mod r.length d
    rw [hdiv, Nat.mul_comm] at this
    omega
  rw [e, h1, countP_per (fun j => by
    have : rd r (j + d) w.length = rd r j w.length := rd_congr fun i _ => by
      rw [show j + d + i = j + i + d by omega, per_cyc h0 hd]
    rw [this]), Nat.mul_div_cancel _ d0, Nat.mul_mod_right]
end My
namespace My
theorem nodup_le : ∀ {L S : List Nat}, L.Nodup → (∀ x ∈ L, x ∈ S) → L.length ≤ S.length
  | [], _, _, _ => Nat.zero_le _
  | a :: r, S, hn, h => by
    obtain ⟨h1, h2⟩ := List.nodup_cons.mp hn
    have ha := h a List.mem_cons_self
    have ih := nodup_le (L := r) (S := S.erase a) h2 fun x hx => (List.mem_erase_of_ne (fun z => h1 (by rw [← z]; exact hx))).mpr (h x (List.mem_cons_of_mem _ hx))
    rw [List.length_erase_of_mem ha] at ih
    have := List.length_pos_of_mem ha
    rw [List.length_cons]
    omega
/-! ### rounds of a function -/
structure IsCyc (f : Nat → Nat) (s k : Nat) : Prop where
  k0 : 0 < k
  home : itn f k s = s
  away : ∀ j, 0 < j → j < k → itn f j s ≠ s
theorem IsCyc.unique {f : Nat → Nat} {s a b : Nat} (h : IsCyc f s a) (k : IsCyc f s b) : a = b := by
  rcases Nat.lt_trichotomy a b with z | z | z
  · exact absurd h.home (k.away a h.k0 z)
  · exact z
  · exact absurd k.home (h.away b k.k0 z)
theorem itn_lt {f : Nat → Nat} {n : Nat} (hf : ∀ x, x < n → f x < n) {s : Nat} (hs : s < n) : ∀ k, itn f k s < n
  | 0 => hs
  | k + 1 => hf _ (itn_lt hf hs k)
theorem itn_inj {f : Nat → Nat} {n : Nat} (hf : ∀ x, x < n → f x < n) (hi : ∀ x y, x < n → y < n → f x = f y → x = y) {x y : Nat} (hx : x < n) (hy : y < n) : ∀ k, itn f k x = itn f k y → x = y
  | 0, h => h
  | k + 1, h => itn_inj hf hi hx hy k (hi _ _ (itn_lt hf hx k) (itn_lt hf hy k) h)
theorem cyc_ex {f : Nat → Nat} {n : Nat} (hf : ∀ x, x < n → f x < n) (hi : ∀ x y, x < n → y < n → f x = f y → x = y) {s : Nat} (hs : s < n) : ∃ k, IsCyc f s k ∧ k ≤ n := by
  have h1 : ∃ k, 0 < k ∧ k ≤ n ∧ itn f k s = s := by
    refine Classical.byContradiction fun no => ?_
    have hn : ((List.range (n + 1)).map fun k => itn f k s).Nodup := by
      refine List.Pairwise.map (R := fun a b => a < b ∧ b < n + 1) _ (fun a b hab z => ?_) ?_
      · have h2 : itn f a (itn f (b - a) s) = itn f a s := by rw [← itn_add, show a + (b - a) = b by omega]; exact z.symm
        exact no ⟨b - a, by omega, by omega, itn_inj hf hi (itn_lt hf hs _) hs a h2⟩
      · refine List.Pairwise.imp_of_mem (R := (· < ·)) (fun {a b} ha hb h => ⟨h, List.mem_range.mp hb⟩) List.pairwise_lt_range
    have := few hn fun x hx => by
      obtain ⟨k, _, rfl⟩ := List.mem_map.mp hx
      exact itn_lt hf hs k
    rw [List.length_map, List.length_range] at this
    omega
  obtain ⟨k, k0, kn, hk⟩ := h1
  have key : ∀ m, 0 < m → m ≤ n → itn f m s = s → ∃ k, IsCyc f s k ∧ k ≤ n := by
    intro m
    induction m using Nat.strongRecOn with
    | _ m ih =>
      intro m0 mn hm
      by_cases c : ∃ j, 0 < j ∧ j < m ∧ itn f j s = s
      · obtain ⟨j, j0, jm, hj⟩ := c
        exact ih j jm j0 (by omega) hj
      · exact ⟨m, ⟨m0, hm, fun j j0 jm hj => c ⟨j, j0, jm, hj⟩⟩, mn⟩
  exact key k k0 kn hk
/-- the round of s, so far -/
def orb (f : Nat → Nat) (s k : Nat) : List Nat := (List.range k).map fun j => itn f j s
theorem orb_succ (f : Nat → Nat) (s k : Nat) : orb f s (k + 1) = orb f s k ++ [itn f k s] := by
  unfold orb
  rw [List.range_succ, List.map_append]
  rfl
theorem orb_len (f : Nat → Nat) (s k : Nat) : (orb f s k).length = k := by simp [orb]
theorem orb_new {f : Nat → Nat} {s k j : Nat} (h : IsCyc f s k) (hj : j < k) : itn f j s ∉ orb f s j := by
  intro hm
  obtain ⟨i, hi, e⟩ := List.mem_map.mp hm
  have hi := List.mem_range.mp hi
  have h1 : itn f (k - j + i) s = s := by rw [itn_add, e, ← itn_add, show k - j + j = k by omega]; exact h.home
  exact h.away (k - j + i) (by omega) (by omega) h1
/-- a lot that one doesn't leave has all of a round, or nothing of it -/
theorem orb_out {f : Nat → Nat} {S : List Nat} {s k j : Nat} (hc : ∀ x ∈ S, f x ∈ S) (h : IsCyc f s k) (hj : j ≤ k) (hs : s ∉ S) : itn f j s ∉ S := by
  intro hm
  have key : ∀ i x, x ∈ S → itn f i x ∈ S := by
    intro i
    induction i with
    | zero => intro x hx; exact hx
    | succ i ih => intro x hx; exact hc _ (ih x hx)
  have := key (k - j) _ hm
  rw [← itn_add, show k - j + j = k by omega, h.home] at this
  exact hs this
theorem orb_closed {f : Nat → Nat} {s k : Nat} (h : IsCyc f s k) : ∀ x ∈ orb f s k, f x ∈ orb f s k := fun x hx => by
  obtain ⟨j, hj, rfl⟩ := List.mem_map.mp hx
  have hj := List.mem_range.mp hj
  by_cases c : j + 1 < k
  · exact List.mem_map.mpr ⟨j + 1, List.mem_range.mpr c, rfl⟩
  · have e : j + 1 = k := by omega
    refine List.mem_map.mpr ⟨0, List.mem_range.mpr h.k0, ?_⟩
    show s = itn f (j + 1) s
    rw [e, h.home]
/-- what is read at the places of a round -/
def metC (c : List Nat) (s k : Nat) : List Nat := (orb (lf c) s k).map fun x => c.getD x 0
theorem metC_succ (c : List Nat) (s k : Nat) : metC c s (k + 1) = metC c s k ++ [c.getD (itn (lf c) k s) 0] := by
  unfold metC
  rw [orb_succ, List.map_append]
  rfl
theorem metC_len (c : List Nat) (s k : Nat) : (metC c s k).length = k := by rw [metC, List.length_map, orb_len]
/-- the rings of all rounds of formers -/
structure RingsOf (c : List Nat) (Ls : List (List Nat)) : Prop where
  each : ∀ m ∈ Ls, ∃ s k, s < c.length ∧ IsCyc (lf c) s k ∧ IsLeast (metC c s k).reverse m
  all : ∀ x, x < c.length → ∃ s k m, m ∈ Ls ∧ s < c.length ∧ IsCyc (lf c) s k ∧ IsLeast (metC c s k).reverse m ∧ x ∈ orb (lf c) s k
  sum : (Ls.map List.length).sum = c.length
  few : Ls.length ≤ c.length
/-- those rounds that were gone along, from starts below i -/
structure RingsTo (c : List Nat) (i : Nat) (S : List Nat) (Ls : List (List Nat)) : Prop where
  nd : S.Nodup
  lt : ∀ x ∈ S, x < c.length
  cl : ∀ x ∈ S, lf c x ∈ S
  st : ∀ x, x < i → x ∈ S
  each : ∀ m ∈ Ls, ∃ s k, s < c.length ∧ IsCyc (lf c) s k ∧ IsLeast (metC c s k).reverse m
  all : ∀ x ∈ S, ∃ s k m, m ∈ Ls ∧ s < c.length ∧ IsCyc (lf c) s k ∧ IsLeast (metC c s k).reverse m ∧ x ∈ orb (lf c) s k
  sum : (Ls.map List.length).sum = S.length
  few : Ls.length ≤ i
theorem rings_start (c : List Nat) : RingsTo c 0 [] [] := ⟨by simp, by simp, by simp, fun x h => by omega, by simp, by simp, rfl, Nat.le_refl _⟩
theorem rings_old {c : List Nat} {i : Nat} {S : List Nat} {Ls : List (List Nat)} (h : RingsTo c i S Ls) (hi : i ∈ S) : RingsTo c (i + 1) S Ls :=
  ⟨h.nd, h.lt, h.cl, fun x hx => by
    by_cases e : x = i
    · rw [e]; exact hi
    · exact h.st x (by omega), h.each, h.all, h.sum, by have := h.few; omega⟩
theorem rings_new {c : List Nat} {i k : Nat} {S m : List Nat} {Ls : List (List Nat)} (hf : ∀ x, x < c.length → lf c x < c.length) (h : RingsTo c i S Ls) (hi : i < c.length) (hS : i ∉ S) (hk : IsCyc (lf c) i k) (hm : IsLeast (metC c i k).reverse m) : RingsTo c (i + 1) (S ++ orb (lf c) i k) (Ls ++ [m]) := by
  have hml : m.length = k := by
    obtain ⟨p, _, e, _⟩ := hm
    rw [e, rot_len, List.length_reverse, metC_len]
  refine ⟨?_, fun x hx => ?_, fun x hx => ?_, fun x hx => ?_, fun m' hm' => ?_, fun x hx => ?_, ?_, ?_⟩
  · rw [List.nodup_append]
    refine ⟨h.nd, ?_, fun a ha b hb e => ?_⟩
    · refine List.Pairwise.map (R := fun a b => a < b ∧ b < k) _ (fun a b hab z => ?_) ?_
      · exact orb_new hk hab.2 (List.mem_map.mpr ⟨a, List.mem_range.mpr hab.1, z⟩)
      · refine List.Pairwise.imp_of_mem (R := (· < ·)) (fun {a b} ha hb h => ⟨h, List.mem_range.mp hb⟩) List.pairwise_lt_range
    · subst e
      obtain ⟨j, hj, rfl⟩ := List.mem_map.mp hb
      exact orb_out h.cl hk (Nat.le_of_lt (List.mem_range.mp hj)) hS ha
  · rcases List.mem_append.mp hx with z | z
    · exact h.lt x z
    · obtain ⟨j, _, rfl⟩ := List.mem_map.mp z
      exact itn_lt hf hi j
  · rcases List.mem_append.mp hx with z | z
    · exact List.mem_append_left _ (h.cl x z)
    · exact List.mem_append_right _ (orb_closed hk x z)
  · by_cases e : x = i
    · rw [e]
      exact List.mem_append_right _ (List.mem_map.mpr ⟨0, List.mem_range.mpr hk.k0, rfl⟩)
    · exact List.mem_append_left _ (h.st x (by omega))
  · rcases List.mem_append.mp hm' with z | z
    · exact h.each m' z
    · rw [List.mem_singleton.mp z]
      exact ⟨i, k, hi, hk, hm⟩
  · rcases List.mem_append.mp hx with z | z
    · obtain ⟨s, k', m', h1, h2⟩ := h.all x z
      exact ⟨s, k', m', List.mem_append_left _ h1, h2⟩
    · exact ⟨i, k, m, by simp, hi, hk, hm, z⟩
  · rw [List.map_append, List.sum_append, h.sum, List.length_append, orb_len]
    simp [hml]
  · have := h.few
    rw [List.length_append, List.length_singleton]
    omega
theorem rings_end {c : List Nat} {S : List Nat} {Ls : List (List Nat)} (h : RingsTo c c.length S Ls) : RingsOf c Ls := by
  refine ⟨h.each, fun x hx => h.all x (h.st x hx), ?_, h.few⟩
  have h1 := few h.nd h.lt
  have h2 : c.length ≤ S.length := by
    have := nodup_le (L := List.range c.length) (S := S) List.nodup_range fun x hx => h.st x (List.mem_range.mp hx)
    rw [List.length_range] at this
    exact this
  rw [h.sum]
  omega
/-- the rings of a ring's column are all alike -/
theorem rings_col {r : List Nat} (h0 : 0 < r.length) {Ls : List (List Nat)} (h : RingsOf (col r) Ls) : ∃ k m, 0 < k ∧ k ≤ r.length ∧ Ls = List.replicate k m := by
  obtain ⟨d, d0, dn, hd, hdm⟩ := least_per h0
  have key : ∀ m ∈ Ls, IsLeast (rd r 0 d) m := fun m hm => by
    obtain ⟨s, k, hs, hk, hl⟩ := h.each m hm
    rw [col_len] at hs
    have ek : k = d := hk.unique ⟨d0, itn_home h0 hd hs, fun j j0 jd => itn_away h0 hd hdm hs j0 jd⟩
    subst ek
    have e : metC (col r) s k = metN r (oat r s) k k := by
      refine List.ext_getElem? fun j => ?_
      by_cases c : j < k
      · rw [metC, orb, List.map_map, List.getElem?_map, List.getElem?_range c, metN, List.getElem?_map, List.getElem?_range c]
        have := itn_letter h0 hd hs c
        show some ((col r).getD (itn (lf (col r)) j s) 0) = _
        rw [List.getD_eq_getElem?_getD, this]
        rfl
      · rw [List.getElem?_eq_none (by rw [metC_len]; omega), List.getElem?_eq_none (by rw [metN_len]; omega)]
    rw [e, metN_rev, root_rot h0 d0 hd] at hl
    exact least_rot (by rw [rd_len]; exact d0) hl
  have hne : Ls ≠ [] := fun z => by
    have := h.sum
    rw [z, col_len] at this
    simp at this
    omega
  obtain ⟨m, hm⟩ := List.exists_mem_of_ne_nil _ hne
  refine ⟨Ls.length, m, List.length_pos_iff.mpr hne, by have := h.few; rw [col_len] at this; exact this, ?_⟩
  rw [List.eq_replicate_iff]
  exact ⟨rfl, fun m' hm' => least_unique (key m' hm') (key m hm)⟩
end My
namespace My
open PySem L2 PyProof.Rows
theorem SeqAt.ix {K : PySem.W.Frag} {H : Hp} {s : Addr} {W : List Nat} {i : Int} {b : Nat} {Q : VK} (h : SeqAt H s W) (e : atI (iv W) i = some (.int (b : Int))) (q : Q (.int (b : Int)) H) : rIx K (.ref s) (.int i) H Q := by
  rcases h with h | h
  · exact .inl ⟨_, _, _, _, rfl, rfl, SqL.of h, e, q⟩
  · exact .inr (.inl ⟨_, _, _, _, rfl, rfl, SqT.of h, e, q⟩)
theorem TiesAt.at_ {H : Hp} {l : Addr} {ts : List (Nat × Nat)} (h : TiesAt H l ts) {x : Nat} {e : Nat × Nat} (hx : ts[x]? = some e) : ∃ xs p, H l = some (.lst xs) ∧ atI xs (x : Int) = some (.ref p) ∧ H p = some (.tup [.int (e.1 : Int), .int (e.2 : Int)]) := by
  obtain ⟨tas, h1, h2⟩ := h
  have hl := paired_len h2
  have hx2 := (List.getElem?_eq_some_iff.mp hx).1
  have e1 : tas[x]? = some (tas[x]'(by omega)) := List.getElem?_eq_getElem _
  obtain ⟨f, hf, hp⟩ := paired_get h2 e1
  rw [hx] at hf
  cases hf
  refine ⟨_, _, h1, atI_nat ?_, hp⟩
  rw [List.getElem?_map, e1]
  rfl
theorem atI_back {α : Type} {xs : List α} {v : α} (h : xs[xs.length - 1]? = some v) : atI xs (-1) = some v := by
  have h0 := (List.getElem?_eq_some_iff.mp h).1
  unfold atI ixN
  rw [if_neg (by decide), if_pos (by omega)]
  show xs[((-1 : Int) + (xs.length : Int)).toNat]? = _
  rw [show ((-1 : Int) + (xs.length : Int)).toNat = xs.length - 1 by omega]
  exact h
theorem iv_back {L : List Nat} {b : Nat} (h : L[L.length - 1]? = some b) : atI (iv L) (-1) = some (.int (b : Int)) := by
  refine atI_back ?_
  rw [List.length_map, List.getElem?_map, h]
  rfl
/-! ### walks and rounds -/
def LenO (o : Option (List (Option Int))) (m : Int) : Prop := ∀ os, o = some os → (os.length : Int) ≤ m
structure Chain (ts : List (Nat × Nat)) (R : List Nat) : Prop where
  n0 : 0 < R.length
  num : ∀ x ∈ R, x < ts.length
  on : ∀ i, i + 1 < R.length → ∃ x y e f, R[i]? = some x ∧ R[i + 1]? = some y ∧ ts[x]? = some e ∧ ts[y]? = some f ∧ f.1 = e.2
structure Tour (ts : List (Nat × Nat)) (R : List Nat) : Prop where
  ch : Chain ts R
  n1 : R.length ≤ 1000
  back : ∃ x y e f, R[0]? = some x ∧ R[R.length - 1]? = some y ∧ ts[x]? = some e ∧ ts[y]? = some f ∧ e.1 = f.2
theorem iteNbF {x : Bool} {A B : Prop} (h : x = false) (a : A) : if (!x) = true then A else B := by
  rw [h]
  exact iteT a
theorem nums_of {n : Nat} : ∀ {os : List (Option Int)}, os.all (inR n) = true → ∃ R : List Nat, os = nz R ∧ ∀ x ∈ R, x < n
  | [], _ => ⟨[], rfl, by simp⟩
  | o :: r, h => by
    rw [List.all_cons, Bool.and_eq_true] at h
    obtain ⟨R, rfl, hR⟩ := nums_of h.2
    cases o with
    | none => exact absurd h.1 (by unfold inR; simp)
    | some i =>
      have h1 : (decide (0 ≤ i) && decide (i < (n : Int))) = true := h.1
      rw [Bool.and_eq_true, decide_eq_true_iff, decide_eq_true_iff] at h1
      refine ⟨i.toNat :: R, ?_, fun x hx => ?_⟩
      · show some i :: nz R = some ((i.toNat : Nat) : Int) :: nz R
        rw [Int.toNat_of_nonneg h1.1]
      · rcases List.mem_cons.mp hx with z | z
        · omega
        · exact hR x z
theorem nz_inj : ∀ {A B : List Nat}, nz A = nz B → A = B
  | [], [], _ => rfl
  | [], _ :: _, h => by cases h
  | _ :: _, [], h => by cases h
  | a :: A, b :: B, h => by
    obtain ⟨h1, h2⟩ := List.cons.inj h
    have h3 : (a : Int) = (b : Int) := Option.some.inj h1
    rw [nz_inj h2, show a = b by omega]
theorem num_iv {H : Hp} : ∀ {xs : List V} {R : List Nat}, Paired (Num H) xs (nz R) → xs = iv R
  | [], [], _ => rfl
  | _ :: _, [], h => by cases h
  | [], _ :: _, h => by cases h
  | x :: xs, n :: R, h => by
    cases h with
    | cons h1 h2 =>
      rw [h1.some_is, num_iv h2]
      rfl
theorem Val.list {H : Hp} {v : V} {os : List (Option Int)} (h : Val H v (some os)) : ∃ s xs, v = .ref s ∧ (H s = some (.lst xs) ∨ H s = some (.tup xs)) ∧ Paired (Num H) xs os := by
  cases h with
  | lst h p => exact ⟨_, _, rfl, .inl h, p⟩
  | tup h p => exact ⟨_, _, rfl, .inr h, p⟩
theorem Val.seqAt {H : Hp} {v : V} {R : List Nat} (h : Val H v (some (nz R))) : ∃ s, v = .ref s ∧ SeqAt H s R := by
  obtain ⟨s, xs, rfl, h1, p⟩ := h.list
  rw [num_iv p] at h1
  exact ⟨s, rfl, h1⟩
def OnAt (ts : List (Nat × Nat)) (R : List Nat) (i : Nat) : Prop := ∃ x y e f, R[i]? = some x ∧ R[i + 1]? = some y ∧ ts[x]? = some e ∧ ts[y]? = some f ∧ f.1 = e.2
def IsWalk (ts : List (Nat × Nat)) (o : Option (List (Option Int))) : Prop := ∃ R, o = some (nz R) ∧ Chain ts R
def BackAt (ts : List (Nat × Nat)) (R : List Nat) : Prop := ∃ x y e f, R[0]? = some x ∧ R[R.length - 1]? = some y ∧ ts[x]? = some e ∧ ts[y]? = some f ∧ e.1 = f.2
def IsRound (ts : List (Nat × Nat)) (o : Option (List (Option Int))) : Prop := ∃ R, o = some (nz R) ∧ Chain ts R ∧ BackAt ts R
theorem walk_nz {ts : List (Nat × Nat)} {R : List Nat} : IsWalk ts (some (nz R)) ↔ Chain ts R := ⟨fun ⟨R', e, h⟩ => by rw [nz_inj (Option.some.inj e)]; exact h, fun h => ⟨R, rfl, h⟩⟩
theorem round_nz {ts : List (Nat × Nat)} {R : List Nat} : IsRound ts (some (nz R)) ↔ Chain ts R ∧ BackAt ts R := ⟨fun ⟨R', e, h⟩ => by rw [nz_inj (Option.some.inj e)]; exact h, fun h => ⟨R, rfl, h⟩⟩
theorem ends_get {ts : List (Nat × Nat)} {R : List Nat} (h : ∀ x ∈ R, x < ts.length) {i : Nat} (hi : i < R.length) : ∃ x e, R[i]? = some x ∧ ts[x]? = some e := by
  have e1 : R[i]? = some R[i] := List.getElem?_eq_getElem hi
  exact ⟨_, _, e1, List.getElem?_eq_getElem (h _ (List.getElem_mem hi))⟩
theorem len_nz (R : List Nat) : (nz R).length = R.length := List.length_map ..
theorem some_nodup {α : Type} [DecidableEq α] : ∀ xs : List α, ∃ ys : List α, ys.Nodup ∧ ∀ x, x ∈ ys ↔ x ∈ xs
  | [] => ⟨[], List.nodup_nil, fun _ => Iff.rfl⟩
  | a :: r => by
    obtain ⟨ys, hn, hm⟩ := some_nodup r
    by_cases c : a ∈ r
    · refine ⟨ys, hn, fun x => ?_⟩
      rw [hm, List.mem_cons]
      exact ⟨.inr, fun h => h.elim (fun z => z ▸ c) id⟩
    · refine ⟨a :: ys, List.nodup_cons.mpr ⟨fun z => c ((hm a).mp z), hn⟩, fun x => ?_⟩
      rw [List.mem_cons, List.mem_cons, hm]
theorem all_there {R : List Nat} {n k : Nat} (h : ∀ x ∈ R, x < n) (hk : ∀ D : List Int, D.Nodup → (∀ z, z ∈ D ↔ z ∈ R.map fun m : Nat => (m : Int)) → D.length = k) : k = n ↔ ∀ x, x < n → x ∈ R := by
  obtain ⟨E, hn, hm⟩ := some_nodup R
  have e1 : E.length = k := by
    have := hk (E.map fun m : Nat => (m : Int)) (List.Pairwise.map _ (fun a b hab z => hab (by omega)) hn) fun z => by
      rw [List.mem_map, List.mem_map]
      exact ⟨fun ⟨m, h1, h2⟩ => ⟨m, (hm m).mp h1, h2⟩, fun ⟨m, h1, h2⟩ => ⟨m, (hm m).mpr h1, h2⟩⟩
    rw [List.length_map] at this
    exact this
  have h2 : E.length ≤ n := few hn fun x hx => h x ((hm x).mp hx)
  constructor
  · intro e x hx
    refine Classical.byContradiction fun no => ?_
    have h3 := few (List.nodup_cons.mpr ⟨fun z => no ((hm x).mp z), hn⟩) (N := n) fun y hy => by
      rcases List.mem_cons.mp hy with z | z
      · rw [z]; exact hx
      · exact h y ((hm y).mp z)
    rw [List.length_cons] at h3
    omega
  · intro hall
    have h3 := nodup_le (L := List.range n) (S := E) List.nodup_range fun x hx => (hm x).mpr (hall x (List.mem_range.mp hx))
    rw [List.length_range] at h3
    omega
section
variable {P : Program} {w : World} {K : PySem.W.Frag} {mg : Str → Option Value} {base : Heap} {C CPE cM : Addr} {XA : Str → Addr} {TL : List (Addr × Str)}
def sp_go_on (_ : PySem.W.Frag) (C : Addr) (XA : Str → Addr) : Sp := fun vs H Q _ => ∃ a N ts v o, ∃ m : Int, vs = [.ref a, v, .int m] ∧ WebAt C a N ts H ∧ Val H v o ∧ (∀ os, o = some os → os.length ≤ 1000) ∧ ∀ b H', (b = true ↔ IsWalk ts o ∧ LenO o m) → Same H H' → Q (.bl b) H'
theorem ok_go_on (D : Def K mg "_go_on" s_go_on ["web", "value", "longest"]) (B : Bs mg) (Glb : Glo mg) (WK : WebK K mg C) (EXInvalidWeb : ExcF P w K mg base "value" "InvalidWeb" (XA "InvalidWeb")) (EXInvalidPlaces : ExcF P w K mg base "value" "InvalidPlaces" (XA "InvalidPlaces")) (EXInvalidTies : ExcF P w K mg base "value" "InvalidTies" (XA "InvalidTies")) (EXInvalidPlace : ExcF P w K mg base "value" "InvalidPlace" (XA "InvalidPlace")) (EXInvalidWalk : ExcF P w K mg base "value" "InvalidWalk" (XA "InvalidWalk")) (EXInvalidRound : ExcF P w K mg base "value" "InvalidRound" (XA "InvalidRound")) (EXInvalidWithout : ExcF P w K mg base "value" "InvalidWithout" (XA "InvalidWithout")) (EXInvalidPart : ExcF P w K mg base "value" "InvalidPart" (XA "InvalidPart")) (PErr : mg "PieceError" = some (.ref CPE)) (EXM : ExM K XA CPE)
    (his_listed : Good P w K mg base "is_listed" sis_listed ["value"] 1 (spis_listed K C XA))
    (his_between : Good P w K mg base "is_between" sis_between ["value", "least", "most"] 2 (spis_between K C XA))
    (hare_numbers : Good P w K mg base "are_numbers" sare_numbers ["web", "value"] 4 (spare_numbers K C XA))
    (hWeb_ties : GoodM P w K mg base C "ties" "Web.ties" sWeb_ties ["self"] 1 (spWeb_ties K C XA)) :
    Good P w K mg base "_go_on" s_go_on ["web", "value", "longest"] 5 (sp_go_on K C XA) := by
  refine D.good fun f fd F => ?_
  obtain ⟨fis_listed, dis_listed, Ois_listed, mis_listed, kis_listed, bis_listed, Fis_listed⟩ := his_listed
  obtain ⟨fis_between, dis_between, Ois_between, mis_between, kis_between, bis_between, Fis_between⟩ := his_between
  obtain ⟨fare_numbers, dare_numbers, Oare_numbers, mare_numbers, kare_numbers, bare_numbers, Fare_numbers⟩ := hare_numbers
  obtain ⟨fWeb_ties, dWeb_ties, OWeb_ties, tWeb_ties, bWeb_ties, FWeb_ties⟩ := hWeb_ties
  refine F.ok sc_go_on (fun vs H Q E h => ?_) (fun cdv A outer s H vs Q E hr h => ?_)
  · obtain ⟨a, N, ts, v, o, m, rfl, hw, hv, hm, q⟩ := h
    first | rfl | (rcases h with ⟨_, _, rfl, _⟩ | ⟨_, rfl, _⟩ <;> rfl)
  obtain ⟨a, N, ts, v, o, m, rfl, hw, hv, hm, q⟩ := h
  refine ⟨_, (pss_cons (ps_if (PW.pt (pw_or (pt_not (pt_val (pe_call Ois_listed (hr.mono (by decide)) rfl mis_listed kis_listed bis_listed .nil pass0 (pa_cons (pv 1) pa_nil)))) (pw_or (pt_not (pt_val (pe_call Ois_between (hr.mono (by decide)) rfl mis_between kis_between bis_between .nil pass0 (pa_cons (pe_callB call_len_seq (by rfl) B.len (by decide +kernel) (pa_cons (pv 1) pa_nil)) (pa_cons pe_int (pa_cons (pv 2) pa_nil)))))) (pw_or1 (pt_not (pt_val (pe_call Oare_numbers hr rfl mare_numbers kare_numbers bare_numbers .nil pass0 (pa_cons (pv 0) (pa_cons (pv 1) pa_nil)))))))))
    (pss_one (ps_ret pe_bl)) pss_nil)
  (pss_cons (ps_set (i := 3) sc_go_on.nd rfl (by first | exact Or.inl rfl | exact Or.inr rfl) (pe_meth0 (pv 0) WK.cl tWeb_ties OWeb_ties (hr.mono (by decide)) bWeb_ties .nil pass0))
  (pss_cons (ps_for PassesOwn.never rfl (pi_range2 (by rfl) B.range (pa_cons pe_int (pa_cons (pe_callB call_len_seq (by rfl) B.len (by decide +kernel) (pa_cons (pv 1) pa_nil)) pa_nil))) (pg_name (i := 4) sc_go_on.nd rfl (by first | exact Or.inl rfl | exact Or.inr rfl))
    (pss_one (ps_if (pt_cmpR op_ne (pe_ix ix_tup (pe_ix ix_list (pv 3) (pe_ix ix_seq (pv 1) (pv 4) (fun _ _ => rfl)) (fun _ _ => rfl)) pe_int (fun _ _ => rfl)) (pe_ix ix_tup (pe_ix ix_list (pv 3) (pe_ix ix_seq (pv 1) (pe_op op_sub (pv 4) pe_int) (fun _ _ => rfl)) (fun _ _ => rfl)) pe_int (fun _ _ => rfl)) (nomark _))
    (pss_one (ps_ret pe_bl)) pss_nil)))
  (pss_one (ps_ret pe_bl))))), ?_⟩
  refine ⟨_, rfl, v, o, rfl, hv, fun H1 hS1 => ⟨_, rfl, ?_⟩⟩
  have no : ∀ H', ¬ (IsWalk ts o ∧ LenO o m) → Same H H' → Q (.bl false) H' := fun H' h => q false H' ⟨(fun z => nomatch z), fun z => absurd z h⟩
  cases o with
  | none => exact iteT (no H1 (fun ⟨⟨R, e, _⟩, _⟩ => nomatch e) hS1)
  | some os =>
    refine iteF ?_
    have hm2 := hm os rfl
    have hv1 := hv.same hS1
    obtain ⟨s, xs, rfl, hx, hP⟩ := hv1.list
    have hxl := paired_len hP
    refine ⟨_, rfl, s, xs, rfl, hx.imp SqL.of SqT.of, _, rfl, .int (xs.length : Int), some (xs.length : Int), 1, m, rfl, .int _, _, rfl, ?_⟩
    by_cases c0 : xs.length = 0
    · refine iteNbF (by show (decide ((1 : Int) ≤ (xs.length : Int)) && decide ((xs.length : Int) ≤ m)) = false; rw [decide_eq_false (show ¬ (1 : Int) ≤ (xs.length : Int) by omega)]; rfl) (no H1 (fun h => ?_) hS1)
      obtain ⟨⟨R, e, hc⟩, _⟩ := h
      have := hc.n0
      have e2 := congrArg List.length (Option.some.inj e)
      rw [len_nz] at e2
      omega
    by_cases c9 : (xs.length : Int) ≤ m
    case neg =>
      refine iteNbF (by show (decide ((1 : Int) ≤ (xs.length : Int)) && decide ((xs.length : Int) ≤ m)) = false; rw [decide_eq_false c9, Bool.and_false]) (no H1 (fun h => c9 ?_) hS1)
      have := h.2 os rfl
      rw [hxl]
      exact this
    have hm1 : (os.length : Int) ≤ m := by rw [← hxl]; exact c9
    refine iteNb (btw (by omega) (by omega)) ?_
    refine ⟨_, rfl, _, rfl, a, N, ts, .ref s, some os, rfl, hw.same hS1, hv1, fun H2 hS2 => ⟨_, rfl, ?_⟩⟩
    have hS12 := hS1.trans hS2
    cases c1 : NumS ts.length (some os) with
    | false =>
      refine iteT (no H2 (fun h => ?_) hS12)
      obtain ⟨⟨R, e, hc⟩, _⟩ := h
      cases e
      have : (nz R).all (inR ts.length) = true := by
        rw [List.all_eq_true]
        intro o ho
        obtain ⟨n, hn, rfl⟩ := List.mem_map.mp ho
        exact inR_lt (hc.num n hn)
      rw [show NumS ts.length (some (nz R)) = (nz R).all (inR ts.length) from rfl, this] at c1
      cases c1
    | true =>
      refine iteF ?_
      obtain ⟨R, rfl, hR⟩ := nums_of (n := ts.length) (os := os) c1
      obtain ⟨s', e', hs1⟩ := hv1.seqAt
      cases e'
      rw [len_nz] at hxl hm1 hm2
      have hw2 := hw.same hS12
      obtain ⟨dx, tl, fl, ol, g1, _⟩ := id hw2
      refine ⟨_, rfl, a, dx, _, rfl, g1, wf_no _ _ _ _ (by decide +kernel) (by decide +kernel) (by decide +kernel) (by decide +kernel), a, N, ts, rfl, hw2, fun H3 l nl hS3 hT => ?_⟩
      have hs3 := (hs1.same hS2).same hS3
      have hS13 := hS12.trans hS3
      refine ⟨_, rfl, s, _, rfl, hs3.seq, _, _, rfl, ⟨by omega, by omega, by rw [List.length_map]; omega, by rw [List.length_map]; omega⟩, ?_⟩
      rw [List.length_map, show ((R.length : Int) - 1).toNat = R.length - 1 by omega]
      refine for_range (lo := 1) (n := R.length - 1) (fun i σ H' => H' = H3 ∧ (∀ j, j < i → OnAt ts R j) ∧ ∃ v, σ = [some (.ref a), some (.ref s), some (.int m), some (.ref l), v]) ⟨rfl, fun j h => by omega, none, rfl⟩ ?_ ?_
      · rintro i σ H4 hi ⟨rfl, hon, v, rfl⟩
        rw [show (1 : Int) + (i : Int) = ((i + 1 : Nat) : Int) by omega]
        obtain ⟨x, e, e1, e3⟩ := ends_get hR (i := i) (by omega)
        obtain ⟨y, f, e2, e4⟩ := ends_get hR (i := i + 1) (by omega)
        obtain ⟨xs, p, k1, k2, k3⟩ := hT.at_ e4
        obtain ⟨xs', p', k1', k2', k3'⟩ := hT.at_ e3
        refine ⟨_, rfl, _, rfl, _, rfl, hs3.ix (iv_at e2) ⟨_, _, _, _, rfl, rfl, SqL.of k1, k2, _, _, _, _, rfl, rfl, SqT.of k3, rfl, ?_⟩⟩
        refine ⟨_, rfl, _, rfl, _, rfl, _, _, rfl, rfl, hs3.ix (by rw [show ((i + 1 : Nat) : Int) - 1 = (i : Int) by omega]; exact iv_at e1) ⟨_, _, _, _, rfl, rfl, SqL.of k1', k2', _, _, _, _, rfl, rfl, SqT.of k3', rfl, rfl, _, rfl, ?_⟩⟩
        by_cases c2 : f.1 = e.2
        · refine iteNot' (by rw [c2]) ⟨rfl, fun j hj => ?_, _, rfl⟩
          by_cases z : j = i
          · subst z; exact ⟨x, y, e, f, e1, e2, e3, e4, c2⟩
          · exact hon j (by omega)
        · refine iteNot (fun z => c2 (by have := int_eq.mp z; omega)) (no H4 (fun h => c2 ?_) hS13)
          obtain ⟨x', y', e', f', r1, r2, r3, r4, r5⟩ := (walk_nz.mp h.1).on i (by omega)
          rw [e1] at r1
          rw [e2] at r2
          cases r1
          cases r2
          rw [e3] at r3
          rw [e4] at r4
          cases r3
          cases r4
          exact r5
      · rintro σ H4 ⟨rfl, hon, v, rfl⟩
        exact q true H4 ⟨fun _ => ⟨walk_nz.mpr ⟨by omega, hR, fun i hi => hon i (by omega)⟩, fun os e => by cases e; rw [len_nz]; exact hm1⟩, fun _ => rfl⟩ hS13
def spis_walk (_ : PySem.W.Frag) (C : Addr) (XA : Str → Addr) : Sp := fun vs H Q E => ∃ x v, vs = [x, v] ∧ ((∃ d, Vd H x d ∧ Rz E (XA "InvalidWeb") x H) ∨ ∃ a N ts o, x = .ref a ∧ WebAt C a N ts H ∧ Val H v o ∧ (∀ os, o = some os → os.length ≤ 1000) ∧ ∀ b H', (b = true ↔ IsWalk ts o ∧ LenO o 400) → Same H H' → Q (.bl b) H')
theorem okis_walk (D : Def K mg "is_walk" sis_walk ["web", "value"]) (B : Bs mg) (Glb : Glo mg) (WK : WebK K mg C) (EXInvalidWeb : ExcF P w K mg base "value" "InvalidWeb" (XA "InvalidWeb")) (EXInvalidPlaces : ExcF P w K mg base "value" "InvalidPlaces" (XA "InvalidPlaces")) (EXInvalidTies : ExcF P w K mg base "value" "InvalidTies" (XA "InvalidTies")) (EXInvalidPlace : ExcF P w K mg base "value" "InvalidPlace" (XA "InvalidPlace")) (EXInvalidWalk : ExcF P w K mg base "value" "InvalidWalk" (XA "InvalidWalk")) (EXInvalidRound : ExcF P w K mg base "value" "InvalidRound" (XA "InvalidRound")) (EXInvalidWithout : ExcF P w K mg base "value" "InvalidWithout" (XA "InvalidWithout")) (EXInvalidPart : ExcF P w K mg base "value" "InvalidPart" (XA "InvalidPart")) (PErr : mg "PieceError" = some (.ref CPE)) (EXM : ExM K XA CPE)
    (hneed_web : GoodX P w K mg base "need_web" sneed_web ["web"] 3 (spneed_web K C XA))
    (h_go_on : Good P w K mg base "_go_on" s_go_on ["web", "value", "longest"] 5 (sp_go_on K C XA)) :
    GoodX P w K mg base "is_walk" sis_walk ["web", "value"] 6 (spis_walk K C XA) := by
  refine D.goodX fun f fd F => ?_
  obtain ⟨fneed_web, dneed_web, Oneed_web, mneed_web, kneed_web, bneed_web, Fneed_web⟩ := hneed_web
  obtain ⟨f_go_on, d_go_on, O_go_on, m_go_on, k_go_on, b_go_on, F_go_on⟩ := h_go_on
  refine F.okX scis_walk (fun vs H Q E h => ?_) (fun cdv A outer s H vs Q E hr h => ?_)
  · obtain ⟨x, v, rfl, h⟩ := h
    first | rfl | (rcases h with ⟨_, _, rfl, _⟩ | ⟨_, rfl, _⟩ <;> rfl)
  obtain ⟨x, v, rfl, h⟩ := h
  refine ⟨_, (pss_cons (ps_expr (pe_callS Oneed_web (hr.mono (by decide)) rfl mneed_web kneed_web bneed_web (fun σ => passAt (takes_of rfl rfl rfl rfl) σ) (pa_cons (pv 0) pa_nil)))
  (pss_one (ps_ret (pe_call O_go_on hr rfl m_go_on k_go_on b_go_on .nil pass0 (pa_cons (pv 0) (pa_cons (pv 1) (pa_cons (pe_globI Glb.LONGEST_WALK) pa_nil))))))), ?_⟩
  rcases h with ⟨d, hd, q⟩ | ⟨a, N, ts, o, rfl, hw, hv, hm, q⟩
  · exact ⟨_, rfl, x, rfl, .inr ⟨d, hd, q⟩⟩
  · exact ⟨_, rfl, .ref a, rfl, .inl ⟨a, N, ts, rfl, hw, _, rfl, _, rfl, a, N, ts, v, o, 400, rfl, hw, hv, hm, q⟩⟩
def spneed_walk (_ : PySem.W.Frag) (C : Addr) (XA : Str → Addr) : Sp := fun vs H Q E => ∃ a N ts v o, vs = [.ref a, v] ∧ WebAt C a N ts H ∧ Val H v o ∧ (∀ os, o = some os → os.length ≤ 1000) ∧ (IsWalk ts o ∧ LenO o 400 → ∀ H', Same H H' → Q .non H') ∧ (¬ (IsWalk ts o ∧ LenO o 400) → Rz E (XA "InvalidWalk") v H)
theorem okneed_walk (D : Def K mg "need_walk" sneed_walk ["web", "walk"]) (B : Bs mg) (Glb : Glo mg) (WK : WebK K mg C) (EXInvalidWeb : ExcF P w K mg base "value" "InvalidWeb" (XA "InvalidWeb")) (EXInvalidPlaces : ExcF P w K mg base "value" "InvalidPlaces" (XA "InvalidPlaces")) (EXInvalidTies : ExcF P w K mg base "value" "InvalidTies" (XA "InvalidTies")) (EXInvalidPlace : ExcF P w K mg base "value" "InvalidPlace" (XA "InvalidPlace")) (EXInvalidWalk : ExcF P w K mg base "value" "InvalidWalk" (XA "InvalidWalk")) (EXInvalidRound : ExcF P w K mg base "value" "InvalidRound" (XA "InvalidRound")) (EXInvalidWithout : ExcF P w K mg base "value" "InvalidWithout" (XA "InvalidWithout")) (EXInvalidPart : ExcF P w K mg base "value" "InvalidPart" (XA "InvalidPart")) (PErr : mg "PieceError" = some (.ref CPE)) (EXM : ExM K XA CPE)
    (his_walk : GoodX P w K mg base "is_walk" sis_walk ["web", "value"] 6 (spis_walk K C XA)) :
    GoodX P w K mg base "need_walk" sneed_walk ["web", "walk"] 7 (spneed_walk K C XA) := by
  refine D.goodX fun f fd F => ?_
  obtain ⟨fis_walk, dis_walk, Ois_walk, mis_walk, kis_walk, bis_walk, Fis_walk⟩ := his_walk
  refine F.okX scneed_walk (fun vs H Q E h => ?_) (fun cdv A outer s H vs Q E hr h => ?_)
  · obtain ⟨a, N, ts, v, o, rfl, hw, hv, hm, q, qE⟩ := h
    first | rfl | (rcases h with ⟨_, _, rfl, _⟩ | ⟨_, rfl, _⟩ <;> rfl)
  obtain ⟨a, N, ts, v, o, rfl, hw, hv, hm, q, qE⟩ := h
  refine ⟨_, (pss_one (ps_if (pt_not (pt_val (pe_callS Ois_walk hr rfl mis_walk kis_walk bis_walk (fun σ => passAt (takes_of rfl rfl rfl rfl) σ) (pa_cons (pv 0) (pa_cons (pv 1) pa_nil)))))
    (pss_one (ps_raise rfl (takes_of rfl rfl rfl rfl) (pmk_fld EXInvalidWalk (hr.mono (by decide)) (by rfl) (pa_cons (pv 1) pa_nil)))) pss_nil)), ?_⟩
  refine ⟨_, rfl, _, rfl, .ref a, v, rfl, .inr ⟨a, N, ts, o, rfl, hw, hv, hm, fun b H1 hb hS1 => ⟨_, rfl, ?_⟩⟩⟩
  cases b with
  | true => exact iteF (q (hb.mp rfl) H1 hS1)
  | false => exact iteT ⟨_, rfl, (qE (fun z => nomatch hb.mpr z)).go hS1⟩
def spis_round (_ : PySem.W.Frag) (C : Addr) (XA : Str → Addr) : Sp := fun vs H Q E => ∃ x v, vs = [x, v] ∧ ((∃ d, Vd H x d ∧ Rz E (XA "InvalidWeb") x H) ∨ ∃ a N ts o, x = .ref a ∧ WebAt C a N ts H ∧ Val H v o ∧ (∀ os, o = some os → os.length ≤ 1000) ∧ ∀ b H', (b = true ↔ IsRound ts o) → Same H H' → Q (.bl b) H')
theorem okis_round (D : Def K mg "is_round" sis_round ["web", "value"]) (B : Bs mg) (Glb : Glo mg) (WK : WebK K mg C) (EXInvalidWeb : ExcF P w K mg base "value" "InvalidWeb" (XA "InvalidWeb")) (EXInvalidPlaces : ExcF P w K mg base "value" "InvalidPlaces" (XA "InvalidPlaces")) (EXInvalidTies : ExcF P w K mg base "value" "InvalidTies" (XA "InvalidTies")) (EXInvalidPlace : ExcF P w K mg base "value" "InvalidPlace" (XA "InvalidPlace")) (EXInvalidWalk : ExcF P w K mg base "value" "InvalidWalk" (XA "InvalidWalk")) (EXInvalidRound : ExcF P w K mg base "value" "InvalidRound" (XA "InvalidRound")) (EXInvalidWithout : ExcF P w K mg base "value" "InvalidWithout" (XA "InvalidWithout")) (EXInvalidPart : ExcF P w K mg base "value" "InvalidPart" (XA "InvalidPart")) (PErr : mg "PieceError" = some (.ref CPE)) (EXM : ExM K XA CPE)
    (hneed_web : GoodX P w K mg base "need_web" sneed_web ["web"] 3 (spneed_web K C XA))
    (h_go_on : Good P w K mg base "_go_on" s_go_on ["web", "value", "longest"] 5 (sp_go_on K C XA))
    (hWeb_ties : GoodM P w K mg base C "ties" "Web.ties" sWeb_ties ["self"] 1 (spWeb_ties K C XA)) :
    GoodX P w K mg base "is_round" sis_round ["web", "value"] 6 (spis_round K C XA) := by
  refine D.goodX fun f fd F => ?_
  obtain ⟨fneed_web, dneed_web, Oneed_web, mneed_web, kneed_web, bneed_web, Fneed_web⟩ := hneed_web
  obtain ⟨f_go_on, d_go_on, O_go_on, m_go_on, k_go_on, b_go_on, F_go_on⟩ := h_go_on
  obtain ⟨fWeb_ties, dWeb_ties, OWeb_ties, tWeb_ties, bWeb_ties, FWeb_ties⟩ := hWeb_ties
  refine F.okX scis_round (fun vs H Q E h => ?_) (fun cdv A outer s H vs Q E hr h => ?_)
  · obtain ⟨x, v, rfl, h⟩ := h
    first | rfl | (rcases h with ⟨_, _, rfl, _⟩ | ⟨_, rfl, _⟩ <;> rfl)
  obtain ⟨x, v, rfl, h⟩ := h
  refine ⟨_, (pss_cons (ps_expr (pe_callS Oneed_web (hr.mono (by decide)) rfl mneed_web kneed_web bneed_web (fun σ => passAt (takes_of rfl rfl rfl rfl) σ) (pa_cons (pv 0) pa_nil)))
  (pss_cons (ps_if (pt_not (pt_val (pe_call O_go_on hr rfl m_go_on k_go_on b_go_on .nil pass0 (pa_cons (pv 0) (pa_cons (pv 1) (pa_cons (pe_globI Glb.LONGEST_ROUND) pa_nil))))))
    (pss_one (ps_ret pe_bl)) pss_nil)
  (pss_cons (ps_set (i := 2) scis_round.nd rfl (by first | exact Or.inl rfl | exact Or.inr rfl) (pe_meth0 (pv 0) WK.cl tWeb_ties OWeb_ties (hr.mono (by decide)) bWeb_ties .nil pass0))
  (pss_one (ps_ret (pe_cmpR op_eq (pe_ix ix_tup (pe_ix ix_list (pv 2) (pe_ix ix_seq (pv 1) pe_int (fun _ _ => rfl)) (fun _ _ => rfl)) pe_int (fun _ _ => rfl)) (pe_ix ix_tup (pe_ix ix_list (pv 2) (pe_ix ix_seq (pv 1) (pe_un un_neg pe_int) (fun _ _ => rfl)) (fun _ _ => rfl)) pe_int (fun _ _ => rfl)) (nomark _))))))), ?_⟩
  rcases h with ⟨d, hd, q⟩ | ⟨a, N, ts, o, rfl, hw, hv, hm, q⟩
  · exact ⟨_, rfl, x, rfl, .inr ⟨d, hd, q⟩⟩
  refine ⟨_, rfl, .ref a, rfl, .inl ⟨a, N, ts, rfl, hw, ?_⟩⟩
  have lenO : LenO o 200000 := fun os e => by have := hm os e; omega
  refine ⟨_, rfl, _, rfl, a, N, ts, v, o, 200000, rfl, hw, hv, hm, fun b H1 hb hS1 => ⟨_, rfl, ?_⟩⟩
  cases b with
  | false =>
    refine iteT (q false H1 ⟨(fun z => nomatch z), fun ⟨R, e, h1, h2⟩ => hb.mpr ⟨⟨R, e, h1⟩, lenO⟩⟩ hS1)
  | true =>
    refine iteF ?_
    obtain ⟨⟨R, rfl, hc⟩, _⟩ := hb.mp rfl
    have h0 := hc.n0
    obtain ⟨s, rfl, hs⟩ := (hv.same hS1).seqAt
    have hw2 := hw.same hS1
    obtain ⟨dx, tl, fl, ol, g1, _⟩ := id hw2
    refine ⟨_, rfl, a, dx, _, rfl, g1, wf_no _ _ _ _ (by decide +kernel) (by decide +kernel) (by decide +kernel) (by decide +kernel), a, N, ts, rfl, hw2, fun H3 l nl hS3 hT => ?_⟩
    have hs3 := hs.same hS3
    obtain ⟨x, e, e1, e3⟩ := ends_get hc.num (i := 0) (by omega)
    obtain ⟨y, f, e2, e4⟩ := ends_get hc.num (i := R.length - 1) (by omega)
    obtain ⟨xs, p, k1, k2, k3⟩ := hT.at_ e3
    obtain ⟨xs', p', k1', k2', k3'⟩ := hT.at_ e4
    refine ⟨_, rfl, _, rfl, hs3.ix (iv_at (j := 0) e1) ⟨_, _, _, _, rfl, rfl, SqL.of k1, k2, _, _, _, _, rfl, rfl, SqT.of k3, rfl, ?_⟩⟩
    refine ⟨_, rfl, _, rfl, _, rfl, hs3.ix (b := y) (iv_back e2) ⟨_, _, _, _, rfl, rfl, SqL.of k1', k2', _, _, _, _, rfl, rfl, SqT.of k3', rfl, rfl, ?_⟩⟩
    refine q _ H3 ?_ (hS1.trans hS3)
    rw [round_nz, decide_eq_true_iff, int_eq]
    constructor
    · exact fun z => ⟨hc, x, y, e, f, e1, e2, e3, e4, by omega⟩
    · rintro ⟨_, x', y', e', f', r1, r2, r3, r4, r5⟩
      rw [e1] at r1
      rw [e2] at r2
      cases r1
      cases r2
      rw [e3] at r3
      rw [e4] at r4
      cases r3
      cases r4
      omega
def spneed_tour (_ : PySem.W.Frag) (C : Addr) (XA : Str → Addr) : Sp := fun vs H Q E => ∃ a N ts v o, vs = [.ref a, v] ∧ WebAt C a N ts H ∧ Val H v o ∧ (∀ os, o = some os → os.length ≤ 1000) ∧ (IsRound ts o → ∀ H', Same H H' → Q .non H') ∧ (¬ IsRound ts o → Rz E (XA "InvalidRound") v H)
theorem okneed_tour (D : Def K mg "need_tour" sneed_tour ["web", "tour"]) (B : Bs mg) (Glb : Glo mg) (WK : WebK K mg C) (EXInvalidWeb : ExcF P w K mg base "value" "InvalidWeb" (XA "InvalidWeb")) (EXInvalidPlaces : ExcF P w K mg base "value" "InvalidPlaces" (XA "InvalidPlaces")) (EXInvalidTies : ExcF P w K mg base "value" "InvalidTies" (XA "InvalidTies")) (EXInvalidPlace : ExcF P w K mg base "value" "InvalidPlace" (XA "InvalidPlace")) (EXInvalidWalk : ExcF P w K mg base "value" "InvalidWalk" (XA "InvalidWalk")) (EXInvalidRound : ExcF P w K mg base "value" "InvalidRound" (XA "InvalidRound")) (EXInvalidWithout : ExcF P w K mg base "value" "InvalidWithout" (XA "InvalidWithout")) (EXInvalidPart : ExcF P w K mg base "value" "InvalidPart" (XA "InvalidPart")) (PErr : mg "PieceError" = some (.ref CPE)) (EXM : ExM K XA CPE)
    (his_round : GoodX P w K mg base "is_round" sis_round ["web", "value"] 6 (spis_round K C XA)) :
    GoodX P w K mg base "need_tour" sneed_tour ["web", "tour"] 7 (spneed_tour K C XA) := by
  refine D.goodX fun f fd F => ?_
  obtain ⟨fis_round, dis_round, Ois_round, mis_round, kis_round, bis_round, Fis_round⟩ := his_round
  refine F.okX scneed_tour (fun vs H Q E h => ?_) (fun cdv A outer s H vs Q E hr h => ?_)
  · obtain ⟨a, N, ts, v, o, rfl, hw, hv, hm, q, qE⟩ := h
    first | rfl | (rcases h with ⟨_, _, rfl, _⟩ | ⟨_, rfl, _⟩ <;> rfl)
  obtain ⟨a, N, ts, v, o, rfl, hw, hv, hm, q, qE⟩ := h
  refine ⟨_, (pss_one (ps_if (pt_not (pt_val (pe_callS Ois_round hr rfl mis_round kis_round bis_round (fun σ => passAt (takes_of rfl rfl rfl rfl) σ) (pa_cons (pv 0) (pa_cons (pv 1) pa_nil)))))
    (pss_one (ps_raise rfl (takes_of rfl rfl rfl rfl) (pmk_fld EXInvalidRound (hr.mono (by decide)) (by rfl) (pa_cons (pv 1) pa_nil)))) pss_nil)), ?_⟩
  refine ⟨_, rfl, _, rfl, .ref a, v, rfl, .inr ⟨a, N, ts, o, rfl, hw, hv, hm, fun b H1 hb hS1 => ⟨_, rfl, ?_⟩⟩⟩
  cases b with
  | true => exact iteF (q (hb.mp rfl) H1 hS1)
  | false => exact iteT ⟨_, rfl, (qE (fun z => nomatch hb.mpr z)).go hS1⟩
def spleads (_ : PySem.W.Frag) (C : Addr) (XA : Str → Addr) : Sp := fun vs H Q E => ∃ z v, vs = [z, v] ∧ ((∃ d, Vd H z d ∧ Rz E (XA "InvalidWeb") z H) ∨ ∃ a N ts o, z = .ref a ∧ WebAt C a N ts H ∧ Val H v o ∧ (∀ os, o = some os → os.length ≤ 1000) ∧ (¬ (IsWalk ts o ∧ LenO o 400) → Rz E (XA "InvalidWalk") v H) ∧
  (∀ R, o = some (nz R) → Chain ts R → R.length ≤ 400 → ∀ H' t x y e f, R[0]? = some x → R[R.length - 1]? = some y → ts[x]? = some e → ts[y]? = some f → Same H H' → H t = none → H' t = some (.tup [.int ((e.1 : Nat) : Int), .int ((f.2 : Nat) : Int)]) → Q (.ref t) H'))
theorem okleads (D : Def K mg "leads" sleads ["web", "walk"]) (B : Bs mg) (Glb : Glo mg) (WK : WebK K mg C) (EXInvalidWeb : ExcF P w K mg base "value" "InvalidWeb" (XA "InvalidWeb")) (EXInvalidPlaces : ExcF P w K mg base "value" "InvalidPlaces" (XA "InvalidPlaces")) (EXInvalidTies : ExcF P w K mg base "value" "InvalidTies" (XA "InvalidTies")) (EXInvalidPlace : ExcF P w K mg base "value" "InvalidPlace" (XA "InvalidPlace")) (EXInvalidWalk : ExcF P w K mg base "value" "InvalidWalk" (XA "InvalidWalk")) (EXInvalidRound : ExcF P w K mg base "value" "InvalidRound" (XA "InvalidRound")) (EXInvalidWithout : ExcF P w K mg base "value" "InvalidWithout" (XA "InvalidWithout")) (EXInvalidPart : ExcF P w K mg base "value" "InvalidPart" (XA "InvalidPart")) (PErr : mg "PieceError" = some (.ref CPE)) (EXM : ExM K XA CPE)
    (hneed_web : GoodX P w K mg base "need_web" sneed_web ["web"] 3 (spneed_web K C XA))
    (hneed_walk : GoodX P w K mg base "need_walk" sneed_walk ["web", "walk"] 7 (spneed_walk K C XA))
    (hWeb_ties : GoodM P w K mg base C "ties" "Web.ties" sWeb_ties ["self"] 1 (spWeb_ties K C XA)) :
    GoodX P w K mg base "leads" sleads ["web", "walk"] 8 (spleads K C XA) := by
  refine D.goodX fun f fd F => ?_
  obtain ⟨fneed_web, dneed_web, Oneed_web, mneed_web, kneed_web, bneed_web, Fneed_web⟩ := hneed_web
  obtain ⟨fneed_walk, dneed_walk, Oneed_walk, mneed_walk, kneed_walk, bneed_walk, Fneed_walk⟩ := hneed_walk
  obtain ⟨fWeb_ties, dWeb_ties, OWeb_ties, tWeb_ties, bWeb_ties, FWeb_ties⟩ := hWeb_ties
  refine F.okX scleads (fun vs H Q E h => ?_) (fun cdv A outer s H vs Q E hr h => ?_)
  · obtain ⟨z, v, rfl, h⟩ := h
    first | rfl | (rcases h with ⟨_, _, rfl, _⟩ | ⟨_, rfl, _⟩ <;> rfl)
  obtain ⟨z, v, rfl, h⟩ := h
  refine ⟨_, (pss_cons (ps_expr (pe_callS Oneed_web (hr.mono (by decide)) rfl mneed_web kneed_web bneed_web (fun σ => passAt (takes_of rfl rfl rfl rfl) σ) (pa_cons (pv 0) pa_nil)))
  (pss_cons (ps_expr (pe_callS Oneed_walk hr rfl mneed_walk kneed_walk bneed_walk (fun σ => passAt (takes_of rfl rfl rfl rfl) σ) (pa_cons (pv 0) (pa_cons (pv 1) pa_nil))))
  (pss_cons (ps_set (i := 2) scleads.nd rfl (by first | exact Or.inl rfl | exact Or.inr rfl) (pe_meth0 (pv 0) WK.cl tWeb_ties OWeb_ties (hr.mono (by decide)) bWeb_ties .nil pass0))
  (pss_one (ps_ret (pe_tup (pa_cons (pe_ix ix_tup (pe_ix ix_list (pv 2) (pe_ix ix_seq (pv 1) pe_int (fun _ _ => rfl)) (fun _ _ => rfl)) pe_int (fun _ _ => rfl)) (pa_cons (pe_ix ix_tup (pe_ix ix_list (pv 2) (pe_ix ix_seq (pv 1) (pe_un un_neg pe_int) (fun _ _ => rfl)) (fun _ _ => rfl)) pe_int (fun _ _ => rfl)) pa_nil)))))))), ?_⟩
  rcases h with ⟨d, hd, q⟩ | ⟨a, N, ts, o, rfl, hw, hv, hm, qE, q⟩
  · exact ⟨_, rfl, z, rfl, .inr ⟨d, hd, q⟩⟩
  refine ⟨_, rfl, .ref a, rfl, .inl ⟨a, N, ts, rfl, hw, ?_⟩⟩
  refine ⟨_, rfl, _, rfl, a, N, ts, v, o, rfl, hw, hv, hm, fun ⟨⟨R, eR, hc⟩, hl⟩ H1 hS1 => ?_, qE⟩
  subst eR
  have h0 := hc.n0
  have h4 : R.length ≤ 400 := by have := hl _ rfl; rw [len_nz] at this; omega
  have q := q R rfl hc h4
  have hw2 := hw.same hS1
  obtain ⟨s, rfl, hs⟩ := hv.seqAt
  obtain ⟨dx, tl, fl, ol, g1, _⟩ := id hw2
  refine ⟨_, rfl, a, dx, _, rfl, g1, wf_no _ _ _ _ (by decide +kernel) (by decide +kernel) (by decide +kernel) (by decide +kernel), a, N, ts, rfl, hw2, fun H3 l nl hS3 hT => ?_⟩
  have hs3 := (hs.same hS1).same hS3
  obtain ⟨x, e, e1, e3⟩ := ends_get hc.num (i := 0) (by omega)
  obtain ⟨y, f, e2, e4⟩ := ends_get hc.num (i := R.length - 1) (by omega)
  obtain ⟨xs, p, k1, k2, k3⟩ := hT.at_ e3
  obtain ⟨xs', p', k1', k2', k3'⟩ := hT.at_ e4
  refine ⟨_, rfl, _, rfl, hs3.ix (iv_at (j := 0) e1) ⟨_, _, _, _, rfl, rfl, SqL.of k1, k2, _, _, _, _, rfl, rfl, SqT.of k3, rfl, ?_⟩⟩
  refine ⟨_, rfl, _, rfl, _, rfl, hs3.ix (b := y) (iv_back e2) ⟨_, _, _, _, rfl, rfl, SqL.of k1', k2', _, _, _, _, rfl, rfl, SqT.of k3', rfl, (by show 2 ≤ sizeLine; decide), fun t nt => ?_⟩⟩
  exact q _ t x y e f e1 e2 e3 e4 ((hS1.trans hS3).trans (same_new nt _)) ((hS1.trans hS3).free nt) upd_same
def spcovers (_ : PySem.W.Frag) (C : Addr) (XA : Str → Addr) : Sp := fun vs H Q E => ∃ z v, vs = [z, v] ∧ ((∃ d, Vd H z d ∧ Rz E (XA "InvalidWeb") z H) ∨ ∃ a N ts o, z = .ref a ∧ WebAt C a N ts H ∧ Val H v o ∧ (∀ os, o = some os → os.length ≤ 1000) ∧ (¬ IsRound ts o → Rz E (XA "InvalidRound") v H) ∧
  (∀ R, o = some (nz R) → Chain ts R → BackAt ts R → ∃ s, v = .ref s ∧ H s = some (.lst (iv R)) ∧ ∀ b H', (b = true ↔ ∀ x, x < ts.length → x ∈ R) → Same H H' → Q (.bl b) H'))
theorem okcovers (D : Def K mg "covers" scovers ["web", "tour"]) (B : Bs mg) (Glb : Glo mg) (WK : WebK K mg C) (EXInvalidWeb : ExcF P w K mg base "value" "InvalidWeb" (XA "InvalidWeb")) (EXInvalidPlaces : ExcF P w K mg base "value" "InvalidPlaces" (XA "InvalidPlaces")) (EXInvalidTies : ExcF P w K mg base "value" "InvalidTies" (XA "InvalidTies")) (EXInvalidPlace : ExcF P w K mg base "value" "InvalidPlace" (XA "InvalidPlace")) (EXInvalidWalk : ExcF P w K mg base "value" "InvalidWalk" (XA "InvalidWalk")) (EXInvalidRound : ExcF P w K mg base "value" "InvalidRound" (XA "InvalidRound")) (EXInvalidWithout : ExcF P w K mg base "value" "InvalidWithout" (XA "InvalidWithout")) (EXInvalidPart : ExcF P w K mg base "value" "InvalidPart" (XA "InvalidPart")) (PErr : mg "PieceError" = some (.ref CPE)) (EXM : ExM K XA CPE)
    (hneed_web : GoodX P w K mg base "need_web" sneed_web ["web"] 3 (spneed_web K C XA))
    (hneed_tour : GoodX P w K mg base "need_tour" sneed_tour ["web", "tour"] 7 (spneed_tour K C XA))
    (hWeb_many : GoodP P w K mg base C "many" "Web.many" sWeb_many ["self"] 1 (spWeb_many K C XA)) :
    GoodX P w K mg base "covers" scovers ["web", "tour"] 8 (spcovers K C XA) := by
  refine D.goodX fun f fd F => ?_
  obtain ⟨fneed_web, dneed_web, Oneed_web, mneed_web, kneed_web, bneed_web, Fneed_web⟩ := hneed_web
  obtain ⟨fneed_tour, dneed_tour, Oneed_tour, mneed_tour, kneed_tour, bneed_tour, Fneed_tour⟩ := hneed_tour
  obtain ⟨qWeb_many, fWeb_many, dWeb_many, OWeb_many, pWeb_many, bWeb_many⟩ := hWeb_many
  refine F.okX sccovers (fun vs H Q E h => ?_) (fun cdv A outer s H vs Q E hr h => ?_)
  · obtain ⟨z, v, rfl, h⟩ := h
    first | rfl | (rcases h with ⟨_, _, rfl, _⟩ | ⟨_, rfl, _⟩ <;> rfl)
  obtain ⟨z, v, rfl, h⟩ := h
  refine ⟨_, (pss_cons (ps_expr (pe_callS Oneed_web (hr.mono (by decide)) rfl mneed_web kneed_web bneed_web (fun σ => passAt (takes_of rfl rfl rfl rfl) σ) (pa_cons (pv 0) pa_nil)))
  (pss_cons (ps_expr (pe_callS Oneed_tour hr rfl mneed_tour kneed_tour bneed_tour (fun σ => passAt (takes_of rfl rfl rfl rfl) σ) (pa_cons (pv 0) (pa_cons (pv 1) pa_nil))))
  (pss_one (ps_ret (pe_cmpR op_eq (pe_callB cr_lenIn (by rfl) B.len (by decide +kernel) (pa_cons (pe_callTy (cr_setIn rfl) (by rfl) B.set (by decide +kernel) (pa_cons (pv 1) pa_nil)) pa_nil)) (pe_prop (pv 0) WK.cl pWeb_many OWeb_many (hr.mono (by decide)) bWeb_many .nil pass0 (by rfl)) (nomark _)))))), ?_⟩
  rcases h with ⟨d, hd, q⟩ | ⟨a, N, ts, o, rfl, hw, hv, hm, qE, q⟩
  · exact ⟨_, rfl, z, rfl, .inr ⟨d, hd, q⟩⟩
  refine ⟨_, rfl, .ref a, rfl, .inl ⟨a, N, ts, rfl, hw, ?_⟩⟩
  refine ⟨_, rfl, _, rfl, a, N, ts, v, o, rfl, hw, hv, hm, fun ⟨R, eR, hc, hb⟩ H1 hS1 => ?_, qE⟩
  subst eR
  obtain ⟨s, rfl, hs, q⟩ := q R rfl hc hb
  have h4 : R.length ≤ 1000 := by have := hm _ rfl; rw [len_nz] at this; omega
  have hs1 := hS1 _ _ hs
  rw [iv_iz] at hs1
  refine ⟨_, rfl, s, _, rfl, SqL.of hs1, by rw [List.length_map]; omega, fun p n hn hle np => ?_⟩
  rw [List.length_map] at hle
  have hS2 := hS1.trans (same_new np (InO w p (inI (R.map fun n : Nat => (n : Int))) n))
  have hw2 := hw.same hS2
  obtain ⟨dx, tl, fl, ol, g1, _⟩ := id hw2
  refine ⟨p, _, n, rfl, upd_same, by omega, _, rfl, a, dx, _, rfl, g1, a, N, ts, rfl, hw2, rfl, ?_⟩
  refine q _ _ ?_ hS2
  rw [decide_eq_true_iff, int_eq, ← all_there hc.num hn]
  omega
def spstarts_in (_ : PySem.W.Frag) (_ : Addr) (_ : Str → Addr) : Sp := fun _ _ _ _ => False
def spwalk_in_round (_ : PySem.W.Frag) (C : Addr) (XA : Str → Addr) : Sp := fun vs H Q E => ∃ z t v, vs = [z, t, v] ∧ ((∃ d, Vd H z d ∧ Rz E (XA "InvalidWeb") z H) ∨ ∃ a N ts o, z = .ref a ∧ WebAt C a N ts H ∧ Val H t o ∧ (∀ os, o = some os → os.length ≤ 1000) ∧ ((¬ IsRound ts o ∧ Rz E (XA "InvalidRound") t H) ∨
  ∃ o2, IsRound ts o ∧ Val H v o2 ∧ (∀ os, o2 = some os → os.length ≤ 1000) ∧ ¬ (IsWalk ts o2 ∧ LenO o2 400) ∧ Rz E (XA "InvalidWalk") v H))
theorem okwalk_in_round (D : Def K mg "walk_in_round" swalk_in_round ["web", "tour", "walk"]) (B : Bs mg) (Glb : Glo mg) (WK : WebK K mg C) (EXInvalidWeb : ExcF P w K mg base "value" "InvalidWeb" (XA "InvalidWeb")) (EXInvalidPlaces : ExcF P w K mg base "value" "InvalidPlaces" (XA "InvalidPlaces")) (EXInvalidTies : ExcF P w K mg base "value" "InvalidTies" (XA "InvalidTies")) (EXInvalidPlace : ExcF P w K mg base "value" "InvalidPlace" (XA "InvalidPlace")) (EXInvalidWalk : ExcF P w K mg base "value" "InvalidWalk" (XA "InvalidWalk")) (EXInvalidRound : ExcF P w K mg base "value" "InvalidRound" (XA "InvalidRound")) (EXInvalidWithout : ExcF P w K mg base "value" "InvalidWithout" (XA "InvalidWithout")) (EXInvalidPart : ExcF P w K mg base "value" "InvalidPart" (XA "InvalidPart")) (PErr : mg "PieceError" = some (.ref CPE)) (EXM : ExM K XA CPE)
    (hneed_web : GoodX P w K mg base "need_web" sneed_web ["web"] 3 (spneed_web K C XA))
    (hneed_tour : GoodX P w K mg base "need_tour" sneed_tour ["web", "tour"] 7 (spneed_tour K C XA))
    (hneed_walk : GoodX P w K mg base "need_walk" sneed_walk ["web", "walk"] 7 (spneed_walk K C XA))
    (hstarts_in : Good P w K mg base "starts_in" sstarts_in ["cycle", "word"] 2 (spstarts_in K C XA)) :
    GoodX P w K mg base "walk_in_round" swalk_in_round ["web", "tour", "walk"] 8 (spwalk_in_round K C XA) := by
  refine D.goodX fun f fd F => ?_
  obtain ⟨fneed_web, dneed_web, Oneed_web, mneed_web, kneed_web, bneed_web, Fneed_web⟩ := hneed_web
  obtain ⟨fneed_tour, dneed_tour, Oneed_tour, mneed_tour, kneed_tour, bneed_tour, Fneed_tour⟩ := hneed_tour
  obtain ⟨fneed_walk, dneed_walk, Oneed_walk, mneed_walk, kneed_walk, bneed_walk, Fneed_walk⟩ := hneed_walk
  obtain ⟨fstarts_in, dstarts_in, Ostarts_in, mstarts_in, kstarts_in, bstarts_in, Fstarts_in⟩ := hstarts_in
  refine F.okX scwalk_in_round (fun vs H Q E h => ?_) (fun cdv A outer s H vs Q E hr h => ?_)
  · obtain ⟨z, t, v, rfl, h⟩ := h
    first | rfl | (rcases h with ⟨_, _, rfl, _⟩ | ⟨_, rfl, _⟩ <;> rfl)
  obtain ⟨z, t, v, rfl, h⟩ := h
  refine ⟨_, (pss_cons (ps_expr (pe_callS Oneed_web (hr.mono (by decide)) rfl mneed_web kneed_web bneed_web (fun σ => passAt (takes_of rfl rfl rfl rfl) σ) (pa_cons (pv 0) pa_nil)))
  (pss_cons (ps_expr (pe_callS Oneed_tour hr rfl mneed_tour kneed_tour bneed_tour (fun σ => passAt (takes_of rfl rfl rfl rfl) σ) (pa_cons (pv 0) (pa_cons (pv 1) pa_nil))))
  (pss_cons (ps_expr (pe_callS Oneed_walk hr rfl mneed_walk kneed_walk bneed_walk (fun σ => passAt (takes_of rfl rfl rfl rfl) σ) (pa_cons (pv 0) (pa_cons (pv 2) pa_nil))))
  (pss_one (ps_ret (pe_cmpR op_gt (pe_callB call_len_seq (by rfl) B.len (by decide +kernel) (pa_cons (pe_call Ostarts_in (hr.mono (by decide)) rfl mstarts_in kstarts_in bstarts_in .nil pass0 (pa_cons (pv 1) (pa_cons (pv 2) pa_nil))) pa_nil)) pe_int (nomark _))))))), ?_⟩
  rcases h with ⟨d, hd, q⟩ | ⟨a, N, ts, o, rfl, hw, ht, hm, ⟨hn, q⟩ | ⟨o2, hr, hv, hm2, hn, q⟩⟩
  · exact ⟨_, rfl, z, rfl, .inr ⟨d, hd, q⟩⟩
  · exact ⟨_, rfl, .ref a, rfl, .inl ⟨a, N, ts, rfl, hw, _, rfl, _, rfl, a, N, ts, t, o, rfl, hw, ht, hm, fun z => absurd z hn, fun _ => q⟩⟩
  · exact ⟨_, rfl, .ref a, rfl, .inl ⟨a, N, ts, rfl, hw, _, rfl, _, rfl, a, N, ts, t, o, rfl, hw, ht, hm, fun _ H1 hS1 => ⟨_, rfl, _, rfl, a, N, ts, v, o2, rfl, hw.same hS1, hv.same hS1, hm2, fun z => absurd z hn, fun _ => q.same hS1⟩, fun z => absurd hr z⟩⟩
def spback_web (_ : PySem.W.Frag) (C : Addr) (XA : Str → Addr) : Sp := fun vs H Q E => ∃ z, vs = [z] ∧ ∃ d, Vd H z d ∧ Rz E (XA "InvalidWeb") z H
end
end My
namespace My
open PySem L2 PyProof.Rows
def PotOk (x y : Int) : Prop := 0 ≤ x ∧ 0 ≤ y ∧ y < 2147483999
def PotAt (H : Hp) (a : Addr) : Prop := ∃ x y : Int, H a = some (.lst [.int x, .int y]) ∧ PotOk x y
theorem PotAt.new {H : Hp} {a p : Addr} {o : HO} (h : PotAt H a) (np : H p = none) : PotAt (upd H p o) a := by
  obtain ⟨x, y, e, h⟩ := h
  exact ⟨x, y, by rw [upd_ne (ne_of_none e np)]; exact e, h⟩
theorem PotAt.put {H : Hp} {a p : Addr} {o : HO} (h : PotAt H a) (np : p ≠ a) : PotAt (upd H p o) a := by
  obtain ⟨x, y, e, h⟩ := h
  exact ⟨x, y, by rw [upd_ne np.symm]; exact e, h⟩
theorem PotAt.same {H H' : Hp} {a : Addr} (h : PotAt H a) (s : Same H H') : PotAt H' a := by
  obtain ⟨x, y, e, h⟩ := h
  exact ⟨x, y, s _ _ e, h⟩
theorem PotAt.ne {H : Hp} {a p : Addr} (h : PotAt H a) (np : H p = none) : p ≠ a := by
  obtain ⟨x, y, e, h⟩ := h
  exact (ne_of_none e np).symm
theorem PotAt.ntup {H : Hp} {a p : Addr} {xs : List V} (h : PotAt H a) (hp : H p = some (.tup xs)) : p ≠ a := by
  obtain ⟨x, y, e, h⟩ := h
  exact ne_of hp e (by intro q; cases q)
theorem Kept.new {H H' : Hp} {a p : Addr} {o : HO} (h : Kept a H H') (np : H' p = none) : Kept a H (upd H' p o) := h.trans (Same.kept (same_new np o))
theorem Kept.put {H H' : Hp} {a p : Addr} {o : HO} (h : Kept a H H') (np : H p = none) : Kept a H (upd H' p o) := fun b u e n => by
  rw [upd_ne (ne_of_none e np)]
  exact h b u e n
theorem TiesAt.kept {H H' : Hp} {a t : Addr} {ts : List (Nat × Nat)} (h : TiesAt H t ts) (k : Kept a H H') (hp : PotAt H a) (hn : t ≠ a) : TiesAt H' t ts := by
  obtain ⟨tas, h1, h2⟩ := h
  exact ⟨tas, k _ _ h1 hn, paired_mono (fun p e hq => k _ _ hq (hp.ntup hq)) h2⟩
theorem paired_app {α β : Type} {F : α → β → Prop} {a : α} {b : β} : ∀ {l1 : List α} {l2 : List β}, Paired F l1 l2 → F a b → Paired F (l1 ++ [a]) (l2 ++ [b])
  | _, _, .nil, h => .cons h .nil
  | _, _, .cons r t, h => .cons r (paired_app t h)
theorem paired_apps {α β : Type} {F : α → β → Prop} : ∀ {l1 m1 : List α} {l2 m2 : List β}, Paired F l1 l2 → Paired F m1 m2 → Paired F (l1 ++ m1) (l2 ++ m2)
  | _, _, _, _, .nil, h => h
  | _, _, _, _, .cons r t, h => .cons r (paired_apps t h)
theorem paired_rev {α β : Type} {F : α → β → Prop} : ∀ {l1 : List α} {l2 : List β}, Paired F l1 l2 → Paired F l1.reverse l2.reverse
  | _, _, .nil => .nil
  | _, _, .cons r t => by
    rw [List.reverse_cons, List.reverse_cons]
    exact paired_app (paired_rev t) r
theorem TiesAt.push {H : Hp} {p tp : Addr} {ts : List (Nat × Nat)} {u v : Nat} (h : TiesAt H p ts) (nt : H tp = none) :
    ∃ xs, (upd H tp (.tup [.int (u : Int), .int (v : Int)])) p = some (.lst xs) ∧ xs.length = ts.length ∧ TiesAt (upd (upd H tp (.tup [.int (u : Int), .int (v : Int)])) p (.lst (xs ++ [.ref tp]))) p (ts ++ [(u, v)]) := by
  obtain ⟨tas, h1, h2⟩ := h
  have npt : p ≠ tp := ne_of_none h1 nt
  refine ⟨tas.map V.ref, by rw [upd_ne npt]; exact h1, by rw [List.length_map]; exact paired_len h2, tas ++ [tp], by rw [upd_same, List.map_append]; rfl, paired_app (paired_mono (fun q e hq => ?_) h2) ?_⟩
  · have nqp : q ≠ p := ne_of hq h1 (by intro z; cases z)
    show upd _ _ _ q = _
    rw [upd_ne nqp, upd_ne (ne_of_none hq nt)]
    exact hq
  · show upd _ _ _ tp = _
    rw [upd_ne npt.symm, upd_same]
theorem TiesAt.pushV {H : Hp} {p tp : Addr} {ts : List (Nat × Nat)} {u v : Nat} {x y : V} (hx : x = .int (u : Int)) (hy : y = .int (v : Int)) (h : TiesAt H p ts) (nt : H tp = none) :
    ∃ xs, (upd H tp (.tup [x, y])) p = some (.lst xs) ∧ xs.length = ts.length ∧ TiesAt (upd (upd H tp (.tup [x, y])) p (.lst (xs ++ [.ref tp]))) p (ts ++ [(u, v)]) := by
  subst hx hy
  exact h.push nt
theorem TiesAt.nil {H : Hp} {p : Addr} : TiesAt (upd H p (.lst [])) p [] := ⟨[], upd_same, .nil⟩
theorem TiesAt.cat {H : Hp} {l m p : Addr} {ts us : List (Nat × Nat)} (h : TiesAt H l ts) (k : TiesAt H m us) (np : H p = none) : ∃ xs zs, H l = some (.lst xs) ∧ H m = some (.lst zs) ∧ xs.length = ts.length ∧ zs.length = us.length ∧ TiesAt (upd H p (.lst (xs ++ zs))) p (ts ++ us) := by
  obtain ⟨tas, h1, h2⟩ := h
  obtain ⟨uas, k1, k2⟩ := k
  refine ⟨_, _, h1, k1, by rw [List.length_map]; exact paired_len h2, by rw [List.length_map]; exact paired_len k2, tas ++ uas, by rw [upd_same, List.map_append], paired_mono (fun q e hq => ?_) (paired_apps h2 k2)⟩
  exact same_new np _ _ _ hq
theorem TiesAt.get {H : Hp} {l : Addr} {ts : List (Nat × Nat)} (h : TiesAt H l ts) : ∃ xs, H l = some (.lst xs) ∧ xs.length = ts.length := by
  obtain ⟨tas, h1, h2⟩ := h
  exact ⟨_, h1, by rw [List.length_map]; exact paired_len h2⟩
theorem TiesAt.new {H : Hp} {l p : Addr} {ts : List (Nat × Nat)} {o : HO} (h : TiesAt H l ts) (np : H p = none) : TiesAt (upd H p o) l ts := h.same (same_new np o)
theorem TiesAt.rev {H : Hp} {l p : Addr} {ts : List (Nat × Nat)} (h : TiesAt H l ts) (np : H p = none) : ∃ xs, H l = some (.lst xs) ∧ TiesAt (upd H p (.lst xs.reverse)) p ts.reverse := by
  obtain ⟨tas, h1, h2⟩ := h
  refine ⟨_, h1, tas.reverse, by rw [upd_same, List.map_reverse], paired_mono (fun q e hq => same_new np _ _ _ hq) (paired_rev h2)⟩
theorem TiesAt.catOne {H : Hp} {l p : Addr} {ts : List (Nat × Nat)} {tp : Addr} {u v : Nat} (h : TiesAt H l ts) (ht : H tp = some (.tup [.int (u : Int), .int (v : Int)])) (np : H p = none) :
    ∃ xs, H l = some (.lst xs) ∧ xs.length = ts.length ∧ TiesAt (upd H p (.lst (xs ++ [.ref tp]))) p (ts ++ [(u, v)]) := by
  obtain ⟨tas, h1, h2⟩ := h
  refine ⟨_, h1, by rw [List.length_map]; exact paired_len h2, tas ++ [tp], by rw [upd_same, List.map_append]; rfl, paired_app (paired_mono (fun q e hq => same_new np _ _ _ hq) h2) (same_new np _ _ _ ht)⟩
theorem Kept.free {a p : Addr} {H H' : Hp} (h : Kept a H H') (hn : H' p = none) (np : p ≠ a) : H p = none := by
  cases e : H p with
  | none => rfl
  | some o =>
    have := h p o e np
    rw [hn] at this
    cases this
theorem ok_app {N : Nat} {ts us : List (Nat × Nat)} (h : ∀ e ∈ ts, e.1 < N ∧ e.2 < N) (k : ∀ e ∈ us, e.1 < N ∧ e.2 < N) : ∀ e ∈ ts ++ us, e.1 < N ∧ e.2 < N := fun e he => (List.mem_append.mp he).elim (h e) (k e)
theorem ok_one {N u v : Nat} (h1 : u < N) (h2 : v < N) : ∀ e ∈ [(u, v)], e.1 < N ∧ e.2 < N := fun e he => by rw [List.mem_singleton.mp he]; exact ⟨h1, h2⟩
theorem ok_up {N M : Nat} {ts : List (Nat × Nat)} (h : ∀ e ∈ ts, e.1 < N ∧ e.2 < N) (hm : N ≤ M) : ∀ e ∈ ts, e.1 < M ∧ e.2 < M := fun e he => ⟨Nat.lt_of_lt_of_le (h e he).1 hm, Nat.lt_of_lt_of_le (h e he).2 hm⟩
theorem dp_iv {K : PySem.W.Frag} {H : Hp} {p : Addr} {L : List Nat} (h : H p = some (.lst (iv L))) : Dp K H (.ref p) (dz (L.map fun n : Nat => (n : Int))) := dp_iz (by rw [← iv_iz]; exact h)
/-! ### lists of ties compared with the empty list -/
abbrev tzD (e : Nat × Nat) : PyData := .tuple [.int (e.1 : Int), .int (e.2 : Int)]
abbrev tz (ts : List (Nat × Nat)) : PyData := .list (ts.map tzD)
theorem dpAll_tz {K : PySem.W.Frag} {H : Hp} : ∀ {tas : List Addr} {ts : List (Nat × Nat)}, Paired (TupAt H) tas ts → DpAll K H (tas.map V.ref) (ts.map tzD)
  | _, _, .nil => .nil
  | _, _, .cons h r => .cons (.tup (SqT.of h) (.cons (.int _) (.cons (.int _) .nil))) (dpAll_tz r)
theorem dp_tz {K : PySem.W.Frag} {H : Hp} {t : Addr} {ts : List (Nat × Nat)} (h : TiesAt H t ts) : Dp K H (.ref t) (tz ts) := by
  obtain ⟨tas, h1, h2⟩ := h
  exact .lst (SqL.of h1) (dpAll_tz h2)
theorem layAll_tz : ∀ ts : List (Nat × Nat), PyData.canLayAll0 (ts.map tzD) = true
  | [] => rfl
  | e :: r => by
    show (PyData.canLay0 (tzD e) && PyData.canLayAll0 (r.map tzD)) = true
    rw [layAll_tz r]
    rfl
theorem depthAll_tz (e : Nat × Nat) : ∀ r : List (Nat × Nat), PyData.depthAll ((e :: r).map tzD) = 1
  | [] => rfl
  | f :: r => by
    show max (PyData.depth (tzD e)) (PyData.depthAll ((f :: r).map tzD)) = 1
    rw [depthAll_tz f r]
    rfl
theorem shaped_tz : ∀ ts : List (Nat × Nat), SeqAt.shaped (tz ts) = true
  | [] => shaped_iz []
  | e :: r => by
    unfold SeqAt.shaped
    have h1 : PyData.canLay0 (tz (e :: r)) = true := by
      show PyData.canLay0 (.list ((e :: r).map tzD)) = true
      unfold PyData.canLay0
      exact layAll_tz _
    have h2 : PyData.depth (tz (e :: r)) = 2 := by
      show PyData.depth (.list ((e :: r).map tzD)) = 2
      unfold PyData.depth
      rw [depthAll_tz]
    rw [h1, h2]
    rfl
theorem eqv_tz (ts : List (Nat × Nat)) : PyData.eqv (tz ts) (dz []) = decide (ts = []) := by
  cases ts with
  | nil => rfl
  | cons n r => rfl
def StepsAt (H : Hp) (l : Addr) (ts : List (Nat × Nat)) : Prop := ∃ sas : List Addr, H l = some (.lst (sas.map V.ref)) ∧ sas.length = ts.length ∧ ∀ (i u v : Nat), ts[i]? = some (u, v) → ∃ p : Addr, sas[i]? = some p ∧ H p = some (.tup [.int (u : Int), .int (v : Int), .int (i : Int)])
def swaps (ts : List (Nat × Nat)) : List (Nat × Nat) := ts.map fun e => (e.2, e.1)
def BackTo (H0 : Hp) (l : Addr) (ts : List (Nat × Nat)) (i : Nat) (H : Hp) : Prop := Same H0 H ∧ TiesAt H l (swaps (ts.take i))
theorem take_snocE {α : Type} {L : List α} {i : Nat} {e : α} (h : L[i]? = some e) : L.take (i + 1) = L.take i ++ [e] := by
  rw [List.take_succ, h]
  rfl
theorem steps_nil {H : Hp} {l : Addr} : StepsAt (upd H l (.lst [])) l [] := ⟨[], upd_same, rfl, fun i u v h => by simp at h⟩
theorem StepsAt.same {H H' : Hp} {l : Addr} {ts : List (Nat × Nat)} (h : StepsAt H l ts) (s : Same H H') : StepsAt H' l ts := by
  obtain ⟨sas, h1, h2, h3⟩ := h
  exact ⟨sas, s _ _ h1, h2, fun i u v e => by obtain ⟨p, a, b⟩ := h3 i u v e; exact ⟨p, a, s _ _ b⟩⟩
theorem StepsAt.push {H : Hp} {l tp : Addr} {ts : List (Nat × Nat)} {u v : Nat} (h : StepsAt H l ts) (nt : H tp = none) :
    ∃ xs, (upd H tp (.tup [.int (u : Int), .int (v : Int), .int (ts.length : Int)])) l = some (.lst xs) ∧ xs.length = ts.length ∧ StepsAt (upd (upd H tp (.tup [.int (u : Int), .int (v : Int), .int (ts.length : Int)])) l (.lst (xs ++ [.ref tp]))) l (ts ++ [(u, v)]) := by
  obtain ⟨sas, h1, h2, h3⟩ := h
  have nlt : l ≠ tp := ne_of_none h1 nt
  refine ⟨sas.map V.ref, by rw [upd_ne nlt]; exact h1, by rw [List.length_map]; exact h2, sas ++ [tp], by rw [upd_same, List.map_append]; rfl, by simp [h2], fun i a b e => ?_⟩
  by_cases c : i < ts.length
  · rw [List.getElem?_append_left c] at e
    obtain ⟨p, g1, g2⟩ := h3 i a b e
    have np : p ≠ l := ne_of g2 h1 (by intro z; cases z)
    refine ⟨p, by rw [List.getElem?_append_left (by omega)]; exact g1, ?_⟩
    rw [upd_ne np, upd_ne (ne_of_none g2 nt)]
    exact g2
  · have hl := (List.getElem?_eq_some_iff.mp e).1
    rw [List.length_append, List.length_singleton] at hl
    have ei : i = ts.length := by omega
    subst ei
    rw [List.getElem?_append_right (Nat.le_refl _), Nat.sub_self] at e
    cases e
    refine ⟨tp, by rw [← h2, List.getElem?_append_right (Nat.le_refl _), Nat.sub_self]; rfl, ?_⟩
    rw [upd_ne nlt.symm, upd_same]
theorem okWeb_swaps {N : Nat} {ts : List (Nat × Nat)} (h : OkWeb N ts) : OkWeb N (swaps ts) := by
  refine ⟨h.n0, h.n1, by unfold swaps; rw [List.length_map]; exact h.m, fun e he => ?_⟩
  obtain ⟨f, hf, rfl⟩ := List.mem_map.mp he
  exact ⟨(h.ok f hf).2, (h.ok f hf).1⟩
section
variable {P : Program} {w : World} {K : PySem.W.Frag} {mg : Str → Option Value} {base : Heap} {C CPE cM : Addr} {XA : Str → Addr} {TL : List (Addr × Str)}
def spweb_steps (_ : PySem.W.Frag) (C : Addr) (XA : Str → Addr) : Sp := fun vs H Q _ => ∃ a N ts, vs = [.ref a] ∧ WebAt C a N ts H ∧ OkWeb N ts ∧ ∀ H' l, H l = none → Same H H' → StepsAt H' l ts → Q (.ref l) H'
theorem okweb_steps (D : Def K mg "web_steps" sweb_steps ["web"]) (B : Bs mg) (Glb : Glo mg) (WK : WebK K mg C) (EXInvalidWeb : ExcF P w K mg base "value" "InvalidWeb" (XA "InvalidWeb")) (EXInvalidPlaces : ExcF P w K mg base "value" "InvalidPlaces" (XA "InvalidPlaces")) (EXInvalidTies : ExcF P w K mg base "value" "InvalidTies" (XA "InvalidTies")) (EXInvalidPlace : ExcF P w K mg base "value" "InvalidPlace" (XA "InvalidPlace")) (EXInvalidWalk : ExcF P w K mg base "value" "InvalidWalk" (XA "InvalidWalk")) (EXInvalidRound : ExcF P w K mg base "value" "InvalidRound" (XA "InvalidRound")) (EXInvalidWithout : ExcF P w K mg base "value" "InvalidWithout" (XA "InvalidWithout")) (EXInvalidPart : ExcF P w K mg base "value" "InvalidPart" (XA "InvalidPart")) (PErr : mg "PieceError" = some (.ref CPE)) (EXM : ExM K XA CPE)
    (hWeb_ties : GoodM P w K mg base C "ties" "Web.ties" sWeb_ties ["self"] 1 (spWeb_ties K C XA)) :
    Good P w K mg base "web_steps" sweb_steps ["web"] 3 (spweb_steps K C XA) := by
  refine D.good fun f fd F => ?_
  obtain ⟨fWeb_ties, dWeb_ties, OWeb_ties, tWeb_ties, bWeb_ties, FWeb_ties⟩ := hWeb_ties
  refine F.ok scweb_steps (fun vs H Q E h => ?_) (fun cdv A outer s H vs Q E hr h => ?_)
  · obtain ⟨a, N, ts, rfl, hw, ho, q⟩ := h
    first | rfl | (rcases h with ⟨_, _, rfl, _⟩ | ⟨_, rfl, _⟩ <;> rfl)
  obtain ⟨a, N, ts, rfl, hw, ho, q⟩ := h
  refine ⟨_, (pss_one (ps_ret (pe_lc (own := [("tie", 1), ("near", 2), ("far", 3)]) (g := gTup K 2 (gCons (gName 1) (gCons (gTup K 2 (gCons (gName 2) (gCons (gName 3) gNil))) gNil))) (by rfl) scweb_steps.nd (pi_enum (by rfl) B.enumerate (pa_cons (pe_meth0 (pv 0) WK.cl tWeb_ties OWeb_ties (hr.mono (by decide)) bWeb_ties .nil pass0) pa_nil)) (blkOk_by (own := [("tie", 1), ("near", 2), ("far", 3)]) (N := ["web", "tie", "near", "far"]) (sc := defScope sweb_steps) (by decide +kernel)) (fun _ _ _ _ _ => (pg_tup rfl (pgs_cons (pg_name (i := 1) scweb_steps.nd rfl (by first | exact Or.inl rfl | exact Or.inr rfl)) (pgs_cons (pg_tup rfl (pgs_cons (pg_name (i := 2) scweb_steps.nd rfl (by first | exact Or.inl rfl | exact Or.inr rfl)) (pgs_cons (pg_name (i := 3) scweb_steps.nd rfl (by first | exact Or.inl rfl | exact Or.inr rfl)) pgs_nil))) pgs_nil)))) (fun _ _ _ _ _ => pts_nil) (fun _ _ _ _ _ => (pe_tup (pa_cons (pv 2) (pa_cons (pv 3) (pa_cons (pv 1) pa_nil)))))))), ?_⟩
  obtain ⟨dx, tl, fl, ol, h1, h23⟩ := id hw
  refine ⟨_, rfl, a, dx, _, rfl, h1, (by rfl), a, N, ts, rfl, hw, fun H1 l nl hS1 ⟨tas, hl, hP⟩ => ?_⟩
  refine ⟨l, _, rfl, SqL.of hl, fun D nD => ?_⟩
  have nD0 : H D = none := hS1.free nD
  refine lc_it (walk_enum (K := K) (a := l) (xs := tas.map V.ref)) (fun i H' => Same H1 H' ∧ StepsAt H' D (ts.take i)) ⟨same_new nD _, steps_nil⟩ (fun i H' _ ⟨hS', _⟩ => SqL.of (hS' _ _ hl)) ?_ ?_
  · rintro i x H3 H4 hi ⟨hS3, hD3⟩ ⟨T0, x1, x2, rfl, nT0, rfl, e1, e2⟩
    cases e1
    rw [List.length_map] at hi
    replace e2 : (tas.map V.ref)[i]? = some x2 := e2
    rw [List.getElem?_map, List.getElem?_eq_getElem hi] at e2
    cases e2
    obtain ⟨⟨u, v⟩, he, hpe⟩ := paired_get hP (List.getElem?_eq_getElem hi)
    have hlt := (List.getElem?_eq_some_iff.mp he).1
    have hm := ho.m
    have hS4 : Same H1 (upd H3 T0 (.tup [.int (i : Int), .ref tas[i]])) := fun b o e => same_new nT0 _ _ _ (hS3 _ _ e)
    have hD4 := hD3.same (same_new nT0 (.tup [.int (i : Int), .ref tas[i]]))
    have hT4 : (upd H3 T0 (.tup [.int (i : Int), .ref tas[i]])) T0 = some (.tup [.int (i : Int), .ref tas[i]]) := upd_same
    generalize upd H3 T0 (.tup [.int (i : Int), .ref tas[i]]) = H4 at hS4 hD4 hT4
    have hp4 : H4 tas[i] = some (.tup [.int (u : Int), .int (v : Int)]) := hS4 _ _ hpe
    refine ⟨T0, _, rfl, SqT.of hT4, rfl, _, _, rfl, _, _, rfl, ⟨tas[i], _, rfl, SqT.of hp4, rfl, _, _, rfl, _, _, rfl, rfl, rfl, ?_⟩⟩
    refine ⟨rfl, _, rfl, _, rfl, _, rfl, (by show 3 ≤ sizeLine; decide), fun tp ntp => ?_⟩
    have hlen : (ts.take i).length = i := by rw [List.length_take]; omega
    obtain ⟨xs, g1, g2, g3⟩ := hD4.push (u := u) (v := v) ntp
    rw [hlen] at g1 g2 g3
    refine ⟨xs, g1, by rw [g2]; exact Nat.lt_of_lt_of_le (by omega : i < 1000) (by decide), same_upd (fun b o e => same_new ntp _ _ _ (hS4 _ _ e)) nD, ?_⟩
    rw [take_snocE he]
    exact g3
  · rintro H3 ⟨hS3, hD3⟩
    rw [List.length_map, paired_len hP, List.take_length] at hD3
    exact q H3 D nD0 (fun b o e => hS3 _ _ (hS1 _ _ e)) hD3
end
end My
namespace My
/-! ### parts by two searches in depth -/
theorem rch_refl {E : Nat → Nat → Prop} (u : Nat) : Rch E u u := ⟨0, .nil u⟩
theorem rch_trans {E : Nat → Nat → Prop} {u v w : Nat} (a : Rch E u v) (b : Rch E v w) : Rch E u w := by
  obtain ⟨j, a⟩ := a
  obtain ⟨k, b⟩ := b
  exact ⟨j + k, wk_append a b⟩
theorem rch_one {E : Nat → Nat → Prop} {u v : Nat} (a : E u v) : Rch E u v := ⟨1, .snoc (.nil u) a⟩
theorem rch_closed {E : Nat → Nat → Prop} {S : Nat → Prop} (h : ∀ u v, S u → E u v → S v) {u v : Nat} (hu : S u) (r : Rch E u v) : S v := by
  obtain ⟨k, r⟩ := r
  induction r with
  | nil => exact hu
  | snoc _ e ih => exact h _ _ (ih hu) e
theorem rch_flip {E : Nat → Nat → Prop} {u v : Nat} (r : Rch E u v) : Rch (fun a b => E b a) v u := by
  obtain ⟨k, r⟩ := r
  induction r with
  | nil => exact rch_refl _
  | snoc _ e ih => exact rch_trans (rch_one e) (ih)
/-- walking from inside a lot to outside of it, one leaves it somewhere -/
theorem rch_leave {E : Nat → Nat → Prop} {S : Nat → Prop} {u v : Nat} (hu : S u) (hv : ¬ S v) (r : Rch E u v) : ∃ x y, S x ∧ ¬ S y ∧ E x y ∧ Rch E u x ∧ Rch E y v := by
  obtain ⟨k, r⟩ := r
  induction r with
  | nil => exact absurd hu hv
  | @snoc k u x v a e ih =>
    by_cases c : S x
    · exact ⟨x, v, c, hv, e, ⟨_, a⟩, rch_refl v⟩
    · obtain ⟨x', y', h1, h2, h3, h4, h5⟩ := ih hu c
      exact ⟨x', y', h1, h2, h3, h4, rch_trans h5 (rch_one e)⟩
/-- a search in depth: what it left, its trail -/
structure Dfs (adj : Nat → List Nat) (p0 : Nat) (S0 seen : Nat → Prop) (left : List Nat) (tr : List (Nat × Nat)) : Prop where
  nd : (left ++ tr.map Prod.fst).Nodup
  iff_ : ∀ x, seen x ↔ S0 x ∨ x ∈ left ∨ x ∈ tr.map Prod.fst
  new : ∀ x, x ∈ left ∨ x ∈ tr.map Prod.fst → ¬ S0 x
  fin : ∀ x ∈ left, ∀ y ∈ adj x, seen y
  frm : ∀ f ∈ tr, ∀ y ∈ (adj f.1).take f.2, seen y
  chain : (tr.map Prod.fst).Pairwise fun a b => Rch (fun u v => v ∈ adj u) a b
  ok : ∀ x, x ∈ left ∨ x ∈ tr.map Prod.fst → Rch (fun u v => v ∈ adj u) p0 x
  mem : p0 ∈ left ∨ p0 ∈ tr.map Prod.fst
  star : ∀ A q B, left = A ++ q :: B → ∀ p, Rch (fun u v => v ∈ adj u) q p → S0 p ∨ p ∈ A ∨ p = q ∨ ∃ y, (y ∈ B ∨ y ∈ tr.map Prod.fst) ∧ Rch (fun u v => v ∈ adj u) q y ∧ Rch (fun u v => v ∈ adj u) y q ∧ Rch (fun u v => v ∈ adj u) y p
section
variable {adj : Nat → List Nat} {p0 : Nat} {S0 seen : Nat → Prop} {left : List Nat} {tr : List (Nat × Nat)} {x i : Nat}
theorem dfs_start (h : ¬ S0 p0) (hs : ∀ x, seen x ↔ S0 x ∨ x = p0) : Dfs adj p0 S0 seen [] [(p0, 0)] where
  nd := by simp
  iff_ := fun x => by rw [hs]; simp
  new := fun x hx => by
    rcases hx with z | z
    · cases z
    · have : x = p0 := by simpa using z
      rw [this]; exact h
  fin := fun x hx => by cases hx
  frm := fun f hf y hy => by
    have : f = (p0, 0) := by simpa using hf
    subst this
    simp at hy
  chain := by simp
  ok := fun x hx => by
    rcases hx with z | z
    · cases z
    · have : x = p0 := by simpa using z
      rw [this]; exact rch_refl _
  mem := .inr (by simp)
  star := fun A q B e => by simp at e
/-- the next one was seen -/
theorem dfs_old (h : Dfs adj p0 S0 seen left (tr ++ [(x, i)])) {y : Nat} (hy : (adj x)[i]? = some y) (hs : seen y) : Dfs adj p0 S0 seen left (tr ++ [(x, i + 1)]) := by
  have e : (tr ++ [(x, i + 1)]).map Prod.fst = (tr ++ [(x, i)]).map Prod.fst := by simp
  refine ⟨e ▸ h.nd, fun z => by rw [e]; exact h.iff_ z, fun z => by rw [e]; exact h.new z, h.fin, fun f hf z hz => ?_, by rw [e]; exact h.chain, fun z => by rw [e]; exact h.ok z, by rw [e]; exact h.mem, by rw [e]; exact h.star⟩
  rcases List.mem_append.mp hf with c | c
  · exact h.frm f (List.mem_append_left _ c) z hz
  · have : f = (x, i + 1) := by simpa using c
    subst this
    rw [show (adj x).take (i + 1) = (adj x).take i ++ [y] by rw [List.take_succ, hy]; rfl] at hz
    rcases List.mem_append.mp hz with c | c
    · exact h.frm (x, i) (List.mem_append_right _ (by simp)) z c
    · rw [List.mem_singleton.mp c]; exact hs
/-- the next one is new -/
theorem dfs_new (h : Dfs adj p0 S0 seen left (tr ++ [(x, i)])) {y : Nat} (hy : (adj x)[i]? = some y) (hs : ¬ seen y) {seen' : Nat → Prop} (hs' : ∀ z, seen' z ↔ seen z ∨ z = y) : Dfs adj p0 S0 seen' left (tr ++ [(x, i + 1)] ++ [(y, 0)]) := by
  have e : (tr ++ [(x, i + 1)] ++ [(y, 0)]).map Prod.fst = (tr ++ [(x, i)]).map Prod.fst ++ [y] := by simp
  have hn := (not_congr (h.iff_ y)).mp hs
  have hxy : y ∈ adj x := List.mem_of_getElem? hy
  have hxt : x ∈ (tr ++ [(x, i)]).map Prod.fst := by simp
  refine ⟨?_, fun z => ?_, fun z hz => ?_, fun z hz w hw => (hs' w).mpr (.inl (h.fin z hz w hw)), fun f hf z hz => ?_, ?_, fun z hz => ?_, ?_, fun A q B el p hp => ?_⟩
  · rw [e, ← List.append_assoc, List.nodup_append]
    refine ⟨h.nd, by simp, fun a ha b hb => ?_⟩
    rw [List.mem_singleton.mp hb]
    rintro rfl
    rcases List.mem_append.mp ha with c | c
    · exact hn (.inr (.inl c))
    · exact hn (.inr (.inr c))
  · rw [hs', h.iff_, e, List.mem_append, List.mem_singleton]
    constructor
    · rintro ((a | a | a) | a)
      · exact .inl a
      · exact .inr (.inl a)
      · exact .inr (.inr (.inl a))
      · exact .inr (.inr (.inr a))
    · rintro (a | a | a | a)
      · exact .inl (.inl a)
      · exact .inl (.inr (.inl a))
      · exact .inl (.inr (.inr a))
      · exact .inr a
  · rw [e, List.mem_append, List.mem_singleton] at hz
    rcases hz with c | c | c
    · exact h.new z (.inl c)
    · exact h.new z (.inr c)
    · rw [c]; exact fun q => hn (.inl q)
  · rcases List.mem_append.mp hf with c | c
    · rcases List.mem_append.mp c with c | c
      · exact (hs' z).mpr (.inl (h.frm f (List.mem_append_left _ c) z hz))
      · have : f = (x, i + 1) := by simpa using c
        subst this
        rw [show (adj x).take (i + 1) = (adj x).take i ++ [y] by rw [List.take_succ, hy]; rfl] at hz
        rcases List.mem_append.mp hz with c | c
        · exact (hs' z).mpr (.inl (h.frm (x, i) (List.mem_append_right _ (by simp)) z c))
        · exact (hs' z).mpr (.inr (List.mem_singleton.mp c))
    · have : f = (y, 0) := by simpa using c
      subst this
      simp at hz
  · rw [e, List.pairwise_append]
    refine ⟨h.chain, by simp, fun a ha b hb => ?_⟩
    rw [List.mem_singleton.mp hb]
    rw [List.map_append, List.mem_append] at ha
    have hc := h.chain
    rw [List.map_append, List.pairwise_append] at hc
    rcases ha with c | c
    · exact rch_trans (hc.2.2 a c x (by simp)) (rch_one hxy)
    · have : a = x := by simpa using c
      rw [this]
      exact rch_one hxy
  · rw [e, List.mem_append, List.mem_singleton] at hz
    rcases hz with c | c | c
    · exact h.ok z (.inl c)
    · exact h.ok z (.inr c)
    · rw [c]; exact rch_trans (h.ok x (.inr hxt)) (rch_one hxy)
  · rw [e, List.mem_append]
    rcases h.mem with c | c
    · exact .inl c
    · exact .inr (.inl c)
  · rcases h.star A q B el p hp with a | a | a | ⟨z, hz, r⟩
    · exact .inl a
    · exact .inr (.inl a)
    · exact .inr (.inr (.inl a))
    · refine .inr (.inr (.inr ⟨z, ?_, r⟩))
      rw [e, List.mem_append]
      rcases hz with c | c
      · exact .inl c
      · exact .inr (.inl c)
/-- the last one of the trail is left -/
theorem dfs_leave (h : Dfs adj p0 S0 seen left (tr ++ [(x, i)])) (hi : (adj x).length ≤ i) (hS : ∀ u v, S0 u → v ∈ adj u → S0 v) : Dfs adj p0 S0 seen (left ++ [x]) tr := by
  have em : (tr ++ [(x, i)]).map Prod.fst = tr.map Prod.fst ++ [x] := by simp
  have hfx : ∀ y ∈ adj x, seen y := fun y hy => h.frm (x, i) (List.mem_append_right _ (by simp)) y (by rw [List.take_of_length_le hi]; exact hy)
  have hx0 : ¬ S0 x := h.new x (.inr (by simp))
  have hnd := h.nd
  rw [em] at hnd
  have perm : (left ++ (tr.map Prod.fst ++ [x])).Perm (left ++ [x] ++ tr.map Prod.fst) := by
    rw [List.append_assoc]
    exact List.Perm.append_left left List.perm_append_comm
  have mm : ∀ z, (z ∈ left ++ [x] ∨ z ∈ tr.map Prod.fst) ↔ (z ∈ left ∨ z ∈ (tr ++ [(x, i)]).map Prod.fst) := fun z => by
    rw [em, List.mem_append, List.mem_append, List.mem_singleton]
    constructor
    · rintro ((a | a) | a)
      · exact .inl a
      · exact .inr (.inr a)
      · exact .inr (.inl a)
    · rintro (a | a | a)
      · exact .inl (.inl a)
      · exact .inr a
      · exact .inl (.inr a)
  have hch := h.chain
  rw [em, List.pairwise_append] at hch
  have finAll : ∀ z, z ∈ left ++ [x] → ∀ y ∈ adj z, seen y := fun z hz => by
    rcases List.mem_append.mp hz with c | c
    · exact h.fin z c
    · rw [List.mem_singleton.mp c]; exact hfx
  refine ⟨perm.nodup_iff.mp hnd, fun z => by rw [h.iff_, mm], fun z hz => h.new z ((mm z).mp hz), finAll, fun f hf => h.frm f (List.mem_append_left _ hf), hch.1, fun z hz => h.ok z ((mm z).mp hz), (mm _).mpr h.mem, fun A q B el p hp => ?_⟩
  rcases List.eq_nil_or_concat B with rfl | ⟨B', b, rfl⟩
  · -- the one just left
    have el2 : left ++ [x] = A ++ [q] := el
    obtain ⟨rfl, hq⟩ := List.append_inj' el2 rfl
    have hq : x = q := by simpa using hq
    subst hq
    by_cases c0 : S0 p ∨ p ∈ left ∨ p = x
    · rcases c0 with a | a | a
      · exact .inl a
      · exact .inr (.inl a)
      · exact .inr (.inr (.inl a))
    · obtain ⟨u, y, hu, hy, huy, r1, r2⟩ := rch_leave (S := fun z => S0 z ∨ z ∈ left ∨ z = x) (.inr (.inr rfl)) c0 hp
      have hsy : seen y := by
        rcases hu with a | a | a
        · exact absurd (.inl (hS _ _ a huy)) hy
        · exact h.fin u a y huy
        · rw [a] at huy; exact hfx y huy
      have hty : y ∈ tr.map Prod.fst := by
        rcases (h.iff_ y).mp hsy with a | a | a
        · exact absurd (.inl a) hy
        · exact absurd (.inr (.inl a)) hy
        · rw [em, List.mem_append, List.mem_singleton] at a
          rcases a with a | a
          · exact a
          · exact absurd (.inr (.inr a)) hy
      exact .inr (.inr (.inr ⟨y, .inr hty, rch_trans r1 (rch_one huy), hch.2.2 y hty x (by simp), r2⟩))
  · rw [List.concat_eq_append] at el ⊢
    have el2 : left ++ [x] = (A ++ q :: B') ++ [b] := by rw [el]; simp
    obtain ⟨rfl, hb⟩ := List.append_inj' el2 rfl
    have hb : x = b := by simpa using hb
    subst hb
    rcases h.star A q B' rfl p hp with a | a | a | ⟨z, hz, r⟩
    · exact .inl a
    · exact .inr (.inl a)
    · exact .inr (.inr (.inl a))
    · refine .inr (.inr (.inr ⟨z, ?_, r⟩))
      rw [em, List.mem_append, List.mem_singleton] at hz
      rcases hz with c | c | c
      · exact .inl (List.mem_append_left _ c)
      · exact .inr c
      · exact .inl (List.mem_append_right _ (by rw [c]; simp))
/-- at the end -/
theorem dfs_end (h : Dfs adj p0 S0 seen left []) (hS : ∀ u v, S0 u → v ∈ adj u → S0 v) :
    left.Nodup ∧ (∀ x, seen x ↔ S0 x ∨ x ∈ left) ∧ (∀ x, x ∈ left ↔ Rch (fun u v => v ∈ adj u) p0 x ∧ ¬ S0 x) ∧ (∀ u v, seen u → v ∈ adj u → seen v) ∧
      ∀ A q B, left = A ++ q :: B → ∀ p, Rch (fun u v => v ∈ adj u) q p → S0 p ∨ p ∈ A ∨ p = q ∨ ∃ y ∈ B, Rch (fun u v => v ∈ adj u) q y ∧ Rch (fun u v => v ∈ adj u) y q ∧ Rch (fun u v => v ∈ adj u) y p := by
  have hs : ∀ x, seen x ↔ S0 x ∨ x ∈ left := fun x => by rw [h.iff_]; simp
  have hcl : ∀ u v, seen u → v ∈ adj u → seen v := fun u v hu hv => by
    rcases (hs u).mp hu with a | a
    · exact (hs v).mpr (.inl (hS u v a hv))
    · exact h.fin u a v hv
  have hp0 : p0 ∈ left := by
    rcases h.mem with a | a
    · exact a
    · simp at a
  refine ⟨by simpa using h.nd, hs, fun x => ⟨fun hx => ⟨h.ok x (.inl hx), h.new x (.inl hx)⟩, fun ⟨r, hn⟩ => ?_⟩, hcl, fun A q B el p hp => ?_⟩
  · have := rch_closed hcl ((hs p0).mpr (.inr hp0)) r
    rcases (hs x).mp this with a | a
    · exact absurd a hn
    · exact a
  · rcases h.star A q B el p hp with a | a | a | ⟨z, hz, r⟩
    · exact .inl a
    · exact .inr (.inl a)
    · exact .inr (.inr (.inl a))
    · rcases hz with c | c
      · exact .inr (.inr (.inr ⟨z, c, r⟩))
      · simp at c
end
/-! ### the measure of a search -/
/-- steps that are still to be made: for points not seen, and for the trail -/
def todo (adj : Nat → List Nat) (seen : List Bool) : Nat → Nat
  | 0 => 0
  | n + 1 => todo adj seen n + (if seen[n]? = some false then (adj n).length + 2 else 0)
def owed (adj : Nat → List Nat) : List (Nat × Nat) → Nat
  | [] => 0
  | f :: r => ((adj f.1).length - f.2 + 1) + owed adj r
theorem owed_app (adj : Nat → List Nat) : ∀ a b : List (Nat × Nat), owed adj (a ++ b) = owed adj a + owed adj b
  | [], b => by simp [owed]
  | f :: r, b => by
    show _ + owed adj (r ++ b) = _ + owed adj r + owed adj b
    rw [owed_app adj r b]
    omega
theorem todo_set (adj : Nat → List Nat) {seen : List Bool} {y : Nat} (h : seen[y]? = some false) : ∀ n, todo adj (seen.set y true) n + (if y < n then (adj y).length + 2 else 0) = todo adj seen n
  | 0 => by simp [todo]
  | n + 1 => by
    have ih := todo_set adj h n
    show (todo adj (seen.set y true) n + (if (seen.set y true)[n]? = some false then (adj n).length + 2 else 0)) + _ = todo adj seen n + (if seen[n]? = some false then (adj n).length + 2 else 0)
    by_cases c : y = n
    · subst c
      have hl : y < seen.length := (List.getElem?_eq_some_iff.mp h).1
      have e1 : (seen.set y true)[y]? = some true := by simp [hl]
      rw [e1, h, if_pos (show y < y + 1 by omega), if_pos (show some false = some false from rfl), if_neg (show ¬ (some true = some false) by simp)]
      rw [if_neg (show ¬ y < y by omega)] at ih
      omega
    · have e1 : (seen.set y true)[n]? = seen[n]? := by rw [List.getElem?_set_ne c]
      rw [e1]
      by_cases d : y < n
      · rw [if_pos (show y < n + 1 by omega)]
        rw [if_pos d] at ih
        omega
      · rw [if_neg (show ¬ y < n + 1 by omega)]
        rw [if_neg d] at ih
        omega
end My
namespace My
open PySem L2 PyProof.Rows
theorem inV_iv (n : Nat) (W : List Nat) : inV (.int (n : Int)) (iv W) = decide (n ∈ W) := by
  unfold inV iv
  induction W with
  | nil => rfl
  | cons a r ih =>
    rw [List.map_cons, List.any_cons, ih]
    by_cases h : a = n
    · subst h
      have e : eqV (V.int (a : Int)) (V.int (a : Int)) = true := by
        show ((a : Int) == (a : Int)) = true
        simp
      rw [e]
      simp
    · have e : eqV (V.int (a : Int)) (V.int (n : Int)) = false := by
        show ((a : Int) == (n : Int)) = false
        simp
        omega
      rw [e]
      have h2 : ¬ n = a := fun z => h z.symm
      simp [h2]
theorem flat_iv (W : List Nat) : (iv W).all flatV = true := by
  rw [List.all_eq_true]
  intro x hx
  obtain ⟨n, _, rfl⟩ := List.mem_map.mp hx
  rfl
/-! ### to where the ties lead -/
def outN (ts : List (Nat × Nat)) (W : List Nat) (u : Nat) : Nat → List Nat
  | 0 => []
  | i + 1 => match ts[i]? with
    | some e => if e.1 = u ∧ i ∉ W then outN ts W u i ++ [e.2] else outN ts W u i
    | none => outN ts W u i
theorem outN_len (ts : List (Nat × Nat)) (W : List Nat) (u : Nat) : ∀ i, (outN ts W u i).length ≤ i
  | 0 => by simp [outN]
  | i + 1 => by
    have := outN_len ts W u i
    unfold outN
    split
    · split
      · simp; omega
      · omega
    · omega
theorem outN_mem (ts : List (Nat × Nat)) (W : List Nat) (u v : Nat) : ∀ i, v ∈ outN ts W u i ↔ ∃ j, j < i ∧ ts[j]? = some (u, v) ∧ j ∉ W
  | 0 => by simp [outN]
  | i + 1 => by
    have ih := outN_mem ts W u v i
    have lift : (∃ j, j < i ∧ ts[j]? = some (u, v) ∧ j ∉ W) → ∃ j, j < i + 1 ∧ ts[j]? = some (u, v) ∧ j ∉ W := fun ⟨j, h1, h2⟩ => ⟨j, by omega, h2⟩
    unfold outN
    split
    · rename_i e he
      split
      · rename_i c
        rw [List.mem_append, ih, List.mem_singleton]
        constructor
        · rintro (h | rfl)
          · exact lift h
          · exact ⟨i, by omega, by rw [he, ← c.1], c.2⟩
        · rintro ⟨j, h1, h2, h3⟩
          by_cases z : j = i
          · subst z
            rw [he] at h2
            right
            rw [Option.some.inj h2]
          · exact .inl ⟨j, by omega, h2, h3⟩
      · rename_i c
        rw [ih]
        refine ⟨lift, ?_⟩
        rintro ⟨j, h1, h2, h3⟩
        by_cases z : j = i
        · subst z
          rw [he] at h2
          refine absurd ⟨?_, h3⟩ c
          rw [Option.some.inj h2]
        · exact ⟨j, by omega, h2, h3⟩
    · rename_i he
      rw [ih]
      refine ⟨lift, ?_⟩
      rintro ⟨j, h1, h2, h3⟩
      by_cases z : j = i
      · subst z
        rw [he] at h2
        cases h2
      · exact ⟨j, by omega, h2, h3⟩
abbrev outs (ts : List (Nat × Nat)) (W : List Nat) (u : Nat) : List Nat := outN ts W u ts.length
theorem outs_mem {ts : List (Nat × Nat)} {W : List Nat} {u v : Nat} : v ∈ outs ts W u ↔ Edge ts W u v := by
  rw [outs, outN_mem]
  constructor
  · rintro ⟨j, _, h⟩
    exact ⟨j, h⟩
  · rintro ⟨j, h⟩
    exact ⟨j, (List.getElem?_eq_some_iff.mp h.1).1, h⟩
/-- the booleans that tell what was seen -/
abbrev bv (L : List Bool) : List V := L.map V.bl
abbrev Got (L : List Bool) (x : Nat) : Prop := L[x]? = some true
structure LfOk (adj : Nat → List Nat) (N : Nat) : Prop where
  n1 : N ≤ 60
  lt : ∀ u, ∀ v ∈ adj u, v < N
  sz : ∀ u, (adj u).length ≤ 80
structure LfRes (adj : Nat → List Nat) (N p : Nat) (S S' : List Bool) (L : List Nat) : Prop where
  nd : L.Nodup
  ln : S'.length = N
  lt : ∀ x ∈ L, x < N
  got : ∀ x, Got S' x ↔ Got S x ∨ x ∈ L
  mem : ∀ x, x ∈ L ↔ Rch (fun u v => v ∈ adj u) p x ∧ ¬ Got S x
  cl : ∀ u v, Got S' u → v ∈ adj u → Got S' v
  star : ∀ A q B, L = A ++ q :: B → ∀ x, Rch (fun u v => v ∈ adj u) q x → Got S x ∨ x ∈ A ∨ x = q ∨ ∃ y ∈ B, Rch (fun u v => v ∈ adj u) q y ∧ Rch (fun u v => v ∈ adj u) y q ∧ Rch (fun u v => v ∈ adj u) y x
theorem paired_end1 {α β : Type} {F : α → β → Prop} : ∀ {l1 : List α} {l2 : List β} {b : β}, Paired F l1 (l2 ++ [b]) → ∃ m a, l1 = m ++ [a] ∧ Paired F m l2 ∧ F a b
  | _, [], _, .cons r .nil => ⟨[], _, rfl, .nil, r⟩
  | _, _ :: l2, b, .cons r t => by
    obtain ⟨m, a, e, h1, h2⟩ := paired_end1 (l2 := l2) t
    exact ⟨_ :: m, a, by rw [e]; rfl, .cons r h1, h2⟩
theorem TiesAt.pop {H : Hp} {l : Addr} {tr : List (Nat × Nat)} {f : Nat × Nat} (h : TiesAt H l (tr ++ [f])) :
    ∃ xs p, H l = some (.lst xs) ∧ xs[xs.length - 1]? = some (.ref p) ∧ H p = some (.tup [.int (f.1 : Int), .int (f.2 : Int)]) ∧ TiesAt (upd H l (.lst xs.dropLast)) l tr := by
  obtain ⟨tas, h1, h2⟩ := h
  obtain ⟨m, a, rfl, h3, h4⟩ := paired_end1 h2
  refine ⟨_, a, h1, ?_, h4, m, ?_, paired_mono (fun q e hq => ?_) h3⟩
  · rw [List.map_append, List.length_append, List.length_map, List.getElem?_append_right (by simp), List.length_map]
    simp
  · rw [upd_same, List.map_append]
    show some (HO.lst (List.dropLast (m.map V.ref ++ [V.ref a]))) = _
    rw [List.dropLast_concat]
  · have nq : q ≠ l := ne_of hq h1 (by intro z; cases z)
    show upd _ _ _ q = _
    rw [upd_ne nq]
    exact hq
theorem bv_at {L : List Bool} {j : Nat} {b : Bool} (h : L[j]? = some b) : atI (bv L) (j : Int) = some (.bl b) := by
  refine atI_nat ?_
  rw [bv, List.getElem?_map, h]
  rfl
theorem ix_at {n j : Nat} (hj : j < n) : ixN n (j : Int) = some j := by
  unfold ixN
  rw [if_pos (by omega), if_pos (by omega)]
  simp
theorem bv_set (L : List Bool) (j : Nat) : (bv L).set j (.bl true) = bv (L.set j true) := by
  unfold bv
  rw [List.map_set]
theorem got_set {L : List Bool} {j : Nat} (hj : j < L.length) (x : Nat) : Got (L.set j true) x ↔ Got L x ∨ x = j := by
  unfold Got
  by_cases c : x = j
  · subst c
    simp [hj]
  · rw [List.getElem?_set_ne (fun z => c z.symm)]
    simp [c]
theorem bl_of {L : List Bool} {j : Nat} (hj : j < L.length) : L[j]? = some true ∨ L[j]? = some false := by
  rw [List.getElem?_eq_getElem hj]
  cases L[j] <;> simp
section
variable {P : Program} {w : World} {K : PySem.W.Frag} {mg : Str → Option Value} {base : Heap} {C CPE cM : Addr} {XA : Str → Addr} {TL : List (Addr × Str)}
def sp_left_from (_ : PySem.W.Frag) (C : Addr) (XA : Str → Addr) : Sp := fun vs H Q _ => ∃ e p s adj N S, vs = [.ref e, .int ((p : Nat) : Int), .ref s] ∧ RowsAt H e N adj ∧ LfOk adj N ∧ p < N ∧ H s = some (.lst (bv S)) ∧ S.length = N ∧ ¬ Got S p ∧ (∀ u v, Got S u → v ∈ adj u → Got S v) ∧ ∀ H' l L S', H l = none → H' l = some (.lst (iv L)) → H' s = some (.lst (bv S')) → Kept s H H' → LfRes adj N p S S' L → Q (.ref l) H'
theorem ok_left_from (D : Def K mg "_left_from" s_left_from ["ends", "point", "seen"]) (B : Bs mg) (Glb : Glo mg) (WK : WebK K mg C) (EXInvalidWeb : ExcF P w K mg base "value" "InvalidWeb" (XA "InvalidWeb")) (EXInvalidPlaces : ExcF P w K mg base "value" "InvalidPlaces" (XA "InvalidPlaces")) (EXInvalidTies : ExcF P w K mg base "value" "InvalidTies" (XA "InvalidTies")) (EXInvalidPlace : ExcF P w K mg base "value" "InvalidPlace" (XA "InvalidPlace")) (EXInvalidWalk : ExcF P w K mg base "value" "InvalidWalk" (XA "InvalidWalk")) (EXInvalidRound : ExcF P w K mg base "value" "InvalidRound" (XA "InvalidRound")) (EXInvalidWithout : ExcF P w K mg base "value" "InvalidWithout" (XA "InvalidWithout")) (EXInvalidPart : ExcF P w K mg base "value" "InvalidPart" (XA "InvalidPart")) (PErr : mg "PieceError" = some (.ref CPE)) (EXM : ExM K XA CPE) :
    Good P w K mg base "_left_from" s_left_from ["ends", "point", "seen"] 1 (sp_left_from K C XA) := by
  refine D.good fun f fd F => ?_
  refine F.ok sc_left_from (fun vs H Q E h => ?_) (fun cdv A outer s H vs Q E hr h => ?_)
  · obtain ⟨e, p, s, adj, N, S, rfl, hR, hA, hp, hs, hSl, hnp, hcl, q⟩ := h
    first | rfl | (rcases h with ⟨_, _, rfl, _⟩ | ⟨_, rfl, _⟩ <;> rfl)
  obtain ⟨e, p, s, adj, N, S, rfl, hR, hA, hp, hs, hSl, hnp, hcl, q⟩ := h
  refine ⟨_, (pss_cons (ps_set (i := 3) sc_left_from.nd rfl (by first | exact Or.inl rfl | exact Or.inr rfl) (pe_lst pa_nil))
  (pss_cons (ps_asg pe_bl (pg_sub (pv 2) (pv 1) set_list))
  (pss_cons (ps_set (i := 4) sc_left_from.nd rfl (by first | exact Or.inl rfl | exact Or.inr rfl) (pe_lst (pa_cons (pe_tup (pa_cons (pv 1) (pa_cons pe_int pa_nil))) pa_nil)))
  (pss_cons (ps_while PassesOwn.never (pt_cmpR (op_neD hr.units) (pv 4) (pe_lst pa_nil) (nomark _))
    (pss_cons (ps_asg (pe_bm0 PySem.F.plainAttrs_list PySem.F.slot_list_pop PySem.F.type_list_pop mt_pop (pv 4)) (pg_tup rfl (pgs_cons (pg_name (i := 5) sc_left_from.nd rfl (by first | exact Or.inl rfl | exact Or.inr rfl)) (pgs_cons (pg_name (i := 6) sc_left_from.nd rfl (by first | exact Or.inl rfl | exact Or.inr rfl)) pgs_nil))))
  (pss_cons (ps_if (pt_cmpR op_eq (pv 6) (pe_callB call_len_seq (by rfl) B.len (by decide +kernel) (pa_cons (pe_ix ix_list (pv 0) (pv 5) (fun _ _ => rfl)) pa_nil)) (nomark _))
    (pss_cons (ps_expr (pe_bm PySem.F.plainAttrs_list PySem.F.slot_list_append PySem.F.type_list_append mt_append (pv 3) (pa_cons (pv 5) pa_nil)))
  (pss_one ps_continue)) pss_nil)
  (pss_cons (ps_expr (pe_bm PySem.F.plainAttrs_list PySem.F.slot_list_append PySem.F.type_list_append mt_append (pv 4) (pa_cons (pe_tup (pa_cons (pv 5) (pa_cons (pe_op op_add (pv 6) pe_int) pa_nil))) pa_nil)))
  (pss_cons (ps_set (i := 7) sc_left_from.nd rfl (by first | exact Or.inl rfl | exact Or.inr rfl) (pe_ix ix_list (pe_ix ix_list (pv 0) (pv 5) (fun _ _ => rfl)) (pv 6) (fun _ _ => rfl)))
  (pss_one (ps_if (pt_not (pt_val (pe_ix ix_list (pv 2) (pv 7) (fun _ _ => rfl))))
    (pss_cons (ps_asg pe_bl (pg_sub (pv 2) (pv 7) set_list))
  (pss_one (ps_expr (pe_bm PySem.F.plainAttrs_list PySem.F.slot_list_append PySem.F.type_list_append mt_append (pv 4) (pa_cons (pe_tup (pa_cons (pv 7) (pa_cons pe_int pa_nil))) pa_nil))))) pss_nil)))))))
  (pss_one (ps_ret (pv 3))))))), ?_⟩
  have hN := hA.n1
  have hRk : ∀ H', Kept s H H' → RowsAt H' e N adj := fun H' k => by
    obtain ⟨fas, r1, r2, r3⟩ := hR
    have nes : ∀ b (L : List Nat), H b = some (.lst (iv L)) → b ≠ s := fun b L hb z => by
      rw [z, hs] at hb
      have hb := HO.lst.inj (Option.some.inj hb)
      cases S with
      | nil => simp at hSl; omega
      | cons t r =>
        cases L with
        | nil => cases hb
        | cons n r' => cases (List.cons.inj hb).1
    have ees : e ≠ s := fun z => by
      rw [z, hs] at r1
      have r1 := HO.lst.inj (Option.some.inj r1)
      cases S with
      | nil => simp at hSl; omega
      | cons t r =>
        cases fas with
        | nil => cases r1
        | cons n r' => cases (List.cons.inj r1).1
    exact ⟨fas, k _ _ r1 ees, r2, fun j x ej => k _ _ (r3 j x ej) (nes _ _ (r3 j x ej))⟩
  refine ⟨Nat.zero_le _, fun ll nll => ?_⟩
  have nls : ll ≠ s := (ne_of_none hs nll).symm
  refine ⟨_, rfl, _, rfl, s, _, _, p, rfl, rfl, (by rw [upd_ne nls.symm]; exact hs), ix_at (by rw [List.length_map, hSl]; exact hp), ?_⟩
  rw [bv_set]
  generalize e1 : upd (upd H ll (.lst [])) s (.lst (bv (S.set p true))) = H1
  have hs1 : H1 s = some (.lst (bv (S.set p true))) := by rw [← e1]; exact upd_same
  have hll1 : H1 ll = some (.lst (iv [])) := by rw [← e1, upd_ne nls]; exact upd_same
  have hk1 : Kept s H H1 := fun b o z n => by rw [← e1, upd_ne n]; exact same_new nll _ _ _ z
  refine ⟨_, rfl, (by show 2 ≤ sizeLine; decide), fun tp ntp => ⟨(by show 1 ≤ sizeLine; decide), fun tl ntl => ?_⟩⟩
  have nts : tp ≠ s := (ne_of_none hs1 ntp).symm
  have htl0 : TiesAt (upd (upd H1 tp (.tup [.int (p : Int), .int 0])) tl (.lst [.ref tp])) tl [(p, 0)] := ⟨[tp], upd_same, .cons (by show upd _ _ _ tp = _; rw [upd_ne (fun z => by rw [z] at ntl; rw [upd_same] at ntl; cases ntl), upd_same]; rfl) .nil⟩
  have hk2 : Kept s H (upd (upd H1 tp (.tup [.int (p : Int), .int 0])) tl (.lst [.ref tp])) := (hk1.new ntp).new ntl
  have hs2 := same_new ntl (.lst [.ref tp]) _ _ (same_new ntp (.tup [.int (p : Int), .int 0]) _ _ hs1)
  have hll2 := same_new ntl (.lst [.ref tp]) _ _ (same_new ntp (.tup [.int (p : Int), .int 0]) _ _ hll1)
  have ntl1 : H1 tl = none := by
    by_cases c : tl = tp
    · rw [c]; exact ntp
    · rw [upd_ne c] at ntl; exact ntl
  have ntls : tl ≠ s := (ne_of_none hs1 ntl1).symm
  have ntll : tl ≠ ll := (ne_of_none hll1 ntl1).symm
  have ntlH : H tl = none := by
    cases z : H tl with
    | none => rfl
    | some o => rw [hk1 _ _ z ntls] at ntl1; cases ntl1
  generalize upd (upd H1 tp (.tup [.int (p : Int), .int 0])) tl (.lst [.ref tp]) = H2 at htl0 hk2 hs2 hll2
  have hpS : p < S.length := by omega
  let Pv : Nat → L2.St → Hp → Prop := fun m σ H' => ∃ (v5 v6 v7 : Option V) (left : List Nat) (tr : List (Nat × Nat)) (Sc : List Bool), σ = [some (.ref e), some (.int (p : Int)), some (.ref s), some (.ref ll), some (.ref tl), v5, v6, v7] ∧ Kept s H H' ∧ H' ll = some (.lst (iv left)) ∧ TiesAt H' tl tr ∧ H' s = some (.lst (bv Sc)) ∧ Sc.length = N ∧ Dfs adj p (Got S) (Got Sc) left tr ∧ (∀ f ∈ tr, f.2 ≤ (adj f.1).length) ∧ todo adj Sc N + owed adj tr = m
  refine ⟨Pv, ⟨_, none, none, none, [], [(p, 0)], S.set p true, rfl, hk2, hll2, htl0, hs2, by rw [List.length_set]; exact hSl, dfs_start hnp (got_set hpS), fun f hf => by rw [List.mem_singleton.mp hf]; exact Nat.zero_le _, rfl⟩, ?_⟩
  rintro m σ H3 ⟨v5, v6, v7, left, tr, Sc, rfl, hk3, hll3, htl3, hs3, hSc, hD, hle, hμ⟩
  refine ⟨_, rfl, Nat.zero_le _, fun p0 np0 => ⟨_, _, dp_tz (htl3.same (same_new np0 _)), dp_iz (L := []) upd_same, shaped_tz _, shaped_iz _, _, rfl, ?_⟩⟩
  rw [eqv_tz]
  have hk4 := hk3.new (o := .lst []) np0
  have hll4 := same_new np0 (.lst []) _ _ hll3
  have htl4 := htl3.same (same_new np0 (.lst []))
  have hs4 := same_new np0 (.lst []) _ _ hs3
  generalize upd H3 p0 (.lst []) = H4 at hk4 hll4 htl4 hs4
  rcases List.eq_nil_or_concat tr with rfl | ⟨rest, ⟨x, i⟩, rfl⟩
  · refine iteNot' rfl ⟨_, rfl, ?_⟩
    obtain ⟨d1, d2, d3, d4, d5⟩ := dfs_end hD hcl
    exact q _ ll left Sc nll hll4 hs4 hk4 ⟨d1, hSc, fun x hx => by have := (List.getElem?_eq_some_iff.mp ((d2 x).mpr (.inr hx))).1; omega, d2, d3, d4, d5⟩
  rw [List.concat_eq_append] at *
  refine iteNot (by simp) ?_
  refine ⟨fun σ' H' => ∃ m', m' < m ∧ Pv m' σ' H', fun σ' H' h => h, ?_⟩
  obtain ⟨xs, pt, g1, g2, g3, g4⟩ := htl4.pop
  refine ⟨_, rfl, .inl ⟨rfl, _, SqL.of g1⟩, tl, _, _, rfl, rfl, g1, g2, ?_⟩
  have nptl : pt ≠ tl := ne_of g3 g1 (by intro z; cases z)
  have hk5 : Kept s H (upd H4 tl (.lst xs.dropLast)) := hk4.put ntlH
  have hll5 : (upd H4 tl (.lst xs.dropLast)) ll = some (.lst (iv left)) := by rw [upd_ne ntll.symm]; exact hll4
  have hs5 : (upd H4 tl (.lst xs.dropLast)) s = some (.lst (bv Sc)) := by rw [upd_ne ntls.symm]; exact hs4
  have hp5 : (upd H4 tl (.lst xs.dropLast)) pt = some (.tup [.int (x : Int), .int (i : Int)]) := by rw [upd_ne nptl]; exact g3
  generalize upd H4 tl (.lst xs.dropLast) = H5 at hk5 hll5 hs5 hp5 g4
  refine ⟨pt, _, rfl, SqT.of hp5, rfl, _, _, rfl, _, _, rfl, rfl, ?_⟩
  have hgx : Got Sc x := (hD.iff_ x).mpr (.inr (.inr (by simp)))
  have hxN : x < N := by have := (List.getElem?_eq_some_iff.mp hgx).1; omega
  have hix : i ≤ (adj x).length := hle (x, i) (by simp)
  have hszx := hA.sz x
  have hmany : left.length + rest.length + 1 ≤ N := by
    have h1 := few (N := N) hD.nd (fun z hz => by
      have hg : Got Sc z := by
        rw [hD.iff_]
        rcases List.mem_append.mp hz with c | c
        · exact .inr (.inl c)
        · exact .inr (.inr c)
      have := (List.getElem?_eq_some_iff.mp hg).1
      omega)
    rw [List.length_append, List.length_map, List.length_append, List.length_singleton] at h1
    omega
  have how : owed adj (rest ++ [(x, i)]) = owed adj rest + ((adj x).length - i + 1) := by
    rw [owed_app]
    show owed adj rest + (((adj x).length - i + 1) + 0) = _
    omega
  obtain ⟨rx, rxs, e1, e2, e3⟩ := (hRk _ hk5).get hxN
  refine ⟨_, rfl, _, rfl, _, rfl, _, _, _, .ref rx, rfl, rfl, SqL.of e1, e2, rx, _, rfl, .inl (SqL.of e3), rfl, _, rfl, ?_⟩
  by_cases c : i = (adj x).length
  · refine iteYes (int_eq.mpr (by rw [List.length_map, c])) ?_
    refine ⟨_, rfl, .inl ⟨rfl, _, SqL.of hll5⟩, _, rfl, ll, _, _, rfl, rfl, hll5, ?_, ?_⟩
    · rw [List.length_map]
      exact Nat.lt_of_lt_of_le (by omega : left.length < 1000) (by decide)
    refine ⟨_, ?_, _, _, v7, left ++ [x], rest, Sc, rfl, hk5.put nll, by rw [upd_same, iv_app], ?_, ?_, hSc, dfs_leave hD (by omega) hcl, fun f hf => hle f (List.mem_append_left _ hf), rfl⟩
    · rw [← hμ, how]
      omega
    · obtain ⟨tas, t1, t2⟩ := g4
      refine ⟨tas, by rw [upd_ne ntll]; exact t1, paired_mono (fun q' e' hq => ?_) t2⟩
      have : q' ≠ ll := ne_of hq hll5 (by intro z; cases z)
      show upd _ _ _ q' = _
      rw [upd_ne this]
      exact hq
    · rw [upd_ne nls.symm]
      exact hs5
  refine iteNo (fun z => c (by have := int_eq.mp z; rw [List.length_map] at this; omega)) ?_
  have hil : i < (adj x).length := by omega
  obtain ⟨xs1, hx1, hx1l⟩ := g4.get
  refine ⟨_, rfl, .inl ⟨rfl, _, SqL.of hx1⟩, _, rfl, _, rfl, _, _, rfl, rfl, (by show 2 ≤ sizeLine; decide), fun tq ntq => ?_⟩
  obtain ⟨ys, k1, k2, k3⟩ := g4.pushV (u := x) (v := i + 1) (x := V.int (x : Int)) (y := V.int ((i : Int) + 1)) rfl rfl ntq
  refine ⟨tl, _, _, rfl, rfl, k1, by rw [k2]; exact Nat.lt_of_lt_of_le (by omega : rest.length < 1000) (by decide), ?_⟩
  have hk6 : Kept s H (upd (upd H5 tq (.tup [.int (x : Int), .int ((i : Int) + 1)])) tl (.lst (ys ++ [.ref tq]))) := (hk5.new ntq).put ntlH
  have hll6 : (upd (upd H5 tq (.tup [.int (x : Int), .int ((i : Int) + 1)])) tl (.lst (ys ++ [.ref tq]))) ll = some (.lst (iv left)) := by rw [upd_ne ntll.symm]; exact same_new ntq _ _ _ hll5
  have hs6 : (upd (upd H5 tq (.tup [.int (x : Int), .int ((i : Int) + 1)])) tl (.lst (ys ++ [.ref tq]))) s = some (.lst (bv Sc)) := by rw [upd_ne ntls.symm]; exact same_new ntq _ _ _ hs5
  dsimp only
  generalize upd (upd H5 tq (.tup [.int (x : Int), .int ((i : Int) + 1)])) tl (.lst (ys ++ [.ref tq])) = H6 at hk6 hll6 hs6 k3
  obtain ⟨rx6, rxs6, f1, f2, f3⟩ := (hRk _ hk6).get hxN
  have hy : (adj x)[i]? = some ((adj x)[i]'hil) := List.getElem?_eq_getElem hil
  generalize (adj x)[i]'hil = y at hy
  have hyN : y < N := hA.lt x y (List.mem_of_getElem? hy)
  refine ⟨_, rfl, _, rfl, _, _, _, .ref rx6, rfl, rfl, SqL.of f1, f2, _, rfl, _, _, _, .int (y : Int), rfl, rfl, SqL.of f3, iv_at hy, ?_⟩
  have how2 : owed adj (rest ++ [(x, i + 1)]) = owed adj rest + ((adj x).length - (i + 1) + 1) := by
    rw [owed_app]
    show owed adj rest + (((adj x).length - (i + 1) + 1) + 0) = _
    omega
  have hle2 : ∀ f ∈ rest ++ [(x, i + 1)], f.2 ≤ (adj f.1).length := fun f hf => by
    rcases List.mem_append.mp hf with z | z
    · exact hle f (List.mem_append_left _ z)
    · rw [List.mem_singleton.mp z]
      exact hil
  rcases bl_of (L := Sc) (j := y) (by omega) with hb | hb
  · refine ⟨_, rfl, _, rfl, _, _, _, _, rfl, rfl, SqL.of hs6, bv_at hb, _, rfl, iteF ?_⟩
    refine ⟨_, ?_, _, _, _, left, rest ++ [(x, i + 1)], Sc, rfl, hk6, hll6, k3, hs6, hSc, dfs_old hD hy hb, hle2, rfl⟩
    rw [← hμ, how, how2]
    omega
  · refine ⟨_, rfl, _, rfl, _, _, _, _, rfl, rfl, SqL.of hs6, bv_at hb, _, rfl, iteT ?_⟩
    have hnew : ¬ Got Sc y := fun z => by unfold Got at z; rw [hb] at z; cases z
    refine ⟨_, rfl, _, rfl, s, _, _, y, rfl, rfl, hs6, ix_at (by rw [List.length_map, hSc]; exact hyN), ?_⟩
    rw [bv_set]
    have hk7 : Kept s H (upd H6 s (.lst (bv (Sc.set y true)))) := fun b o z n => by rw [upd_ne n]; exact hk6 _ _ z n
    have hll7 : (upd H6 s (.lst (bv (Sc.set y true)))) ll = some (.lst (iv left)) := by rw [upd_ne nls]; exact hll6
    have hs7 : (upd H6 s (.lst (bv (Sc.set y true)))) s = some (.lst (bv (Sc.set y true))) := upd_same
    have hT7 : TiesAt (upd H6 s (.lst (bv (Sc.set y true)))) tl (rest ++ [(x, i + 1)]) := by
      obtain ⟨tas, t1, t2⟩ := k3
      refine ⟨tas, by rw [upd_ne ntls]; exact t1, paired_mono (fun q' e' hq => ?_) t2⟩
      have : q' ≠ s := ne_of hq hs6 (by intro z; cases z)
      show upd _ _ _ q' = _
      rw [upd_ne this]
      exact hq
    generalize upd H6 s (.lst (bv (Sc.set y true))) = H7 at hk7 hll7 hs7 hT7
    obtain ⟨xs7, hx7, hx7l⟩ := hT7.get
    refine ⟨_, rfl, .inl ⟨rfl, _, SqL.of hx7⟩, _, rfl, (by show 2 ≤ sizeLine; decide), fun tr2 ntr => ?_⟩
    obtain ⟨zs, m1, m2, m3⟩ := hT7.pushV (u := y) (v := 0) (x := V.int (y : Int)) (y := V.int 0) rfl rfl ntr
    refine ⟨tl, _, _, rfl, rfl, m1, by rw [m2, List.length_append, List.length_singleton]; exact Nat.lt_of_lt_of_le (by omega : rest.length + 1 < 1000) (by decide), ?_⟩
    have hset := todo_set adj hb N
    rw [if_pos hyN] at hset
    have how3 : owed adj (rest ++ [(x, i + 1)] ++ [(y, 0)]) = owed adj (rest ++ [(x, i + 1)]) + ((adj y).length + 1) := by
      rw [owed_app]
      show _ + (((adj y).length - 0 + 1) + 0) = _
      omega
    refine ⟨_, ?_, _, _, _, left, rest ++ [(x, i + 1)] ++ [(y, 0)], Sc.set y true, rfl, (hk7.new ntr).put ntlH, by rw [upd_ne ntll.symm]; exact same_new ntr _ _ _ hll7, m3, by rw [upd_ne ntls.symm]; exact same_new ntr _ _ _ hs7, by rw [List.length_set]; exact hSc, dfs_new hD hy hnew (got_set (by omega)), fun f hf => ?_, rfl⟩
    · rw [← hμ, how, how3, how2]
      omega
    · rcases List.mem_append.mp hf with z | z
      · exact hle2 f z
      · rw [List.mem_singleton.mp z]
        exact Nat.zero_le _
end
end My
namespace My
open PySem PySem.W L2 L2.DX PyProof.Rows
/-! ### the parts of a web -/
def Mut (E : Nat → Nat → Prop) (u v : Nat) : Prop := Rch E u v ∧ Rch E v u
theorem mut_refl {E : Nat → Nat → Prop} (u : Nat) : Mut E u u := ⟨rch_refl u, rch_refl u⟩
theorem Mut.symm {E : Nat → Nat → Prop} {u v : Nat} (h : Mut E u v) : Mut E v u := ⟨h.2, h.1⟩
theorem Mut.trans {E : Nat → Nat → Prop} {u v w : Nat} (h : Mut E u v) (k : Mut E v w) : Mut E u w := ⟨rch_trans h.1 k.1, rch_trans k.2 h.2⟩
theorem rch_back {E F : Nat → Nat → Prop} (h : ∀ a b, F a b ↔ E b a) {u v : Nat} : Rch F u v ↔ Rch E v u := by
  constructor
  · intro r
    obtain ⟨k, r⟩ := rch_flip r
    refine rch_closed (S := fun x => Rch E v x) (fun a b ha e => rch_trans ha (rch_one ((h b a).mp e))) (rch_refl v) ⟨k, r⟩
  · intro r
    obtain ⟨k, r⟩ := rch_flip r
    refine rch_closed (S := fun x => Rch F u x) (fun a b ha e => rch_trans ha (rch_one ((h a b).mpr e))) (rch_refl u) ⟨k, r⟩
theorem mut_back {E F : Nat → Nat → Prop} (h : ∀ a b, F a b ↔ E b a) {u v : Nat} : Mut F u v ↔ Mut E u v := by
  unfold Mut
  rw [rch_back h, rch_back h]
  exact ⟨fun z => ⟨z.2, z.1⟩, fun z => ⟨z.2, z.1⟩⟩
theorem rch_low {E : Nat → Nat → Prop} {N : Nat} (h : ∀ a b, E a b → a < N) {u v : Nat} (hv : v < N) (r : Rch E u v) : u < N := by
  by_cases c : u = v
  · omega
  · obtain ⟨x, y, hx, hy, e, _⟩ := rch_leave (S := fun z => z = u) rfl (fun z => c z.symm) r
    rw [hx] at e
    exact h _ _ e
/-- the sequence in which a search leaves the points -/
def StarL (E : Nat → Nat → Prop) (L : List Nat) : Prop := ∀ A q B, L = A ++ q :: B → ∀ x, Rch E q x → x ∈ A ∨ x = q ∨ ∃ y ∈ B, Rch E q y ∧ Rch E y q ∧ Rch E y x
theorem star_nil {E : Nat → Nat → Prop} : StarL E [] := fun A q B e => by simp at e
theorem star_app {E : Nat → Nat → Prop} {L M : List Nat} (h : StarL E L) (k : ∀ A q B, M = A ++ q :: B → ∀ x, Rch E q x → x ∈ L ∨ x ∈ A ∨ x = q ∨ ∃ y ∈ B, Rch E q y ∧ Rch E y q ∧ Rch E y x) : StarL E (L ++ M) := by
  intro A q B e x r
  rcases List.append_eq_append_iff.mp e with ⟨a', h1, h2⟩ | ⟨c', h1, h2⟩
  · rcases k a' q B h2 x r with z | z | z | z
    · exact .inl (by rw [h1]; exact List.mem_append_left _ z)
    · exact .inl (by rw [h1]; exact List.mem_append_right _ z)
    · exact .inr (.inl z)
    · exact .inr (.inr z)
  · cases c' with
    | nil =>
      simp at h1 h2
      rcases k [] q B (by rw [← h2]; rfl) x r with z | z | z | z
      · exact .inl (by rw [← h1]; exact z)
      · simp at z
      · exact .inr (.inl z)
      · exact .inr (.inr z)
    | cons c0 cr =>
      have e0 : q = c0 := (List.cons.inj h2).1
      have e1 : B = cr ++ M := (List.cons.inj h2).2
      subst e0
      rcases h A q cr h1 x r with z | z | ⟨y, hy, z⟩
      · exact .inl z
      · exact .inr (.inl z)
      · exact .inr (.inr ⟨y, by rw [e1]; exact List.mem_append_left _ hy, z⟩)
theorem star_class {E : Nat → Nat → Prop} {q : Nat} {B : List Nat} : ∀ (n : Nat) {A1 A2 : List Nat} {x : Nat}, A2.length ≤ n → StarL E (A1 ++ x :: (A2 ++ q :: B)) → (A1 ++ x :: (A2 ++ q :: B)).Nodup → Rch E x q → Mut E x q ∨ ∃ y ∈ B, Mut E x y := by
  intro n
  induction n with
  | zero =>
    intro A1 A2 x hn hs hd r
    have e : A2 = [] := List.length_eq_zero_iff.mp (by omega)
    subst e
    rw [List.nil_append] at hs hd
    have hd2 := List.nodup_append.mp hd
    rcases hs A1 x _ rfl q r with z | z | ⟨y, hy, r1, r2, r3⟩
    · exact absurd rfl (hd2.2.2 q z q (by simp))
    · have := (List.nodup_cons.mp hd2.2.1).1
      rw [z] at this
      exact absurd List.mem_cons_self this
    · rcases List.mem_cons.mp hy with z | z
      · rw [z] at r1 r2
        exact .inl ⟨r1, r2⟩
      · exact .inr ⟨y, z, r1, r2⟩
  | succ n ih =>
    intro A1 A2 x hn hs hd r
    have hd2 := List.nodup_append.mp hd
    rcases hs A1 x _ rfl q r with z | z | ⟨y, hy, r1, r2, r3⟩
    · exact absurd rfl (hd2.2.2 q z q (by simp))
    · have := (List.nodup_cons.mp hd2.2.1).1
      rw [z] at this
      exact absurd (by simp) this
    · rcases List.mem_append.mp hy with z | z
      · obtain ⟨C1, C2, rfl⟩ := List.append_of_mem z
        have e2 : A1 ++ x :: (C1 ++ y :: C2 ++ q :: B) = (A1 ++ x :: C1) ++ y :: (C2 ++ q :: B) := by simp
        rw [e2] at hs hd
        have hl : C2.length ≤ n := by
          rw [List.length_append, List.length_cons] at hn
          omega
        rcases ih hl hs hd r3 with w | ⟨v, hv, w⟩
        · exact .inl (Mut.trans ⟨r1, r2⟩ w)
        · exact .inr ⟨v, hv, Mut.trans ⟨r1, r2⟩ w⟩
      · rcases List.mem_cons.mp z with w | w
        · rw [w] at r1 r2
          exact .inl ⟨r1, r2⟩
        · exact .inr ⟨y, w, r1, r2⟩
theorem class_of {E : Nat → Nat → Prop} {A B : List Nat} {q : Nat} {S : Nat → Prop} (hs : StarL E (A ++ q :: B)) (hd : (A ++ q :: B).Nodup) (hall : ∀ x, Rch E x q → x ∈ A ++ q :: B) (hS : ∀ x, S x ↔ ∃ y ∈ B, Mut E y x) (hq : ¬ S q) (x : Nat) : (Rch E x q ∧ ¬ S x) ↔ Mut E q x := by
  constructor
  · rintro ⟨r, hn⟩
    rcases List.mem_append.mp (hall x r) with z | z
    · obtain ⟨A1, A2, rfl⟩ := List.append_of_mem z
      rw [show A1 ++ x :: A2 ++ q :: B = A1 ++ x :: (A2 ++ q :: B) by simp] at hs hd
      rcases star_class A2.length (Nat.le_refl _) hs hd r with w | ⟨y, hy, w⟩
      · exact w.symm
      · exact absurd ((hS x).mpr ⟨y, hy, w.symm⟩) hn
    · rcases List.mem_cons.mp z with w | w
      · rw [w]; exact mut_refl q
      · exact absurd ((hS x).mpr ⟨x, w, mut_refl x⟩) hn
  · intro h
    refine ⟨h.2, fun z => hq ?_⟩
    obtain ⟨y, hy, w⟩ := (hS x).mp z
    exact (hS q).mpr ⟨y, hy, w.trans h.symm⟩
/-! ### as they are told -/
noncomputable def bdec (p : Prop) : Bool := @decide p (Classical.propDecidable p)
theorem bdec_iff {p : Prop} : bdec p = true ↔ p := by
  unfold bdec
  exact @decide_eq_true_iff p (Classical.propDecidable p)
noncomputable def clsL (E : Nat → Nat → Prop) (N p : Nat) : List Nat := (List.range N).filter fun x => bdec (Mut E p x)
theorem clsL_mem {E : Nat → Nat → Prop} {N p x : Nat} : x ∈ clsL E N p ↔ x < N ∧ Mut E p x := by
  unfold clsL
  rw [List.mem_filter, List.mem_range, bdec_iff]
theorem clsL_rising {E : Nat → Nat → Prop} {N p : Nat} : (clsL E N p).Pairwise (· < ·) := by
  unfold clsL
  exact List.Pairwise.filter _ List.pairwise_lt_range
theorem clsL_same {E : Nat → Nat → Prop} {N p q : Nat} (h : Mut E p q) : clsL E N p = clsL E N q := by
  unfold clsL
  congr 1
  funext x
  have e : Mut E p x ↔ Mut E q x := ⟨fun z => h.symm.trans z, fun z => h.trans z⟩
  rw [show (Mut E p x) = (Mut E q x) from propext e]
noncomputable def headsL (E : Nat → Nat → Prop) (N : Nat) : List Nat := (List.range N).filter fun p => bdec (∀ x, x < p → ¬ Mut E p x)
theorem headsL_mem {E : Nat → Nat → Prop} {N p : Nat} : p ∈ headsL E N ↔ p < N ∧ ∀ x, x < p → ¬ Mut E p x := by
  unfold headsL
  rw [List.mem_filter, List.mem_range, bdec_iff]
theorem headsL_rising {E : Nat → Nat → Prop} {N : Nat} : (headsL E N).Pairwise (· < ·) := by
  unfold headsL
  exact List.Pairwise.filter _ List.pairwise_lt_range
noncomputable def partsL (E : Nat → Nat → Prop) (N : Nat) : List (List Nat) := (headsL E N).map (clsL E N)
theorem least_of {P : Nat → Prop} : ∀ n, P n → ∃ m, P m ∧ ∀ x, x < m → ¬ P x := by
  intro n
  induction n using Nat.strongRecOn with
  | ind n ih =>
    intro hn
    by_cases c : ∃ x, x < n ∧ P x
    · obtain ⟨x, hx, h⟩ := c
      exact ih x hx h
    · exact ⟨n, hn, fun x hx h => c ⟨x, hx, h⟩⟩
/-- each point's least companion -/
theorem head_of {E : Nat → Nat → Prop} {N p : Nat} (hp : p < N) : ∃ h ∈ headsL E N, Mut E p h := by
  obtain ⟨m, h1, h2⟩ := least_of (P := fun x => Mut E p x) p (mut_refl p)
  refine ⟨m, headsL_mem.mpr ⟨?_, fun x hx hm => h2 x hx (h1.trans hm)⟩, h1⟩
  rcases Nat.lt_or_ge p m with c | c
  · exact absurd (mut_refl p) (h2 p c)
  · omega
theorem head_unique {E : Nat → Nat → Prop} {N a b : Nat} (ha : a ∈ headsL E N) (hb : b ∈ headsL E N) (h : Mut E a b) : a = b := by
  rw [headsL_mem] at ha hb
  rcases Nat.lt_trichotomy a b with c | c | c
  · exact absurd h.symm (hb.2 a c)
  · exact c
  · exact absurd h (ha.2 b c)
theorem clsL_head {E : Nat → Nat → Prop} {N p : Nat} (hp : p ∈ headsL E N) : ∃ r, clsL E N p = p :: r := by
  have h0 := headsL_mem.mp hp
  have hm : p ∈ clsL E N p := clsL_mem.mpr ⟨h0.1, mut_refl p⟩
  have hr := clsL_rising (E := E) (N := N) (p := p)
  cases e : clsL E N p with
  | nil => rw [e] at hm; simp at hm
  | cons a r =>
    rw [e] at hm hr
    have ha : a ∈ clsL E N p := by rw [e]; simp
    rcases List.mem_cons.mp hm with z | z
    · exact ⟨r, by rw [z]⟩
    · have h1 := (List.pairwise_cons.mp hr).1 p z
      exact absurd (clsL_mem.mp ha).2 (h0.2 a h1)
theorem parts_back {E F : Nat → Nat → Prop} (h : ∀ a b, F a b ↔ E b a) (N : Nat) : partsL F N = partsL E N := by
  have e : Mut F = Mut E := by
    funext u v
    exact propext (mut_back h)
  unfold partsL headsL clsL
  rw [e]
/-! ### sorted -/
abbrev dn (L : List Nat) : PyData := .list (L.map fun n : Nat => PyData.int (n : Int))
theorem keyTok_dn (a : Nat) (r : List Nat) : ∃ t, keyToks (dn (a :: r)) = .inl 1 :: .inl (a : Int) :: t := by
  refine ⟨keyToksAll (r.map fun n : Nat => PyData.int (n : Int)), ?_⟩
  show keyToks (.list (PyData.int (a : Int) :: (r.map fun n : Nat => PyData.int (n : Int)))) = _
  rw [keyToks, keyToksAll, keyToks]
  rfl
theorem dataLe_refl (d : PyData) : dataLe false id d d = true := by
  show (!(listOrd itemOrd).blt (keyToks d) (keyToks d)) = true
  rw [(listOrd itemOrd).irrefl]
  rfl
theorem dataLe_dn {a b : Nat} {r t : List Nat} (h : a ≠ b) : dataLe false id (dn (a :: r)) (dn (b :: t)) = decide (a ≤ b) := by
  obtain ⟨x, hx⟩ := keyTok_dn a r
  obtain ⟨y, hy⟩ := keyTok_dn b t
  show (!(lexLt itemOrd (keyToks (dn (b :: t))) (keyToks (dn (a :: r))))) = _
  rw [hx, hy, lex_cons, lex_cons]
  have e1 : itemOrd.blt (Sum.inl 1) (Sum.inl 1) = false := itemOrd.irrefl _
  have e2 : itemOrd.blt (Sum.inl (b : Int)) (Sum.inl (a : Int)) = decide ((b : Int) < (a : Int)) := rfl
  have e3 : itemOrd.blt (Sum.inl (a : Int)) (Sum.inl (b : Int)) = decide ((a : Int) < (b : Int)) := rfl
  rw [e1, e2, e3]
  by_cases c : a ≤ b
  · have h1 : (a : Int) < (b : Int) := by omega
    have h2 : ¬ (b : Int) < (a : Int) := by omega
    simp [c, h1, h2]
  · have h1 : ¬ (a : Int) < (b : Int) := by omega
    have h2 : (b : Int) < (a : Int) := by omega
    simp [c, h2]
theorem sort_parts {E : Nat → Nat → Prop} {N : Nat} {hs : List Nat} (hp : hs.Perm (headsL E N)) : ((hs.map (clsL E N)).map dn).mergeSort (dataLe false id) = (partsL E N).map dn := by
  have hmem : ∀ a ∈ hs, a ∈ headsL E N := fun a ha => hp.mem_iff.mp ha
  rw [List.map_map, ← List.map_mergeSort (f := dn ∘ clsL E N) (r := fun a b : Nat => decide (a ≤ b)) (s := dataLe false id) (l := hs) (fun a ha b hb => ?_)]
  · unfold partsL
    rw [List.map_map]
    congr 1
    have h1 : (hs.mergeSort fun a b : Nat => decide (a ≤ b)).Pairwise (fun a b => decide (a ≤ b) = true) := List.pairwise_mergeSort (fun a b c h k => by simp at *; omega) (fun a b => by simp; omega) hs
    have h2 : (hs.mergeSort fun a b : Nat => decide (a ≤ b)).Perm (headsL E N) := (List.mergeSort_perm _ _).trans hp
    refine h2.eq_of_pairwise ?_ (h1.imp fun h => of_decide_eq_true h) (headsL_rising.imp fun h => Nat.le_of_lt h)
    intro a b _ _ h k
    omega
  · by_cases c : a = b
    · subst c
      show decide (a ≤ a) = dataLe false id _ _
      rw [dataLe_refl]
      simp
    · obtain ⟨r, er⟩ := clsL_head (hmem a ha)
      obtain ⟨t, et⟩ := clsL_head (hmem b hb)
      show decide (a ≤ b) = dataLe false id (dn (clsL E N a)) (dn (clsL E N b))
      rw [er, et, dataLe_dn c]
end My
namespace My
open PySem L2 PyProof.Rows
abbrev cn (L : List Nat) : List Int := L.map fun n : Nat => (n : Int)
theorem cn_rising {L : List Nat} (h : L.Pairwise (· < ·)) : (cn L).Pairwise (· < ·) := List.Pairwise.map _ (fun a b hab => by show (a : Int) < (b : Int); omega) h
theorem cn_nodup {L : List Nat} (h : L.Nodup) : (cn L).Nodup := List.Pairwise.map (R := (· ≠ ·)) _ (fun a b hab z => hab (by omega)) h
theorem cls_sorted {E : Nat → Nat → Prop} {N q : Nat} {M : List Nat} {ys : List Int} (hn : M.Nodup) (hm : ∀ x, x ∈ M ↔ x < N ∧ Mut E q x) (hp : ys.Perm (cn M)) (hs : ys.Pairwise (· ≤ ·)) : ys = cn (clsL E N q) := by
  refine rising_ext (rising_of hs ((hp.nodup_iff).mpr (cn_nodup hn))) (cn_rising clsL_rising) fun z => ?_
  rw [hp.mem_iff, List.mem_map, List.mem_map]
  constructor
  · rintro ⟨x, hx, rfl⟩
    exact ⟨x, clsL_mem.mpr ((hm x).mp hx), rfl⟩
  · rintro ⟨x, hx, rfl⟩
    exact ⟨x, (hm x).mpr (clsL_mem.mp hx), rfl⟩
noncomputable def headO (E : Nat → Nat → Prop) (N p : Nat) : Nat := @dite _ (p < N) (Classical.propDecidable _) (fun h => Classical.choose (head_of (E := E) h)) fun _ => 0
theorem headO_spec {E : Nat → Nat → Prop} {N p : Nat} (h : p < N) : headO E N p ∈ headsL E N ∧ Mut E p (headO E N p) := by
  unfold headO
  rw [dif_pos h]
  exact Classical.choose_spec (head_of (E := E) h)
theorem reps_heads {E : Nat → Nat → Prop} {N : Nat} {HS : List Nat} (hR : HS.Pairwise fun a b => ¬ Mut E a b) (hlt : ∀ q ∈ HS, q < N) (hall : ∀ x, x < N → ∃ q ∈ HS, Mut E x q) : ∃ hs : List Nat, hs.Perm (headsL E N) ∧ HS.map (clsL E N) = hs.map (clsL E N) := by
  refine ⟨HS.map (headO E N), ?_, ?_⟩
  · have hnd : (HS.map (headO E N)).Nodup := by
      rw [List.Nodup, List.pairwise_map]
      refine List.Pairwise.imp_of_mem ?_ hR
      intro a b ha hb h e
      have h1 := (headO_spec (E := E) (hlt a ha)).2
      have h2 := (headO_spec (E := E) (hlt b hb)).2
      rw [e] at h1
      exact h (h1.trans h2.symm)
    refine (List.perm_ext_iff_of_nodup hnd (headsL_rising.imp fun h => Nat.ne_of_lt h)).mpr fun x => ?_
    rw [List.mem_map]
    constructor
    · rintro ⟨q, hq, rfl⟩
      exact (headO_spec (hlt q hq)).1
    · intro hx
      have hx0 := headsL_mem.mp hx
      obtain ⟨q, hq, hm⟩ := hall x hx0.1
      have h2 := headO_spec (E := E) (hlt q hq)
      exact ⟨q, hq, (head_unique hx h2.1 (hm.trans h2.2)).symm⟩
  · rw [List.map_map]
    refine List.map_congr_left fun q hq => ?_
    exact clsL_same (headO_spec (hlt q hq)).2
abbrev Ed (ts : List (Nat × Nat)) : Nat → Nat → Prop := Edge ts []
theorem ed_low {ts : List (Nat × Nat)} {N : Nat} (ho : OkWeb N ts) {a b : Nat} (e : Ed ts a b) : a < N ∧ b < N := by
  obtain ⟨i, h, _⟩ := e
  exact ho.ok _ (List.mem_of_getElem? h)
theorem ed_swaps {ts : List (Nat × Nat)} (a b : Nat) : Ed (swaps ts) a b ↔ Ed ts b a := by
  unfold Ed Edge swaps
  constructor
  · rintro ⟨i, h, n⟩
    rw [List.getElem?_map] at h
    cases e : ts[i]? with
    | none => rw [e] at h; cases h
    | some p =>
      rw [e] at h
      cases h
      exact ⟨i, e, n⟩
  · rintro ⟨i, h, n⟩
    refine ⟨i, ?_, n⟩
    rw [List.getElem?_map, h]
    rfl
theorem edf {ts : List (Nat × Nat)} : (fun u v => v ∈ outs ts [] u) = Ed ts := by
  funext u v
  exact propext outs_mem
theorem lf_ok {ts : List (Nat × Nat)} {N : Nat} (ho : OkWeb N ts) : LfOk (outs ts []) N :=
  ⟨ho.n1, fun u v h => (ed_low ho (outs_mem.mp h)).2, fun u => Nat.le_trans (outN_len ts [] u ts.length) ho.m⟩
def LolAt (H : Hp) (l : Addr) (LL : List (List Nat)) : Prop := ∃ as : List Addr, H l = some (.lst (as.map V.ref)) ∧ Paired (fun (p : Addr) (L : List Nat) => H p = some (.lst (iv L))) as LL
theorem LolAt.same {H H' : Hp} {l : Addr} {LL : List (List Nat)} (h : LolAt H l LL) (s : Same H H') : LolAt H' l LL := by
  obtain ⟨as, h1, h2⟩ := h
  exact ⟨as, s _ _ h1, paired_mono (fun p e hp => s _ _ hp) h2⟩
theorem outN_at {ts : List (Nat × Nat)} {i u v : Nat} (h : ts[i]? = some (u, v)) (j : Nat) : outN ts [] j (i + 1) = if u = j then outN ts [] j i ++ [v] else outN ts [] j i := by
  show (match ts[i]? with | some e => if e.1 = j ∧ i ∉ [] then outN ts [] j i ++ [e.2] else outN ts [] j i | none => outN ts [] j i) = _
  rw [h]
  by_cases c : u = j
  · show (if u = j ∧ i ∉ [] then _ else _) = _
    rw [if_pos c, if_pos ⟨c, by simp⟩]
  · show (if u = j ∧ i ∉ [] then _ else _) = _
    rw [if_neg c, if_neg (fun z => c z.1)]
theorem swaps_at {ts : List (Nat × Nat)} {i u v : Nat} (h : ts[i]? = some (u, v)) : (swaps ts)[i]? = some (v, u) := by
  unfold swaps
  rw [List.getElem?_map, h]
  rfl
theorem swaps_len (ts : List (Nat × Nat)) : (swaps ts).length = ts.length := by
  unfold swaps
  rw [List.length_map]
/-- rows that grow -/
theorem row_put {H : Hp} {fas : List Addr} {f g : Nat → List Nat} {u v : Nat} {xu : Addr} (hn : fas.Nodup) (eu : fas[u]? = some xu) (h : ∀ (j : Nat) (x : Addr), fas[j]? = some x → H x = some (.lst (iv (f j)))) (hg : ∀ j, g j = if u = j then f j ++ [v] else f j) :
    ∀ (j : Nat) (x : Addr), fas[j]? = some x → (upd H xu (.lst (iv (f u) ++ [.int (v : Int)]))) x = some (.lst (iv (g j))) := fun j x e => by
  by_cases c : u = j
  · subst c
    rw [eu] at e
    cases e
    rw [upd_same, hg, if_pos rfl, iv_app]
  · have nx : x ≠ xu := fun z => c (nodup_get hn eu (by rw [← z]; exact e))
    rw [upd_ne nx, hg, if_neg c]
    exact h j x e
structure Pass1 (ts : List (Nat × Nat)) (N i : Nat) (L : List Nat) (S : List Bool) : Prop where
  nd : L.Nodup
  lt : ∀ x ∈ L, x < N
  got : ∀ x, Got S x ↔ x ∈ L
  ln : S.length = N
  cl : ∀ u v, Got S u → v ∈ outs ts [] u → Got S v
  up : ∀ x, x < i → x ∈ L
  star : StarL (Ed ts) L
theorem rep_false (N : Nat) : (List.replicate (N : Int).toNat [V.bl false]).flatten = bv (List.replicate N false) := by
  rw [Int.toNat_natCast]
  induction N with
  | zero => rfl
  | succ n ih =>
    rw [List.replicate_succ, List.replicate_succ, List.flatten_cons, ih]
    rfl
theorem no_got (N x : Nat) : ¬ Got (List.replicate N false) x := fun h => by
  unfold Got at h
  rw [List.getElem?_replicate] at h
  split at h
  · cases h
  · cases h
theorem pass1_start (ts : List (Nat × Nat)) (N : Nat) : Pass1 ts N 0 [] (List.replicate N false) :=
  ⟨by simp, by simp, fun x => ⟨fun h => absurd h (no_got N x), fun h => by simp at h⟩, by simp, fun u v h => absurd h (no_got N u), fun x h => by omega, star_nil⟩
theorem pass1_old {ts : List (Nat × Nat)} {N i : Nat} {L : List Nat} {S : List Bool} (h : Pass1 ts N i L S) (hi : Got S i) : Pass1 ts N (i + 1) L S :=
  ⟨h.nd, h.lt, h.got, h.ln, h.cl, fun x hx => by
    by_cases c : x = i
    · rw [c]; exact (h.got i).mp hi
    · exact h.up x (by omega), h.star⟩
theorem pass1_new {ts : List (Nat × Nat)} {N i : Nat} {L M : List Nat} {S S' : List Bool} (h : Pass1 ts N i L S) (r : LfRes (outs ts []) N i S S' M) (hi : ¬ Got S i) : Pass1 ts N (i + 1) (L ++ M) S' := by
  refine ⟨?_, fun x hx => ?_, fun x => ?_, r.ln, r.cl, fun x hx => ?_, star_app h.star fun A q B e x rr => ?_⟩
  · rw [List.nodup_append]
    refine ⟨h.nd, r.nd, fun a ha b hb e => ?_⟩
    rw [← e] at hb
    exact ((r.mem a).mp hb).2 ((h.got a).mpr ha)
  · rcases List.mem_append.mp hx with z | z
    · exact h.lt x z
    · exact r.lt x z
  · rw [r.got, h.got, List.mem_append]
  · by_cases c : x = i
    · rw [c]
      exact List.mem_append_right _ ((r.mem i).mpr ⟨rch_refl i, hi⟩)
    · exact List.mem_append_left _ (h.up x (by omega))
  · have hr := r.star A q B e x (by rw [edf]; exact rr)
    rw [edf] at hr
    rcases hr with z | z
    · exact .inl ((h.got x).mp z)
    · exact .inr z
theorem iv_bv {L : List Nat} {S : List Bool} (h : iv L = bv S) : S = [] := by
  cases S with
  | nil => rfl
  | cons b r =>
    cases L with
    | nil => cases h
    | cons n t => cases (List.cons.inj h).1
theorem LolAt.put {H : Hp} {l p : Addr} {LL : List (List Nat)} {S S2 : List Bool} (h : LolAt H l LL) (hl : l ≠ p) (hp : H p = some (.lst (bv S))) (hS : S ≠ []) {H' : Hp} (k : Kept p H H') : LolAt H' l LL := by
  obtain ⟨as, h1, h2⟩ := h
  refine ⟨as, k _ _ h1 hl, paired_mono (fun q L hq => k _ _ hq fun z => ?_) h2⟩
  rw [z, hp] at hq
  exact hS (iv_bv (HO.lst.inj (Option.some.inj hq)).symm)
theorem LolAt.push {H : Hp} {l p : Addr} {LL : List (List Nat)} {L : List Nat} (h : LolAt H l LL) (np : H p = none) : ∃ xs, (upd H p (.lst (iv L))) l = some (.lst xs) ∧ xs.length = LL.length ∧ LolAt (upd (upd H p (.lst (iv L))) l (.lst (xs ++ [.ref p]))) l (LL ++ [L]) := by
  obtain ⟨as, h1, h2⟩ := h
  have nl : l ≠ p := ne_of_none h1 np
  refine ⟨as.map V.ref, by rw [upd_ne nl]; exact h1, by rw [List.length_map]; exact paired_len h2, as ++ [p], by rw [upd_same, List.map_append]; rfl, paired_app ?_ (by rw [upd_ne nl.symm, upd_same])⟩
  have key : ∀ (q : Addr) (M : List Nat), q ∈ as → H q = some (.lst (iv M)) → q ≠ l := fun q M hq e z => by
    rw [z, h1] at e
    have e := HO.lst.inj (Option.some.inj e)
    have hm : V.ref q ∈ iv M := by rw [← e]; exact List.mem_map.mpr ⟨q, hq, rfl⟩
    obtain ⟨n, _, z2⟩ := List.mem_map.mp hm
    cases z2
  clear h1
  have go : ∀ {bs : List Addr} {MM : List (List Nat)}, (∀ q ∈ bs, q ∈ as) → Paired (fun (p : Addr) (L : List Nat) => H p = some (.lst (iv L))) bs MM → Paired (fun (q : Addr) (M : List Nat) => (upd (upd H p (.lst (iv L))) l (.lst (as.map V.ref ++ [.ref p]))) q = some (.lst (iv M))) bs MM := by
    intro bs MM hb hp
    induction hp with
    | nil => exact .nil
    | @cons q M bs MM r t ih =>
      refine .cons ?_ (ih fun x hx => hb x (List.mem_cons_of_mem _ hx))
      rw [upd_ne (key q M (hb q List.mem_cons_self) r), upd_ne (ne_of_none r np)]
      exact r
  exact go (fun q hq => hq) h2
/-- what a list tells is new -/
def NewIn (H H' : Hp) (l : Addr) : Prop := ∀ xs q, H' l = some (.lst xs) → V.ref q ∈ xs → H q = none
theorem NewIn.keep {H H' H2 : Hp} {l : Addr} (h : NewIn H H' l) (e : H2 l = H' l) : NewIn H H2 l := fun xs q hx hq => h xs q (e ▸ hx) hq
structure Pass2 (ts : List (Nat × Nat)) (N : Nat) (B : List Nat) (S : List Bool) (HS : List Nat) : Prop where
  ln : S.length = N
  got : ∀ x, Got S x ↔ ∃ y ∈ B, Mut (Ed ts) y x
  cl : ∀ u v, Got S u → v ∈ outs (swaps ts) [] u → Got S v
  rep : HS.Pairwise fun a b => ¬ Mut (Ed ts) a b
  sub : ∀ q ∈ HS, q ∈ B
  all : ∀ y ∈ B, ∃ q ∈ HS, Mut (Ed ts) y q
theorem pass2_start (ts : List (Nat × Nat)) (N : Nat) : Pass2 ts N [] (List.replicate N false) [] :=
  ⟨by simp, fun x => ⟨fun h => absurd h (no_got N x), fun ⟨y, hy, _⟩ => by simp at hy⟩, fun u v h => absurd h (no_got N u), by simp, by simp, by simp⟩
theorem pass2_old {ts : List (Nat × Nat)} {N q : Nat} {B : List Nat} {S : List Bool} {HS : List Nat} (h : Pass2 ts N B S HS) (hq : Got S q) : Pass2 ts N (B ++ [q]) S HS := by
  obtain ⟨y0, hy0, m0⟩ := (h.got q).mp hq
  refine ⟨h.ln, fun x => ?_, h.cl, h.rep, fun z hz => List.mem_append_left _ (h.sub z hz), fun y hy => ?_⟩
  · rw [h.got]
    constructor
    · rintro ⟨y, hy, m⟩
      exact ⟨y, List.mem_append_left _ hy, m⟩
    · rintro ⟨y, hy, m⟩
      rcases List.mem_append.mp hy with z | z
      · exact ⟨y, z, m⟩
      · rw [List.mem_singleton.mp z] at m
        exact ⟨y0, hy0, m0.trans m⟩
  · rcases List.mem_append.mp hy with z | z
    · exact h.all y z
    · rw [List.mem_singleton.mp z]
      obtain ⟨r, hr, m⟩ := h.all y0 hy0
      exact ⟨r, hr, m0.symm.trans m⟩
theorem pass2_mem {ts : List (Nat × Nat)} {N q : Nat} {A B L : List Nat} {S S' : List Bool} {HS M : List Nat} (ho : OkWeb N ts) (h : Pass2 ts N B S HS) (hL : L = A ++ q :: B.reverse) (hst : StarL (Ed ts) L) (hnd : L.Nodup) (hall : ∀ x, x < N → x ∈ L) (hqN : q < N) (hq : ¬ Got S q) (r : LfRes (outs (swaps ts) []) N q S S' M) (x : Nat) : x ∈ M ↔ x < N ∧ Mut (Ed ts) q x := by
  subst hL
  have hc := class_of hst hnd (fun y hy => hall y (rch_low (fun a b e => (ed_low ho e).1) hqN hy)) (S := Got S) (fun y => by rw [h.got]; simp) hq x
  rw [r.mem, edf, rch_back (fun a b => ed_swaps a b), hc]
  exact ⟨fun z => ⟨rch_low (fun a b e => (ed_low ho e).1) hqN z.2, z⟩, fun z => z.2⟩
theorem pass2_new {ts : List (Nat × Nat)} {N q : Nat} {B : List Nat} {S S' : List Bool} {HS M : List Nat} (ho : OkWeb N ts) (h : Pass2 ts N B S HS) (hq : ¬ Got S q) (hqN : q < N) (r : LfRes (outs (swaps ts) []) N q S S' M) (hm : ∀ x, x ∈ M ↔ x < N ∧ Mut (Ed ts) q x) : Pass2 ts N (B ++ [q]) S' (HS ++ [q]) := by
  refine ⟨r.ln, fun x => ?_, r.cl, ?_, fun z hz => ?_, fun y hy => ?_⟩
  · rw [r.got, h.got, hm]
    constructor
    · rintro (⟨y, hy, m⟩ | ⟨_, m⟩)
      · exact ⟨y, List.mem_append_left _ hy, m⟩
      · exact ⟨q, by simp, m⟩
    · rintro ⟨y, hy, m⟩
      rcases List.mem_append.mp hy with z | z
      · exact .inl ⟨y, z, m⟩
      · rw [List.mem_singleton.mp z] at m
        exact .inr ⟨rch_low (fun a b e => (ed_low ho e).1) hqN m.2, m⟩
  · rw [List.pairwise_append]
    refine ⟨h.rep, by simp, fun a ha b hb m => ?_⟩
    rw [List.mem_singleton.mp hb] at m
    exact hq ((h.got q).mpr ⟨a, h.sub a ha, m⟩)
  · rcases List.mem_append.mp hz with w | w
    · exact List.mem_append_left _ (h.sub z w)
    · exact List.mem_append_right _ w
  · rcases List.mem_append.mp hy with z | z
    · obtain ⟨p, hp, m⟩ := h.all y z
      exact ⟨p, List.mem_append_left _ hp, m⟩
    · rw [List.mem_singleton.mp z]
      exact ⟨q, by simp, mut_refl q⟩
section
variable {P : Program} {w : World} {K : PySem.W.Frag} {mg : Str → Option Value} {base : Heap} {C CPE cM : Addr} {XA : Str → Addr} {TL : List (Addr × Str)}
def spparts_in_turn (_ : PySem.W.Frag) (_ : Addr) (_ : Str → Addr) : Sp := fun vs H Q _ => ∃ N s ts, vs = [.int ((N : Nat) : Int), .ref s] ∧ StepsAt H s ts ∧ OkWeb N ts ∧ ∀ H' l (hs : List Nat), H l = none → Same H H' → hs.Perm (headsL (Ed ts) N) → LolAt H' l (hs.map (clsL (Ed ts) N)) → NewIn H H' l → Q (.ref l) H'
theorem okparts_in_turn (D : Def K mg "parts_in_turn" sparts_in_turn ["points", "steps"]) (B : Bs mg) (Glb : Glo mg) (WK : WebK K mg C) (EXInvalidWeb : ExcF P w K mg base "value" "InvalidWeb" (XA "InvalidWeb")) (EXInvalidPlaces : ExcF P w K mg base "value" "InvalidPlaces" (XA "InvalidPlaces")) (EXInvalidTies : ExcF P w K mg base "value" "InvalidTies" (XA "InvalidTies")) (EXInvalidPlace : ExcF P w K mg base "value" "InvalidPlace" (XA "InvalidPlace")) (EXInvalidWalk : ExcF P w K mg base "value" "InvalidWalk" (XA "InvalidWalk")) (EXInvalidRound : ExcF P w K mg base "value" "InvalidRound" (XA "InvalidRound")) (EXInvalidWithout : ExcF P w K mg base "value" "InvalidWithout" (XA "InvalidWithout")) (EXInvalidPart : ExcF P w K mg base "value" "InvalidPart" (XA "InvalidPart")) (PErr : mg "PieceError" = some (.ref CPE)) (EXM : ExM K XA CPE)
    (h_left_from : Good P w K mg base "_left_from" s_left_from ["ends", "point", "seen"] 1 (sp_left_from K C XA)) :
    Good P w K mg base "parts_in_turn" sparts_in_turn ["points", "steps"] 2 (spparts_in_turn K C XA) := by
  refine D.good fun f fd F => ?_
  obtain ⟨f_left_from, d_left_from, O_left_from, m_left_from, k_left_from, b_left_from, F_left_from⟩ := h_left_from
  refine F.ok scparts_in_turn (fun vs H Q E h => ?_) (fun cdv A outer s H vs Q E hr h => ?_)
  · obtain ⟨N, s, ts, rfl, hs, ho, q⟩ := h
    first | rfl | (rcases h with ⟨_, _, rfl, _⟩ | ⟨_, rfl, _⟩ <;> rfl)
  obtain ⟨N, s, ts, rfl, hs, ho, q⟩ := h
  refine ⟨_, (pss_cons (ps_setLc (i := 2) (own := [("_", 6)]) (g := gName 6) (by rfl) scparts_in_turn.nd rfl rfl (sw_true rfl rfl rfl (by decide +kernel)) (pi_range1 (by rfl) B.range (pa_cons (pv 0) pa_nil)) (blkOk_by (own := [("_", 6)]) (N := ["points", "steps", "ahead", "behind", "near", "far", "_", "left", "seen", "point", "parts"]) (sc := defScope sparts_in_turn) (by decide +kernel)) (fun _ _ _ _ _ => (pg_name (i := 6) scparts_in_turn.nd rfl (by first | exact Or.inl rfl | exact Or.inr rfl))) (fun _ _ _ _ _ => pts_nil) (fun _ _ _ _ _ => (pe_lst pa_nil)))
  (pss_cons (ps_setLc (i := 3) (own := [("_", 6)]) (g := gName 6) (by rfl) scparts_in_turn.nd rfl rfl (sw_true rfl rfl rfl (by decide +kernel)) (pi_range1 (by rfl) B.range (pa_cons (pv 0) pa_nil)) (blkOk_by (own := [("_", 6)]) (N := ["points", "steps", "ahead", "behind", "near", "far", "_", "left", "seen", "point", "parts"]) (sc := defScope sparts_in_turn) (by decide +kernel)) (fun _ _ _ _ _ => (pg_name (i := 6) scparts_in_turn.nd rfl (by first | exact Or.inl rfl | exact Or.inr rfl))) (fun _ _ _ _ _ => pts_nil) (fun _ _ _ _ _ => (pe_lst pa_nil)))
  (pss_cons (ps_for PassesOwn.never rfl (pi_list (pv 1)) (pg_tup rfl (pgs_cons (pg_name (i := 4) scparts_in_turn.nd rfl (by first | exact Or.inl rfl | exact Or.inr rfl)) (pgs_cons (pg_name (i := 5) scparts_in_turn.nd rfl (by first | exact Or.inl rfl | exact Or.inr rfl)) (pgs_cons (pg_name (i := 6) scparts_in_turn.nd rfl (by first | exact Or.inl rfl | exact Or.inr rfl)) pgs_nil))))
    (pss_cons (ps_expr (pe_bm PySem.F.plainAttrs_list PySem.F.slot_list_append PySem.F.type_list_append mt_append (pe_ix ix_list (pv 2) (pv 4) (fun _ _ => rfl)) (pa_cons (pv 5) pa_nil)))
  (pss_one (ps_expr (pe_bm PySem.F.plainAttrs_list PySem.F.slot_list_append PySem.F.type_list_append mt_append (pe_ix ix_list (pv 3) (pv 5) (fun _ _ => rfl)) (pa_cons (pv 4) pa_nil))))))
  (pss_cons (ps_set (i := 7) scparts_in_turn.nd rfl (by first | exact Or.inl rfl | exact Or.inr rfl) (pe_lst pa_nil))
  (pss_cons (ps_set (i := 8) scparts_in_turn.nd rfl (by first | exact Or.inl rfl | exact Or.inr rfl) (pe_op op_rep (pe_lst (pa_cons pe_bl pa_nil)) (pv 0)))
  (pss_cons (ps_for PassesOwn.never rfl (pi_range1 (by rfl) B.range (pa_cons (pv 0) pa_nil)) (pg_name (i := 9) scparts_in_turn.nd rfl (by first | exact Or.inl rfl | exact Or.inr rfl))
    (pss_one (ps_if (pt_not (pt_val (pe_ix ix_list (pv 8) (pv 9) (fun _ _ => rfl))))
    (pss_one (ps_expr (pe_bm PySem.F.plainAttrs_list PySem.F.slot_list_extend PySem.F.type_list_extend mt_extend (pv 7) (pa_cons (pe_call O_left_from hr rfl m_left_from k_left_from b_left_from .nil pass0 (pa_cons (pv 2) (pa_cons (pv 9) (pa_cons (pv 8) pa_nil)))) pa_nil)))) pss_nil)))
  (pss_cons (ps_set (i := 10) scparts_in_turn.nd rfl (by first | exact Or.inl rfl | exact Or.inr rfl) (pe_lst pa_nil))
  (pss_cons (ps_set (i := 8) scparts_in_turn.nd rfl (by first | exact Or.inl rfl | exact Or.inr rfl) (pe_op op_rep (pe_lst (pa_cons pe_bl pa_nil)) (pv 0)))
  (pss_cons (ps_for PassesOwn.never rfl (pi_list (pe_revL (pv 7))) (pg_name (i := 9) scparts_in_turn.nd rfl (by first | exact Or.inl rfl | exact Or.inr rfl))
    (pss_one (ps_if (pt_not (pt_val (pe_ix ix_list (pv 8) (pv 9) (fun _ _ => rfl))))
    (pss_one (ps_expr (pe_bm PySem.F.plainAttrs_list PySem.F.slot_list_append PySem.F.type_list_append mt_append (pv 10) (pa_cons (pe_callB cr_sortedI (by rfl) B.sorted (by decide +kernel) (pa_cons (pe_call O_left_from hr rfl m_left_from k_left_from b_left_from .nil pass0 (pa_cons (pv 3) (pa_cons (pv 9) (pa_cons (pv 8) pa_nil)))) pa_nil)) pa_nil)))) pss_nil)))
  (pss_one (ps_ret (pv 10)))))))))))), ?_⟩
  have hN := ho.n1
  have hm := ho.m
  refine ⟨_, rfl, _, rfl, by omega, by omega, fun D1 nD1 => ?_⟩
  refine lc_range (lo := 0) (n := N) (fun i H' => Fresh H D1 i H') (Fresh.zero nD1) ?_ ?_
  · intro i H' hi hf
    exact ⟨rfl, Nat.zero_le _, fun p np => hf.step nD1 (by omega) np⟩
  rintro H1 ⟨fas, f1, f2, f3, f4, f5, f6⟩
  refine ⟨_, rfl, _, rfl, by omega, by omega, fun D2 nD2 => ?_⟩
  refine lc_range (lo := 0) (n := N) (fun i H' => Fresh H1 D2 i H') (Fresh.zero nD2) ?_ ?_
  · intro i H' hi hf
    exact ⟨rfl, Nat.zero_le _, fun p np => hf.step nD2 (by omega) np⟩
  rintro H2 ⟨os, g1, g2, g3, g4, g5, g6⟩
  obtain ⟨sas, s1, s2, s3⟩ := hs
  have fo : ∀ x ∈ fas, x ∉ os := fun x hx z => by
    have h := (g3 x z).1
    rw [f6 x hx] at h
    cases h
  have D1f : D1 ∉ fas := fun z => (f3 D1 z).2 rfl
  have D1o : D1 ∉ os := fun z => by
    have h := (g3 D1 z).1
    rw [f5] at h
    cases h
  have D2o : D2 ∉ os := fun z => (g3 D2 z).2 rfl
  have D2f : D2 ∉ fas := fun z => by
    have h := f6 D2 z
    rw [nD2] at h
    cases h
  have nin : ∀ {b : Addr}, b ∉ fas → b ∉ os → b ∉ fas ++ os := fun h1 h2 z => (List.mem_append.mp z).elim h1 h2
  have old : ∀ b o, H b = some o → H2 b = some o ∧ b ∉ fas ++ os := fun b o e => by
    have h5 := f4 _ _ e
    refine ⟨g4 _ _ h5, nin (fun z => ?_) (fun z => ?_)⟩
    · rw [(f3 b z).1] at e; cases e
    · rw [(g3 b z).1] at h5; cases h5
  have hD12 : H2 D1 = some (.lst (fas.map V.ref)) := g4 _ _ f5
  refine ⟨_, rfl, s, rfl, ⟨_, SqL.of (old _ _ s1).1⟩, ?_⟩
  refine for_list (K := K) (a := s) (xs := sas.map V.ref) (fun i σ H' => ∃ v4 v5 v6 : Option V, σ = [some (.int (N : Int)), some (.ref s), some (.ref D1), some (.ref D2), v4, v5, v6, none, none, none, none] ∧ KeptR (fas ++ os) H2 H' ∧ (∀ (j : Nat) (x : Addr), fas[j]? = some x → H' x = some (.lst (iv (outN ts [] j i)))) ∧ (∀ (j : Nat) (x : Addr), os[j]? = some x → H' x = some (.lst (iv (outN (swaps ts) [] j i))))) ?_ ?_ ?_ ?_
  · exact ⟨_, _, _, rfl, .refl _ _, fun j x e => g4 _ _ (f6 x (List.mem_of_getElem? e)), fun j x e => g6 x (List.mem_of_getElem? e)⟩
  · rintro i σ H' hi ⟨v4, v5, v6, rfl, hk, _⟩
    exact SqL.of (hk _ _ (old _ _ s1).1 (old _ _ s1).2)
  · rintro i x σ H3 hx ⟨v4, v5, v6, rfl, hk, hf, hos⟩
    have hi := (List.getElem?_eq_some_iff.mp hx).1
    rw [List.length_map] at hi
    obtain ⟨⟨u, v⟩, he⟩ : ∃ e, ts[i]? = some e := ⟨ts[i]'(by omega), List.getElem?_eq_getElem _⟩
    obtain ⟨p, e1, e2⟩ := s3 i u v he
    rw [List.getElem?_map, e1] at hx
    cases hx
    obtain ⟨hu, hv⟩ := ho.ok _ (List.mem_of_getElem? he)
    have hp3 : H3 p = some (.tup [.int (u : Int), .int (v : Int), .int (i : Int)]) := hk _ _ (old _ _ e2).1 (old _ _ e2).2
    obtain ⟨xu, eu⟩ : ∃ x, fas[u]? = some x := ⟨fas[u]'(by omega), List.getElem?_eq_getElem _⟩
    obtain ⟨xv, ev⟩ : ∃ x, os[v]? = some x := ⟨os[v]'(by omega), List.getElem?_eq_getElem _⟩
    have mu := List.mem_of_getElem? eu
    have mv := List.mem_of_getElem? ev
    have hxu := hf u xu eu
    have hbi : i < 1000 := by omega
    refine ⟨p, _, rfl, SqT.of hp3, rfl, _, _, rfl, _, _, rfl, _, _, rfl, rfl, ?_⟩
    refine ⟨_, rfl, _, rfl, _, _, _, .ref xu, rfl, rfl, SqL.of (hk _ _ hD12 (nin D1f D1o)), atI_nat (by rw [List.getElem?_map, eu]; rfl), .inl ⟨rfl, _, SqL.of hxu⟩, _, rfl, xu, _, _, rfl, rfl, hxu, ?_, ?_⟩
    · rw [List.length_map]
      exact Nat.lt_of_le_of_lt (outN_len ts [] u i) (Nat.lt_trans hbi (by decide))
    have hk4 : KeptR (fas ++ os) H2 (upd H3 xu (.lst (iv (outN ts [] u i) ++ [.int (v : Int)]))) := hk.put (List.mem_append_left _ mu)
    have hf4 := row_put f2 eu hf (g := fun j => outN ts [] j (i + 1)) (v := v) (outN_at he)
    have ho4 : ∀ (j : Nat) (x : Addr), os[j]? = some x → (upd H3 xu (.lst (iv (outN ts [] u i) ++ [.int (v : Int)]))) x = some (.lst (iv (outN (swaps ts) [] j i))) := fun j x e => by
      rw [upd_ne (fun z => fo xu mu (by rw [← z]; exact List.mem_of_getElem? e))]
      exact hos j x e
    generalize upd H3 xu (.lst (iv (outN ts [] u i) ++ [.int (v : Int)])) = H4 at hk4 hf4 ho4
    have hxv := ho4 v xv ev
    refine ⟨_, rfl, _, rfl, _, _, _, .ref xv, rfl, rfl, SqL.of (hk4 _ _ g5 (nin D2f D2o)), atI_nat (by rw [List.getElem?_map, ev]; rfl), .inl ⟨rfl, _, SqL.of hxv⟩, _, rfl, xv, _, _, rfl, rfl, hxv, ?_, ?_⟩
    · rw [List.length_map]
      exact Nat.lt_of_le_of_lt (outN_len (swaps ts) [] v i) (Nat.lt_trans hbi (by decide))
    refine ⟨_, _, _, rfl, hk4.put (List.mem_append_right _ mv), fun j x e => ?_, row_put (u := v) (v := u) (f := fun j => outN (swaps ts) [] j i) (g := fun j => outN (swaps ts) [] j (i + 1)) g2 ev ho4 (outN_at (swaps_at he))⟩
    rw [upd_ne (fun z => fo x (List.mem_of_getElem? e) (by rw [z]; exact mv))]
    exact hf4 j x e
  rintro σ H3 ⟨v4, v5, v6, rfl, hk, hf, hos⟩
  rw [List.length_map, s2] at hf hos
  rw [← swaps_len ts] at hos
  have hS03 : Same H H3 := fun b o e => hk _ _ (old _ _ e).1 (old _ _ e).2
  have hR1 : RowsAt H3 D1 N (outs ts []) := ⟨fas, hk _ _ hD12 (nin D1f D1o), f1, hf⟩
  have hR2 : RowsAt H3 D2 N (outs (swaps ts) []) := ⟨os, hk _ _ g5 (nin D2f D2o), g1, hos⟩
  clear hk hf hos hD12
  refine ⟨Nat.zero_le _, fun ll nll => ⟨(by show 1 ≤ sizeLine; decide), fun b1 nb1 => ⟨_, rfl, b1, _, _, rfl, rfl, upd_same, by omega, by omega, ?_, fun sl nsl => ?_⟩⟩⟩
  · show 1 * (N : Int).toNat ≤ sizeLine
    rw [Int.toNat_natCast, Nat.one_mul]
    exact Nat.le_trans hN (by decide)
  rw [rep_false]
  have hS34 : Same H3 (upd (upd (upd H3 ll (.lst [])) b1 (.lst [.bl false])) sl (.lst (bv (List.replicate N false)))) := fun b o e => same_new nsl _ _ _ (same_new nb1 _ _ _ (same_new nll _ _ _ e))
  have hsl4 : (upd (upd (upd H3 ll (.lst [])) b1 (.lst [.bl false])) sl (.lst (bv (List.replicate N false)))) sl = some (.lst (bv (List.replicate N false))) := upd_same
  have hll4 : (upd (upd (upd H3 ll (.lst [])) b1 (.lst [.bl false])) sl (.lst (bv (List.replicate N false)))) ll = some (.lst (iv [])) := same_new nsl _ _ _ (same_new nb1 _ _ _ upd_same)
  have nls : ll ≠ sl := ne_of_none (same_new nb1 (.lst [.bl false]) _ _ (upd_same (H := H3) (a := ll) (o := .lst []))) nsl
  have nsl3 : H3 sl = none := by
    have h1 : Same H3 (upd (upd H3 ll (.lst [])) b1 (.lst [.bl false])) := fun b o e => same_new nb1 _ _ _ (same_new nll _ _ _ e)
    exact h1.free nsl
  generalize upd (upd (upd H3 ll (.lst [])) b1 (.lst [.bl false])) sl (.lst (bv (List.replicate N false))) = H4 at hS34 hsl4 hll4
  refine ⟨_, rfl, _, rfl, by omega, by omega, ?_⟩
  refine for_range (lo := 0) (n := N) (fun i σ H' => ∃ (v9 : Option V) (L : List Nat) (S : List Bool), σ = [some (.int (N : Int)), some (.ref s), some (.ref D1), some (.ref D2), v4, v5, v6, some (.ref ll), some (.ref sl), v9, none] ∧ Same H3 H' ∧ H' ll = some (.lst (iv L)) ∧ H' sl = some (.lst (bv S)) ∧ Pass1 ts N i L S) ⟨_, [], _, rfl, hS34, hll4, hsl4, pass1_start ts N⟩ ?_ ?_
  · rintro i σ H5 hi ⟨v9, L, S, rfl, hS5, hll5, hsl5, p1⟩
    rw [Int.zero_add]
    rcases bl_of (L := S) (j := i) (by rw [p1.ln]; exact hi) with hb | hb
    · exact ⟨_, rfl, _, rfl, _, _, _, _, rfl, rfl, SqL.of hsl5, bv_at hb, _, rfl, iteF ⟨_, L, S, rfl, hS5, hll5, hsl5, pass1_old p1 hb⟩⟩
    · refine ⟨_, rfl, _, rfl, _, _, _, _, rfl, rfl, SqL.of hsl5, bv_at hb, _, rfl, iteT ?_⟩
      have hno : ¬ Got S i := fun z => by unfold Got at z; rw [hb] at z; cases z
      refine ⟨_, rfl, .inl ⟨rfl, _, SqL.of hll5⟩, _, rfl, _, rfl, _, rfl, D1, i, sl, outs ts [], N, S, rfl, hR1.same hS5, lf_ok ho, hi, hsl5, p1.ln, hno, p1.cl, fun H6 m M S' nm hm6 hs6 hk6 res => ?_⟩
      have hll6 := hk6 _ _ hll5 nls
      have p1' := pass1_new p1 res hno
      have hfew := few p1'.nd p1'.lt
      rw [List.length_append] at hfew
      refine ⟨ll, m, _, _, rfl, rfl, hll6, hm6, ?_, ?_⟩
      · rw [List.length_map, List.length_map]
        exact Nat.le_trans hfew (Nat.le_trans hN (by decide))
      refine ⟨_, L ++ M, S', rfl, fun b o e => ?_, by rw [upd_same, iv, iv, iv, List.map_append], by rw [upd_ne nls.symm]; exact hs6, p1'⟩
      rw [upd_ne (ne_of_none e nll)]
      exact hk6 _ _ (hS5 _ _ e) (ne_of_none e nsl3)
  rintro σ H5 ⟨v9, L, S1, rfl, hS5, hll5, hsl5, p1⟩
  have hS05 := hS03.trans hS5
  have pN : ∀ x, x < N → x ∈ L := p1.up
  refine ⟨Nat.zero_le _, fun pl npl => ⟨(by show 1 ≤ sizeLine; decide), fun b2 nb2 => ⟨_, rfl, b2, _, _, rfl, rfl, upd_same, by omega, by omega, ?_, fun tl ntl => ?_⟩⟩⟩
  · show 1 * (N : Int).toNat ≤ sizeLine
    rw [Int.toNat_natCast, Nat.one_mul]
    exact Nat.le_trans hN (by decide)
  rw [rep_false]
  have hSq : Same H5 (upd (upd H5 pl (.lst [])) b2 (.lst [.bl false])) := fun b o e => same_new nb2 _ _ _ (same_new npl _ _ _ e)
  have hS56 : Same H5 (upd (upd (upd H5 pl (.lst [])) b2 (.lst [.bl false])) tl (.lst (bv (List.replicate N false)))) := fun b o e => same_new ntl _ _ _ (hSq _ _ e)
  have hpl6 : LolAt (upd (upd (upd H5 pl (.lst [])) b2 (.lst [.bl false])) tl (.lst (bv (List.replicate N false)))) pl [] := ⟨[], same_new ntl _ _ _ (same_new nb2 _ _ _ upd_same), .nil⟩
  have htl6 : (upd (upd (upd H5 pl (.lst [])) b2 (.lst [.bl false])) tl (.lst (bv (List.replicate N false)))) tl = some (.lst (bv (List.replicate N false))) := upd_same
  have npt : pl ≠ tl := ne_of_none (same_new nb2 (.lst [.bl false]) _ _ (upd_same (H := H5) (a := pl) (o := .lst []))) ntl
  have ntl5 : H5 tl = none := hSq.free ntl
  have npl0 : H pl = none := hS05.free npl
  generalize upd (upd (upd H5 pl (.lst [])) b2 (.lst [.bl false])) tl (.lst (bv (List.replicate N false))) = H6 at hS56 hpl6 htl6
  refine ⟨_, rfl, ll, _, rfl, SqL.of (hS56 _ _ hll5), fun rl nrl => ⟨rl, rfl, ⟨_, SqL.of upd_same⟩, ?_⟩⟩
  have hS57 : Same H5 (upd H6 rl (.lst (iv L).reverse)) := fun b o e => same_new nrl _ _ _ (hS56 _ _ e)
  have hpl7 := hpl6.same (same_new nrl (.lst (iv L).reverse))
  have htl7 := same_new nrl (.lst (iv L).reverse) _ _ htl6
  have hrl7 : (upd H6 rl (.lst (iv L).reverse)) rl = some (.lst (iv L.reverse)) := by rw [upd_same, iv, iv, List.map_reverse]
  have nrt : rl ≠ tl := (ne_of_none htl6 nrl).symm
  have nrp : rl ≠ pl := by
    obtain ⟨as, e, _⟩ := hpl6
    exact (ne_of_none e nrl).symm
  have hni7 : NewIn H (upd H6 rl (.lst (iv L).reverse)) pl := fun xs q hx hq => by
    obtain ⟨as, e, hp⟩ := hpl7
    cases hp
    rw [e] at hx
    cases hx
    simp at hq
  generalize upd H6 rl (.lst (iv L).reverse) = H7 at hni7 hS57 hpl7 htl7 hrl7
  refine for_list (K := K) (a := rl) (xs := iv L.reverse) (fun i σ H' => ∃ (v9 : Option V) (S : List Bool) (HS : List Nat), σ = [some (.int (N : Int)), some (.ref s), some (.ref D1), some (.ref D2), v4, v5, v6, some (.ref ll), some (.ref tl), v9, some (.ref pl)] ∧ Same H5 H' ∧ H' rl = some (.lst (iv L.reverse)) ∧ H' tl = some (.lst (bv S)) ∧ LolAt H' pl (HS.map (clsL (Ed ts) N)) ∧ NewIn H H' pl ∧ Pass2 ts N (L.reverse.take i) S HS) ⟨_, _, [], rfl, hS57, hrl7, htl7, hpl7, hni7, pass2_start ts N⟩ (fun i σ H' _ ⟨_, _, _, _, _, h, _⟩ => SqL.of h) ?_ ?_
  · rintro i x σ H8 hx ⟨v9', S, HS, rfl, hS8, hrl8, htl8, hpl8, hni8, p2⟩
    rw [List.getElem?_map] at hx
    obtain ⟨q0, hq0, rfl⟩ : ∃ q, L.reverse[i]? = some q ∧ x = V.int (q : Int) := by
      cases e : L.reverse[i]? with
      | none => rw [e] at hx; cases hx
      | some q => rw [e] at hx; exact ⟨q, rfl, (Option.some.inj hx).symm⟩
    have hqN : q0 < N := p1.lt q0 (List.mem_reverse.mp (List.mem_of_getElem? hq0))
    have htk := take_snocE hq0
    have hL : L = (L.reverse.drop (i + 1)).reverse ++ q0 :: (L.reverse.take i).reverse := by
      have e1 : L.reverse = L.reverse.take i ++ q0 :: L.reverse.drop (i + 1) := by
        conv => lhs; rw [← List.take_append_drop (i + 1) L.reverse, htk]
        simp
      have e2 := congrArg List.reverse e1
      rw [List.reverse_reverse] at e2
      exact e2.trans (by rw [List.reverse_append, List.reverse_cons, List.append_assoc]; rfl)
    rcases bl_of (L := S) (j := q0) (by rw [p2.ln]; exact hqN) with hb | hb
    · exact ⟨_, rfl, _, rfl, _, _, _, _, rfl, rfl, SqL.of htl8, bv_at hb, _, rfl, iteF ⟨_, S, HS, rfl, hS8, hrl8, htl8, hpl8, hni8, by rw [htk]; exact pass2_old p2 hb⟩⟩
    · refine ⟨_, rfl, _, rfl, _, _, _, _, rfl, rfl, SqL.of htl8, bv_at hb, _, rfl, iteT ?_⟩
      have hno : ¬ Got S q0 := fun z => by unfold Got at z; rw [hb] at z; cases z
      have hSne : S ≠ [] := fun z => by have := p2.ln; rw [z] at this; simp at this; omega
      obtain ⟨as8, hpl8a, hpl8b⟩ := id hpl8
      refine ⟨_, rfl, .inl ⟨rfl, _, SqL.of hpl8a⟩, _, rfl, _, rfl, _, rfl, D2, q0, tl, outs (swaps ts) [], N, S, rfl, hR2.same (hS5.trans hS8), lf_ok (okWeb_swaps ho), hqN, htl8, p2.ln, hno, p2.cl, fun H9 m M S' nm hm9 hs9 hk9 res => ?_⟩
      have hmm := pass2_mem ho p2 hL p1.star p1.nd pN hqN hno res
      have p2' := pass2_new ho p2 hno hqN res hmm
      refine ⟨m, cn M, rfl, SqL.of (by rw [hm9, iv_iz]), fun ys yl hperm hsort nyl => ?_⟩
      have hys := cls_sorted (E := Ed ts) (N := N) (q := q0) res.nd hmm hperm hsort
      subst hys
      have hpl9 := hpl8.put (S2 := S) npt htl8 hSne hk9
      obtain ⟨xs, g1', g2', g3'⟩ := hpl9.push (L := clsL (Ed ts) N q0) nyl
      rw [show (cn (clsL (Ed ts) N q0)).map V.int = iv (clsL (Ed ts) N q0) from (iv_iz _).symm]
      refine ⟨pl, _, _, rfl, rfl, g1', ?_, ?_⟩
      · rw [g2', List.length_map]
        have hnd : HS.Nodup := p2.rep.imp fun {a b} h e => h (by rw [e]; exact mut_refl b)
        have := few (N := N) hnd (fun y hy => p1.lt y (List.mem_reverse.mp (List.mem_of_mem_take (p2.sub y hy))))
        exact Nat.lt_of_le_of_lt (Nat.le_trans this hN) (by decide)
      refine ⟨_, S', HS ++ [q0], rfl, fun b o e => ?_, ?_, ?_, by rw [List.map_append]; exact g3', ?_, by rw [htk]; exact p2'⟩
      · rw [upd_ne (ne_of_none e npl)]
        exact same_new nyl _ _ _ (hk9 _ _ (hS8 _ _ e) (ne_of_none e ntl5))
      · rw [upd_ne nrp]
        exact same_new nyl _ _ _ (hk9 _ _ hrl8 nrt)
      · rw [upd_ne npt.symm]
        exact same_new nyl _ _ _ hs9
      · intro zs q1 hz hq1
        rw [upd_same] at hz
        cases hz
        have hpl8k : H9 pl = H8 pl := by
          rw [hpl8a]
          exact hk9 _ _ hpl8a npt
        rcases List.mem_append.mp hq1 with z | z
        · refine hni8 xs q1 ?_ z
          rw [← hpl8k]
          rw [upd_ne (ne_of_none (hk9 _ _ hpl8a npt) nyl)] at g1'
          exact g1'
        · have z := V.ref.inj (List.mem_singleton.mp z)
          rw [z]
          exact hS05.free (hS8.free (by
            cases e : H8 yl with
            | none => rfl
            | some o =>
              by_cases c : yl = tl
              · rw [c, hs9] at nyl; cases nyl
              · rw [hk9 _ _ e c] at nyl; cases nyl))
  rintro σ H8 ⟨v9', S, HS, rfl, hS8, hrl8, htl8, hpl8, hni8, p2⟩
  rw [List.length_map, List.take_length] at p2
  obtain ⟨hs, hperm, heq⟩ := reps_heads (N := N) p2.rep (fun q hq => p1.lt q (List.mem_reverse.mp (p2.sub q hq))) (fun x hx => p2.all x (List.mem_reverse.mpr (pN x hx)))
  rw [heq] at hpl8
  exact ⟨_, rfl, q H8 pl hs npl0 (hS05.trans hS8) hperm hpl8 hni8⟩
end
end My
namespace My
open PySem L2 PyProof.Rows
/-! ### lists of lists as data -/
theorem dn_dz (L : List Nat) : dn L = dz (cn L) := by
  show PyData.list _ = PyData.list _
  rw [List.map_map]
  rfl
theorem dn_inj {L M : List Nat} (h : dn L = dn M) : L = M := by
  have h := PyData.list.inj h
  exact (List.map_inj_right (fun a b e => by have := PyData.int.inj e; omega)).mp h
theorem dpAll_lol {K : PySem.W.Frag} {H : Hp} : ∀ {as : List Addr} {LL : List (List Nat)}, Paired (fun (p : Addr) (L : List Nat) => H p = some (.lst (iv L))) as LL → DpAll K H (as.map V.ref) (LL.map dn)
  | _, _, .nil => .nil
  | _, _, .cons (b := L) h r => .cons (by rw [dn_dz]; exact dp_iv h) (dpAll_lol r)
theorem alikeAll_dn : ∀ L M : List Nat, PySem.W.alikeAll (L.map fun n : Nat => PyData.int (n : Int)) (M.map fun n : Nat => PyData.int (n : Int)) = true
  | [], _ => by rw [List.map_nil, PySem.W.alikeAll]
  | _ :: _, [] => by simp [PySem.W.alikeAll]
  | a :: L, b :: M => by
    rw [List.map_cons, List.map_cons, PySem.W.alikeAll, alikeAll_dn L M]
    simp [PySem.W.alike]
theorem lol_alike (LL : List (List Nat)) : PySem.W.AllAlike (LL.map dn) := by
  intro d hd e he
  obtain ⟨L, _, rfl⟩ := List.mem_map.mp hd
  obtain ⟨M, _, rfl⟩ := List.mem_map.mp he
  rw [PySem.W.alike]
  exact alikeAll_dn L M
theorem lol_sortable (LL : List (List Nat)) : PySem.W.Sortable (LL.map dn) := .others (enc := dn) fun b => ⟨fun z => (by cases z), fun xs z => (by cases z)⟩
theorem dn_depth (L : List Nat) : (dn L).depth ≤ 8 := by
  rw [dn_dz]
  show PyData.depth (.list ((cn L).map PyData.int)) ≤ 8
  unfold PyData.depth
  rw [depthAll_iz]
  omega
theorem lol_pick {H : Hp} {as : List Addr} {LL : List (List Nat)} (hp : Paired (fun (p : Addr) (L : List Nat) => H p = some (.lst (iv L))) as LL) : ∀ {zs : List V} {PP : List (List Nat)}, Paired (fun (z : V) (d : PyData) => ∃ j : Nat, (as.map V.ref)[j]? = some z ∧ (LL.map dn)[j]? = some d) zs (PP.map dn) →
    ∃ bs : List Addr, zs = bs.map V.ref ∧ Paired (fun (p : Addr) (L : List Nat) => H p = some (.lst (iv L))) bs PP ∧ ∀ b ∈ bs, b ∈ as
  | _, [], .nil => ⟨[], rfl, .nil, fun b hb => by simp at hb⟩
  | _, L :: PP, .cons ⟨j, h1, h2⟩ t => by
    obtain ⟨bs, e1, e2, e3⟩ := lol_pick hp t
    rw [List.getElem?_map] at h1 h2
    cases ea : as[j]? with
    | none => rw [ea] at h1; cases h1
    | some a =>
      cases el : LL[j]? with
      | none => rw [el] at h2; cases h2
      | some M =>
        rw [ea] at h1
        rw [el] at h2
        have eM : M = L := dn_inj (Option.some.inj h2)
        obtain ⟨M', k1, k2⟩ := paired_get hp ea
        rw [el] at k1
        cases k1
        subst eM
        have ez := Option.some.inj h1
        refine ⟨a :: bs, by rw [e1, ← ez]; rfl, .cons k2 e2, fun b hb => ?_⟩
        rcases List.mem_cons.mp hb with z | z
        · rw [z]; exact List.mem_of_getElem? ea
        · exact e3 b z
theorem LolAt.add {H : Hp} {l x : Addr} {LL : List (List Nat)} {L : List Nat} (h : LolAt H l LL) (hx : H x = some (.lst (iv L))) (nx : x ≠ l) : ∃ xs, H l = some (.lst xs) ∧ xs.length = LL.length ∧ LolAt (upd H l (.lst (xs ++ [.ref x]))) l (LL ++ [L]) := by
  obtain ⟨as, h1, h2⟩ := h
  refine ⟨as.map V.ref, h1, by rw [List.length_map]; exact paired_len h2, as ++ [x], by rw [upd_same, List.map_append]; rfl, paired_app ?_ (by rw [upd_ne nx]; exact hx)⟩
  have key : ∀ (q : Addr) (M : List Nat), q ∈ as → H q = some (.lst (iv M)) → q ≠ l := fun q M hq e z => by
    rw [z, h1] at e
    have e := HO.lst.inj (Option.some.inj e)
    have hm : V.ref q ∈ iv M := by rw [← e]; exact List.mem_map.mpr ⟨q, hq, rfl⟩
    obtain ⟨n, _, z2⟩ := List.mem_map.mp hm
    cases z2
  clear h1
  have go : ∀ {bs : List Addr} {MM : List (List Nat)}, (∀ q ∈ bs, q ∈ as) → Paired (fun (p : Addr) (L : List Nat) => H p = some (.lst (iv L))) bs MM → Paired (fun (q : Addr) (M : List Nat) => (upd H l (.lst (as.map V.ref ++ [.ref x]))) q = some (.lst (iv M))) bs MM := by
    intro bs MM hb hp
    induction hp with
    | nil => exact .nil
    | @cons q M bs MM r t ih =>
      refine .cons ?_ (ih fun y hy => hb y (List.mem_cons_of_mem _ hy))
      rw [upd_ne (key q M (hb q List.mem_cons_self) r)]
      exact r
  exact go (fun q hq => hq) h2
theorem LolAt.get {H : Hp} {l : Addr} {LL : List (List Nat)} (h : LolAt H l LL) {i : Nat} {L : List Nat} (e : LL[i]? = some L) : ∃ xs x, H l = some (.lst xs) ∧ atI xs (i : Int) = some (.ref x) ∧ H x = some (.lst (iv L)) := by
  obtain ⟨as, h1, h2⟩ := h
  have hi : i < as.length := by rw [paired_len h2]; exact (List.getElem?_eq_some_iff.mp e).1
  obtain ⟨M, k1, k2⟩ := paired_get h2 (List.getElem?_eq_getElem hi)
  rw [e] at k1
  cases k1
  exact ⟨_, as[i], h1, atI_nat (by rw [List.getElem?_map, List.getElem?_eq_getElem hi]; rfl), k2⟩
theorem range_map_at {α : Type} (f : Nat → α) {N i : Nat} (h : i < N) : ((List.range N).map f)[i]? = some (f i) := by
  rw [List.getElem?_map, List.getElem?_range h]
  rfl
/-! ### what is come to, as a list -/
noncomputable def rchL (E : Nat → Nat → Prop) (N p : Nat) : List Nat := (List.range N).filter fun x => bdec (Rch E p x)
theorem rchL_mem {E : Nat → Nat → Prop} {N p x : Nat} : x ∈ rchL E N p ↔ x < N ∧ Rch E p x := by
  unfold rchL
  rw [List.mem_filter, List.mem_range, bdec_iff]
theorem rchL_rising {E : Nat → Nat → Prop} {N p : Nat} : (rchL E N p).Pairwise (· < ·) := by
  unfold rchL
  exact List.Pairwise.filter _ List.pairwise_lt_range
theorem rch_up {E : Nat → Nat → Prop} {N : Nat} (h : ∀ a b, E a b → b < N) {u v : Nat} (hu : u < N) (r : Rch E u v) : v < N := by
  obtain ⟨k, r⟩ := r
  cases r with
  | nil => exact hu
  | snoc _ e => exact h _ _ e
theorem filter_cls {ts : List (Nat × Nat)} {N p : Nat} (hp : p < N) : (rchL (Ed ts) N p).filter (fun o => decide (p ∈ rchL (Ed ts) N o)) = clsL (Ed ts) N p := by
  unfold rchL clsL
  rw [List.filter_filter]
  refine List.filter_congr fun x hx => ?_
  rw [Bool.eq_iff_iff, Bool.and_eq_true, bdec_iff, bdec_iff, decide_eq_true_iff]
  show p ∈ rchL (Ed ts) N x ∧ Rch (Ed ts) p x ↔ Mut (Ed ts) p x
  rw [rchL_mem]
  exact ⟨fun z => ⟨z.2, z.1.2⟩, fun z => ⟨⟨hp, z.2⟩, z.1⟩⟩
noncomputable def headsN (E : Nat → Nat → Prop) (i : Nat) : List Nat := (List.range i).filter fun p => bdec (∀ x, x < p → ¬ Mut E p x)
theorem headsN_yes {E : Nat → Nat → Prop} {N i : Nat} (hi : i < N) (h : i ∈ headsL E N) : headsN E (i + 1) = headsN E i ++ [i] := by
  unfold headsN
  rw [List.range_succ, List.filter_append]
  congr 1
  rw [List.filter_cons, List.filter_nil]
  exact if_pos (bdec_iff.mpr (headsL_mem.mp h).2)
theorem headsN_no {E : Nat → Nat → Prop} {N i : Nat} (hi : i < N) (h : i ∉ headsL E N) : headsN E (i + 1) = headsN E i := by
  unfold headsN
  rw [List.range_succ, List.filter_append, List.filter_cons, List.filter_nil, if_neg (fun z => h (headsL_mem.mpr ⟨hi, bdec_iff.mp z⟩)), List.append_nil]
theorem cls_first {E : Nat → Nat → Prop} {N p : Nat} (hp : p < N) : ∃ a r, clsL E N p = a :: r ∧ (a = p ↔ p ∈ headsL E N) := by
  have hm : p ∈ clsL E N p := clsL_mem.mpr ⟨hp, mut_refl p⟩
  have hr := clsL_rising (E := E) (N := N) (p := p)
  cases e : clsL E N p with
  | nil => rw [e] at hm; simp at hm
  | cons a r =>
    refine ⟨a, r, rfl, ?_, ?_⟩
    · rintro rfl
      refine headsL_mem.mpr ⟨hp, fun x hx hmx => ?_⟩
      have hx2 : x ∈ clsL E N a := clsL_mem.mpr ⟨by omega, hmx⟩
      rw [e] at hx2 hr
      rcases List.mem_cons.mp hx2 with z | z
      · omega
      · have := (List.pairwise_cons.mp hr).1 x z
        omega
    · intro h
      obtain ⟨r', e'⟩ := clsL_head h
      rw [e] at e'
      exact (List.cons.inj e').1
theorem nodup_len {N : Nat} {L : List Nat} (h : L.Pairwise (· < ·)) (hl : ∀ x ∈ L, x < N) : L.length ≤ N := few (h.imp fun z => Nat.ne_of_lt z) hl
theorem parts_len {E : Nat → Nat → Prop} {N : Nat} : (partsL E N).length ≤ N := by
  unfold partsL
  rw [List.length_map]
  exact nodup_len headsL_rising fun x hx => (headsL_mem.mp hx).1
section
variable {P : Program} {w : World} {K : PySem.W.Frag} {mg : Str → Option Value} {base : Heap} {C CPE cM : Addr} {XA : Str → Addr} {TL : List (Addr × Str)}
def spparts_of (_ : PySem.W.Frag) (C : Addr) (XA : Str → Addr) : Sp := fun vs H Q E => ∃ z, vs = [z] ∧ ((∃ d, Vd H z d ∧ Rz E (XA "InvalidWeb") z H) ∨ ∃ a N ts, z = .ref a ∧ WebAt C a N ts H ∧ OkWeb N ts ∧ ∀ H' l, H l = none → Same H H' → LolAt H' l (partsL (Ed ts) N) → NewIn H H' l → Q (.ref l) H')
theorem okparts_of (D : Def K mg "parts_of" sparts_of ["web"]) (B : Bs mg) (Glb : Glo mg) (WK : WebK K mg C) (EXInvalidWeb : ExcF P w K mg base "value" "InvalidWeb" (XA "InvalidWeb")) (EXInvalidPlaces : ExcF P w K mg base "value" "InvalidPlaces" (XA "InvalidPlaces")) (EXInvalidTies : ExcF P w K mg base "value" "InvalidTies" (XA "InvalidTies")) (EXInvalidPlace : ExcF P w K mg base "value" "InvalidPlace" (XA "InvalidPlace")) (EXInvalidWalk : ExcF P w K mg base "value" "InvalidWalk" (XA "InvalidWalk")) (EXInvalidRound : ExcF P w K mg base "value" "InvalidRound" (XA "InvalidRound")) (EXInvalidWithout : ExcF P w K mg base "value" "InvalidWithout" (XA "InvalidWithout")) (EXInvalidPart : ExcF P w K mg base "value" "InvalidPart" (XA "InvalidPart")) (PErr : mg "PieceError" = some (.ref CPE)) (EXM : ExM K XA CPE)
    (hneed_web : GoodX P w K mg base "need_web" sneed_web ["web"] 3 (spneed_web K C XA))
    (hparts_in_turn : Good P w K mg base "parts_in_turn" sparts_in_turn ["points", "steps"] 2 (spparts_in_turn K C XA))
    (hweb_steps : Good P w K mg base "web_steps" sweb_steps ["web"] 3 (spweb_steps K C XA))
    (hWeb_places : GoodP P w K mg base C "places" "Web.places" sWeb_places ["self"] 1 (spWeb_places K C XA)) :
    GoodX P w K mg base "parts_of" sparts_of ["web"] 4 (spparts_of K C XA) := by
  refine D.goodX fun f fd F => ?_
  obtain ⟨fneed_web, dneed_web, Oneed_web, mneed_web, kneed_web, bneed_web, Fneed_web⟩ := hneed_web
  obtain ⟨fparts_in_turn, dparts_in_turn, Oparts_in_turn, mparts_in_turn, kparts_in_turn, bparts_in_turn, Fparts_in_turn⟩ := hparts_in_turn
  obtain ⟨fweb_steps, dweb_steps, Oweb_steps, mweb_steps, kweb_steps, bweb_steps, Fweb_steps⟩ := hweb_steps
  obtain ⟨qWeb_places, fWeb_places, dWeb_places, OWeb_places, pWeb_places, bWeb_places⟩ := hWeb_places
  refine F.okX scparts_of (fun vs H Q E h => ?_) (fun cdv A outer s H vs Q E hr h => ?_)
  · obtain ⟨z, rfl, h⟩ := h
    first | rfl | (rcases h with ⟨_, _, rfl, _⟩ | ⟨_, rfl, _⟩ <;> rfl)
  obtain ⟨z, rfl, h⟩ := h
  refine ⟨_, (pss_cons (ps_expr (pe_callS Oneed_web hr rfl mneed_web kneed_web bneed_web (fun σ => passAt (takes_of rfl rfl rfl rfl) σ) (pa_cons (pv 0) pa_nil)))
  (pss_one (ps_ret (pe_callB (cr_sortD hr.units) (by rfl) B.sorted (by decide +kernel) (pa_cons (pe_call Oparts_in_turn (hr.mono (by decide)) rfl mparts_in_turn kparts_in_turn bparts_in_turn .nil pass0 (pa_cons (pe_prop (pv 0) WK.cl pWeb_places OWeb_places (hr.mono (by decide)) bWeb_places .nil pass0 (by rfl)) (pa_cons (pe_call Oweb_steps hr rfl mweb_steps kweb_steps bweb_steps .nil pass0 (pa_cons (pv 0) pa_nil)) pa_nil))) pa_nil))))), ?_⟩
  rcases h with ⟨d, hd, q⟩ | ⟨a, N, ts, rfl, hw, ho, q⟩
  · exact ⟨_, rfl, z, rfl, .inr ⟨d, hd, q⟩⟩
  obtain ⟨dx, tl, fl, ol, h1, _⟩ := id hw
  refine ⟨_, rfl, .ref a, rfl, .inl ⟨a, N, ts, rfl, hw, ?_⟩⟩
  refine ⟨_, rfl, a, dx, _, rfl, h1, a, N, ts, rfl, hw, _, rfl, a, N, ts, rfl, hw, ho, fun H1 l nl hS1 hst => ?_⟩
  refine ⟨N, l, ts, rfl, hst, ho, fun H2 pl hs npl hS2 hperm ⟨as, g1, g2⟩ hni => ?_⟩
  refine ⟨pl, as.map V.ref, (hs.map (clsL (Ed ts) N)).map dn, rfl, SqL.of g1, dpAll_lol g2, lol_alike _, lol_sortable _, fun d hd => ?_, ?_, fun zs p hz np => ?_⟩
  · obtain ⟨L, _, rfl⟩ := List.mem_map.mp hd
    exact dn_depth L
  · rw [List.length_map, paired_len g2, List.length_map, hperm.length_eq]
    exact Nat.le_trans (nodup_len headsL_rising fun x hx => (headsL_mem.mp hx).1) (Nat.le_trans ho.n1 (by decide))
  rw [sort_parts hperm] at hz
  obtain ⟨bs, rfl, k1, k2⟩ := lol_pick g2 hz
  have hS02 := hS1.trans hS2
  refine q _ p (hS02.free np) (fun b o e => same_new np _ _ _ (hS02 _ _ e)) ⟨bs, upd_same, paired_mono (fun x L hx => same_new np _ _ _ hx) k1⟩ fun xs x hx hq => ?_
  rw [upd_same] at hx
  cases hx
  obtain ⟨b, hb, e⟩ := List.mem_map.mp hq
  cases e
  exact hS1.free (hni _ _ g1 (List.mem_map.mpr ⟨_, k2 _ hb, rfl⟩))
end
end My
namespace My
open PySem L2 PyProof.Rows
theorem count_at {H : Hp} {v : V} {d : PyData} (h : Vd H v d) : True := trivial
section
variable {P : Program} {w : World} {K : PySem.W.Frag} {mg : Str → Option Value} {base : Heap} {C CPE cM : Addr} {XA : Str → Addr} {TL : List (Addr × Str)}
def sp_places_to (_ : PySem.W.Frag) (_ : Addr) (_ : Str → Addr) : Sp := fun _ _ _ _ => False
def sp_walk_back (_ : PySem.W.Frag) (_ : Addr) (_ : Str → Addr) : Sp := fun _ _ _ _ => False
def splongest_borders (_ : PySem.W.Frag) (_ : Addr) (_ : Str → Addr) : Sp := fun _ _ _ _ => False
theorem ok_places_to (D : Def K mg "_places_to" s_places_to ["web", "without"]) (B : Bs mg) (Glb : Glo mg) (WK : WebK K mg C) (EXInvalidWeb : ExcF P w K mg base "value" "InvalidWeb" (XA "InvalidWeb")) (EXInvalidPlaces : ExcF P w K mg base "value" "InvalidPlaces" (XA "InvalidPlaces")) (EXInvalidTies : ExcF P w K mg base "value" "InvalidTies" (XA "InvalidTies")) (EXInvalidPlace : ExcF P w K mg base "value" "InvalidPlace" (XA "InvalidPlace")) (EXInvalidWalk : ExcF P w K mg base "value" "InvalidWalk" (XA "InvalidWalk")) (EXInvalidRound : ExcF P w K mg base "value" "InvalidRound" (XA "InvalidRound")) (EXInvalidWithout : ExcF P w K mg base "value" "InvalidWithout" (XA "InvalidWithout")) (EXInvalidPart : ExcF P w K mg base "value" "InvalidPart" (XA "InvalidPart")) (PErr : mg "PieceError" = some (.ref CPE)) (EXM : ExM K XA CPE) :
    Good P w K mg base "_places_to" s_places_to ["web", "without"] 3 (sp_places_to K C XA) := D.never
theorem ok_walk_back (D : Def K mg "_walk_back" s_walk_back ["ties", "came_by", "near", "far"]) (B : Bs mg) (Glb : Glo mg) (WK : WebK K mg C) (EXInvalidWeb : ExcF P w K mg base "value" "InvalidWeb" (XA "InvalidWeb")) (EXInvalidPlaces : ExcF P w K mg base "value" "InvalidPlaces" (XA "InvalidPlaces")) (EXInvalidTies : ExcF P w K mg base "value" "InvalidTies" (XA "InvalidTies")) (EXInvalidPlace : ExcF P w K mg base "value" "InvalidPlace" (XA "InvalidPlace")) (EXInvalidWalk : ExcF P w K mg base "value" "InvalidWalk" (XA "InvalidWalk")) (EXInvalidRound : ExcF P w K mg base "value" "InvalidRound" (XA "InvalidRound")) (EXInvalidWithout : ExcF P w K mg base "value" "InvalidWithout" (XA "InvalidWithout")) (EXInvalidPart : ExcF P w K mg base "value" "InvalidPart" (XA "InvalidPart")) (PErr : mg "PieceError" = some (.ref CPE)) (EXM : ExM K XA CPE) :
    Good P w K mg base "_walk_back" s_walk_back ["ties", "came_by", "near", "far"] 1 (sp_walk_back K C XA) := D.never
theorem oklongest_borders (D : Def K mg "longest_borders" slongest_borders ["word"]) (B : Bs mg) (Glb : Glo mg) (WK : WebK K mg C) (EXInvalidWeb : ExcF P w K mg base "value" "InvalidWeb" (XA "InvalidWeb")) (EXInvalidPlaces : ExcF P w K mg base "value" "InvalidPlaces" (XA "InvalidPlaces")) (EXInvalidTies : ExcF P w K mg base "value" "InvalidTies" (XA "InvalidTies")) (EXInvalidPlace : ExcF P w K mg base "value" "InvalidPlace" (XA "InvalidPlace")) (EXInvalidWalk : ExcF P w K mg base "value" "InvalidWalk" (XA "InvalidWalk")) (EXInvalidRound : ExcF P w K mg base "value" "InvalidRound" (XA "InvalidRound")) (EXInvalidWithout : ExcF P w K mg base "value" "InvalidWithout" (XA "InvalidWithout")) (EXInvalidPart : ExcF P w K mg base "value" "InvalidPart" (XA "InvalidPart")) (PErr : mg "PieceError" = some (.ref CPE)) (EXM : ExM K XA CPE) :
    Good P w K mg base "longest_borders" slongest_borders ["word"] 1 (splongest_borders K C XA) := D.never
theorem okstarts_in (D : Def K mg "starts_in" sstarts_in ["cycle", "word"]) (B : Bs mg) (Glb : Glo mg) (WK : WebK K mg C) (EXInvalidWeb : ExcF P w K mg base "value" "InvalidWeb" (XA "InvalidWeb")) (EXInvalidPlaces : ExcF P w K mg base "value" "InvalidPlaces" (XA "InvalidPlaces")) (EXInvalidTies : ExcF P w K mg base "value" "InvalidTies" (XA "InvalidTies")) (EXInvalidPlace : ExcF P w K mg base "value" "InvalidPlace" (XA "InvalidPlace")) (EXInvalidWalk : ExcF P w K mg base "value" "InvalidWalk" (XA "InvalidWalk")) (EXInvalidRound : ExcF P w K mg base "value" "InvalidRound" (XA "InvalidRound")) (EXInvalidWithout : ExcF P w K mg base "value" "InvalidWithout" (XA "InvalidWithout")) (EXInvalidPart : ExcF P w K mg base "value" "InvalidPart" (XA "InvalidPart")) (PErr : mg "PieceError" = some (.ref CPE)) (EXM : ExM K XA CPE) :
    Good P w K mg base "starts_in" sstarts_in ["cycle", "word"] 2 (spstarts_in K C XA) := D.never
theorem okback_web (D : Def K mg "back_web" sback_web ["web"]) (B : Bs mg) (Glb : Glo mg) (WK : WebK K mg C) (EXInvalidWeb : ExcF P w K mg base "value" "InvalidWeb" (XA "InvalidWeb")) (EXInvalidPlaces : ExcF P w K mg base "value" "InvalidPlaces" (XA "InvalidPlaces")) (EXInvalidTies : ExcF P w K mg base "value" "InvalidTies" (XA "InvalidTies")) (EXInvalidPlace : ExcF P w K mg base "value" "InvalidPlace" (XA "InvalidPlace")) (EXInvalidWalk : ExcF P w K mg base "value" "InvalidWalk" (XA "InvalidWalk")) (EXInvalidRound : ExcF P w K mg base "value" "InvalidRound" (XA "InvalidRound")) (EXInvalidWithout : ExcF P w K mg base "value" "InvalidWithout" (XA "InvalidWithout")) (EXInvalidPart : ExcF P w K mg base "value" "InvalidPart" (XA "InvalidPart")) (PErr : mg "PieceError" = some (.ref CPE)) (EXM : ExM K XA CPE)
    (hneed_web : GoodX P w K mg base "need_web" sneed_web ["web"] 3 (spneed_web K C XA))
    (hWeb___init__ : GoodJX P w K mg base C "__init__" "Web.__init__" sWeb___init__ ["self", "places", "ties"] 5 (spWeb___init__ K C XA))
    (hWeb_places : GoodP P w K mg base C "places" "Web.places" sWeb_places ["self"] 1 (spWeb_places K C XA))
    (hWeb_ties : GoodM P w K mg base C "ties" "Web.ties" sWeb_ties ["self"] 1 (spWeb_ties K C XA)) :
    GoodX P w K mg base "back_web" sback_web ["web"] 7 (spback_web K C XA) := by
  refine D.goodX fun f fd F => ?_
  obtain ⟨fneed_web, dneed_web, Oneed_web, mneed_web, kneed_web, bneed_web, Fneed_web⟩ := hneed_web
  obtain ⟨fWeb___init__, dWeb___init__, OWeb___init__, MK, bWeb___init__, FWeb___init__⟩ := hWeb___init__
  obtain ⟨qWeb_places, fWeb_places, dWeb_places, OWeb_places, pWeb_places, bWeb_places⟩ := hWeb_places
  obtain ⟨fWeb_ties, dWeb_ties, OWeb_ties, tWeb_ties, bWeb_ties, FWeb_ties⟩ := hWeb_ties
  refine F.okX scback_web (fun vs H Q E h => ?_) (fun cdv A outer s H vs Q E hr h => ?_)
  · obtain ⟨z, rfl, d, hd, q⟩ := h
    first | rfl | (rcases h with ⟨_, _, rfl, _⟩ | ⟨_, rfl, _⟩ <;> rfl)
  obtain ⟨z, rfl, d, hd, q⟩ := h
  refine ⟨_, (pss_cons (ps_expr (pe_callS Oneed_web (hr.mono (by decide)) rfl mneed_web kneed_web bneed_web (fun σ => passAt (takes_of rfl rfl rfl rfl) σ) (pa_cons (pv 0) pa_nil)))
  (pss_one (ps_ret (pe_make MK OWeb___init__ (hr.mono (by decide)) rfl WK.mgC bWeb___init__ .nil (passes_call (takes_of rfl rfl rfl rfl) (fun _ _ _ _ h => h)) (pa_cons (pe_prop (pv 0) WK.cl pWeb_places OWeb_places (hr.mono (by decide)) bWeb_places .nil pass0 (by rfl)) (pa_cons (pe_lc (own := [("near", 1), ("far", 2)]) (g := gTup K 2 (gCons (gName 1) (gCons (gName 2) gNil))) (by rfl) scback_web.nd (pi_list (pe_meth0 (pv 0) WK.cl tWeb_ties OWeb_ties (hr.mono (by decide)) bWeb_ties .nil pass0)) (blkOk_by (own := [("near", 1), ("far", 2)]) (N := ["web", "near", "far"]) (sc := defScope sback_web) (by decide +kernel)) (fun _ _ _ _ _ => (pg_tup rfl (pgs_cons (pg_name (i := 1) scback_web.nd rfl (by first | exact Or.inl rfl | exact Or.inr rfl)) (pgs_cons (pg_name (i := 2) scback_web.nd rfl (by first | exact Or.inl rfl | exact Or.inr rfl)) pgs_nil)))) (fun _ _ _ _ _ => pts_nil) (fun _ _ _ _ _ => (pe_tup (pa_cons (pv 2) (pa_cons (pv 1) pa_nil))))) pa_nil)))))), ?_⟩
  exact ⟨_, rfl, z, rfl, .inr ⟨d, hd, q⟩⟩
def spis_close (_ : PySem.W.Frag) (C : Addr) (XA : Str → Addr) : Sp := fun vs H Q E => ∃ z, vs = [z] ∧ ∃ d, Vd H z d ∧ Rz E (XA "InvalidWeb") z H
theorem okis_close (D : Def K mg "is_close" sis_close ["web"]) (B : Bs mg) (Glb : Glo mg) (WK : WebK K mg C) (EXInvalidWeb : ExcF P w K mg base "value" "InvalidWeb" (XA "InvalidWeb")) (EXInvalidPlaces : ExcF P w K mg base "value" "InvalidPlaces" (XA "InvalidPlaces")) (EXInvalidTies : ExcF P w K mg base "value" "InvalidTies" (XA "InvalidTies")) (EXInvalidPlace : ExcF P w K mg base "value" "InvalidPlace" (XA "InvalidPlace")) (EXInvalidWalk : ExcF P w K mg base "value" "InvalidWalk" (XA "InvalidWalk")) (EXInvalidRound : ExcF P w K mg base "value" "InvalidRound" (XA "InvalidRound")) (EXInvalidWithout : ExcF P w K mg base "value" "InvalidWithout" (XA "InvalidWithout")) (EXInvalidPart : ExcF P w K mg base "value" "InvalidPart" (XA "InvalidPart")) (PErr : mg "PieceError" = some (.ref CPE)) (EXM : ExM K XA CPE)
    (hneed_web : GoodX P w K mg base "need_web" sneed_web ["web"] 3 (spneed_web K C XA))
    (hparts_of : GoodX P w K mg base "parts_of" sparts_of ["web"] 4 (spparts_of K C XA))
    (hWeb_many : GoodP P w K mg base C "many" "Web.many" sWeb_many ["self"] 1 (spWeb_many K C XA)) :
    GoodX P w K mg base "is_close" sis_close ["web"] 5 (spis_close K C XA) := by
  refine D.goodX fun f fd F => ?_
  obtain ⟨fneed_web, dneed_web, Oneed_web, mneed_web, kneed_web, bneed_web, Fneed_web⟩ := hneed_web
  obtain ⟨fparts_of, dparts_of, Oparts_of, mparts_of, kparts_of, bparts_of, Fparts_of⟩ := hparts_of
  obtain ⟨qWeb_many, fWeb_many, dWeb_many, OWeb_many, pWeb_many, bWeb_many⟩ := hWeb_many
  refine F.okX scis_close (fun vs H Q E h => ?_) (fun cdv A outer s H vs Q E hr h => ?_)
  · obtain ⟨z, rfl, d, hd, q⟩ := h
    first | rfl | (rcases h with ⟨_, _, rfl, _⟩ | ⟨_, rfl, _⟩ <;> rfl)
  obtain ⟨z, rfl, d, hd, q⟩ := h
  refine ⟨_, (pss_cons (ps_expr (pe_callS Oneed_web (hr.mono (by decide)) rfl mneed_web kneed_web bneed_web (fun σ => passAt (takes_of rfl rfl rfl rfl) σ) (pa_cons (pv 0) pa_nil)))
  (pss_one (ps_ret (pe_and (pe_cmpR op_gt (pe_prop (pv 0) WK.cl pWeb_many OWeb_many (hr.mono (by decide)) bWeb_many .nil pass0 (by rfl)) pe_int (nomark _)) (pe_one (pe_cmpR op_eq (pe_callB call_len_seq (by rfl) B.len (by decide +kernel) (pa_cons (pe_callS Oparts_of hr rfl mparts_of kparts_of bparts_of (fun σ => passAt (takes_of rfl rfl rfl rfl) σ) (pa_cons (pv 0) pa_nil)) pa_nil)) pe_int (nomark _))))))), ?_⟩
  exact ⟨_, rfl, z, rfl, .inr ⟨d, hd, q⟩⟩
def spis_single_ring (_ : PySem.W.Frag) (C : Addr) (XA : Str → Addr) : Sp := fun vs H Q E => ∃ z, vs = [z] ∧ ∃ d, Vd H z d ∧ Rz E (XA "InvalidWeb") z H
theorem okis_single_ring (D : Def K mg "is_single_ring" sis_single_ring ["web"]) (B : Bs mg) (Glb : Glo mg) (WK : WebK K mg C) (EXInvalidWeb : ExcF P w K mg base "value" "InvalidWeb" (XA "InvalidWeb")) (EXInvalidPlaces : ExcF P w K mg base "value" "InvalidPlaces" (XA "InvalidPlaces")) (EXInvalidTies : ExcF P w K mg base "value" "InvalidTies" (XA "InvalidTies")) (EXInvalidPlace : ExcF P w K mg base "value" "InvalidPlace" (XA "InvalidPlace")) (EXInvalidWalk : ExcF P w K mg base "value" "InvalidWalk" (XA "InvalidWalk")) (EXInvalidRound : ExcF P w K mg base "value" "InvalidRound" (XA "InvalidRound")) (EXInvalidWithout : ExcF P w K mg base "value" "InvalidWithout" (XA "InvalidWithout")) (EXInvalidPart : ExcF P w K mg base "value" "InvalidPart" (XA "InvalidPart")) (PErr : mg "PieceError" = some (.ref CPE)) (EXM : ExM K XA CPE)
    (his_close : GoodX P w K mg base "is_close" sis_close ["web"] 5 (spis_close K C XA))
    (hWeb_many : GoodP P w K mg base C "many" "Web.many" sWeb_many ["self"] 1 (spWeb_many K C XA))
    (hWeb_places : GoodP P w K mg base C "places" "Web.places" sWeb_places ["self"] 1 (spWeb_places K C XA)) :
    GoodX P w K mg base "is_single_ring" sis_single_ring ["web"] 6 (spis_single_ring K C XA) := by
  refine D.goodX fun f fd F => ?_
  obtain ⟨fis_close, dis_close, Ois_close, mis_close, kis_close, bis_close, Fis_close⟩ := his_close
  obtain ⟨qWeb_many, fWeb_many, dWeb_many, OWeb_many, pWeb_many, bWeb_many⟩ := hWeb_many
  obtain ⟨qWeb_places, fWeb_places, dWeb_places, OWeb_places, pWeb_places, bWeb_places⟩ := hWeb_places
  refine F.okX scis_single_ring (fun vs H Q E h => ?_) (fun cdv A outer s H vs Q E hr h => ?_)
  · obtain ⟨z, rfl, d, hd, q⟩ := h
    first | rfl | (rcases h with ⟨_, _, rfl, _⟩ | ⟨_, rfl, _⟩ <;> rfl)
  obtain ⟨z, rfl, d, hd, q⟩ := h
  refine ⟨_, (pss_one (ps_ret (pe_and (pe_callS Ois_close hr rfl mis_close kis_close bis_close (fun σ => passAt (takes_of rfl rfl rfl rfl) σ) (pa_cons (pv 0) pa_nil)) (pe_one (pe_cmpR op_eq (pe_prop (pv 0) WK.cl pWeb_many OWeb_many (hr.mono (by decide)) bWeb_many .nil pass0 (by rfl)) (pe_prop (pv 0) WK.cl pWeb_places OWeb_places (hr.mono (by decide)) bWeb_places .nil pass0 (by rfl)) (nomark _)))))), ?_⟩
  exact ⟨_, rfl, z, rfl, d, hd, q⟩
def spplain_parts (_ : PySem.W.Frag) (C : Addr) (XA : Str → Addr) : Sp := fun vs H Q E => ∃ z, vs = [z] ∧ ∃ d, Vd H z d ∧ Rz E (XA "InvalidWeb") z H
def sp_need_without (_ : PySem.W.Frag) (C : Addr) (XA : Str → Addr) : Sp := fun vs H Q E => ∃ a N ts v o, vs = [.ref a, v] ∧ WebAt C a N ts H ∧ Val H v o ∧ NumS ts.length o = false ∧ Rz E (XA "InvalidWithout") v H
theorem ok_need_without (D : Def K mg "_need_without" s_need_without ["web", "without"]) (B : Bs mg) (Glb : Glo mg) (WK : WebK K mg C) (EXInvalidWeb : ExcF P w K mg base "value" "InvalidWeb" (XA "InvalidWeb")) (EXInvalidPlaces : ExcF P w K mg base "value" "InvalidPlaces" (XA "InvalidPlaces")) (EXInvalidTies : ExcF P w K mg base "value" "InvalidTies" (XA "InvalidTies")) (EXInvalidPlace : ExcF P w K mg base "value" "InvalidPlace" (XA "InvalidPlace")) (EXInvalidWalk : ExcF P w K mg base "value" "InvalidWalk" (XA "InvalidWalk")) (EXInvalidRound : ExcF P w K mg base "value" "InvalidRound" (XA "InvalidRound")) (EXInvalidWithout : ExcF P w K mg base "value" "InvalidWithout" (XA "InvalidWithout")) (EXInvalidPart : ExcF P w K mg base "value" "InvalidPart" (XA "InvalidPart")) (PErr : mg "PieceError" = some (.ref CPE)) (EXM : ExM K XA CPE)
    (hare_numbers : Good P w K mg base "are_numbers" sare_numbers ["web", "value"] 4 (spare_numbers K C XA)) :
    GoodX P w K mg base "_need_without" s_need_without ["web", "without"] 5 (sp_need_without K C XA) := by
  refine D.goodX fun f fd F => ?_
  obtain ⟨fare_numbers, dare_numbers, Oare_numbers, mare_numbers, kare_numbers, bare_numbers, Fare_numbers⟩ := hare_numbers
  refine F.okX sc_need_without (fun vs H Q E h => ?_) (fun cdv A outer s H vs Q E hr h => ?_)
  · obtain ⟨a, N, ts, v, o, rfl, hw, hv, hn, q⟩ := h
    first | rfl | (rcases h with ⟨_, _, rfl, _⟩ | ⟨_, rfl, _⟩ <;> rfl)
  obtain ⟨a, N, ts, v, o, rfl, hw, hv, hn, q⟩ := h
  refine ⟨_, (pss_one (ps_if (pt_not (pt_val (pe_call Oare_numbers hr rfl mare_numbers kare_numbers bare_numbers .nil pass0 (pa_cons (pv 0) (pa_cons (pv 1) pa_nil)))))
    (pss_one (ps_raise rfl (takes_of rfl rfl rfl rfl) (pmk_fld EXInvalidWithout (hr.mono (by decide)) (by rfl) (pa_cons (pv 1) pa_nil)))) pss_nil)), ?_⟩
  refine ⟨_, rfl, _, rfl, a, N, ts, v, o, rfl, hw, hv, fun H1 hS1 => ⟨_, rfl, ?_⟩⟩
  rw [hn]
  exact iteT ⟨_, rfl, q.go hS1⟩
def spreach (_ : PySem.W.Frag) (C : Addr) (XA : Str → Addr) : Sp := fun vs H Q E => ∃ z p v, vs = [z, p, v] ∧ ((∃ d, Vd H z d ∧ Rz E (XA "InvalidWeb") z H) ∨ ∃ a N ts o, z = .ref a ∧ WebAt C a N ts H ∧ Num H p o ∧ ((inR N o = false ∧ Rz E (XA "InvalidPlace") p H) ∨
  ∃ o2, inR N o = true ∧ Val H v o2 ∧ NumS ts.length o2 = false ∧ Rz E (XA "InvalidWithout") v H))
theorem okreach (D : Def K mg "reach" sreach ["web", "place", "without"]) (B : Bs mg) (Glb : Glo mg) (WK : WebK K mg C) (EXInvalidWeb : ExcF P w K mg base "value" "InvalidWeb" (XA "InvalidWeb")) (EXInvalidPlaces : ExcF P w K mg base "value" "InvalidPlaces" (XA "InvalidPlaces")) (EXInvalidTies : ExcF P w K mg base "value" "InvalidTies" (XA "InvalidTies")) (EXInvalidPlace : ExcF P w K mg base "value" "InvalidPlace" (XA "InvalidPlace")) (EXInvalidWalk : ExcF P w K mg base "value" "InvalidWalk" (XA "InvalidWalk")) (EXInvalidRound : ExcF P w K mg base "value" "InvalidRound" (XA "InvalidRound")) (EXInvalidWithout : ExcF P w K mg base "value" "InvalidWithout" (XA "InvalidWithout")) (EXInvalidPart : ExcF P w K mg base "value" "InvalidPart" (XA "InvalidPart")) (PErr : mg "PieceError" = some (.ref CPE)) (EXM : ExM K XA CPE)
    (hneed_web : GoodX P w K mg base "need_web" sneed_web ["web"] 3 (spneed_web K C XA))
    (hneed_place : GoodX P w K mg base "need_place" sneed_place ["web", "place"] 4 (spneed_place K C XA))
    (h_need_without : GoodX P w K mg base "_need_without" s_need_without ["web", "without"] 5 (sp_need_without K C XA))
    (h_places_to : Good P w K mg base "_places_to" s_places_to ["web", "without"] 3 (sp_places_to K C XA)) :
    GoodX P w K mg base "reach" sreach ["web", "place", "without"] 6 (spreach K C XA) := by
  refine D.goodX fun f fd F => ?_
  obtain ⟨fneed_web, dneed_web, Oneed_web, mneed_web, kneed_web, bneed_web, Fneed_web⟩ := hneed_web
  obtain ⟨fneed_place, dneed_place, Oneed_place, mneed_place, kneed_place, bneed_place, Fneed_place⟩ := hneed_place
  obtain ⟨f_need_without, d_need_without, O_need_without, m_need_without, k_need_without, b_need_without, F_need_without⟩ := h_need_without
  obtain ⟨f_places_to, d_places_to, O_places_to, m_places_to, k_places_to, b_places_to, F_places_to⟩ := h_places_to
  refine F.okX screach (fun vs H Q E h => ?_) (fun cdv A outer s H vs Q E hr h => ?_)
  · obtain ⟨z, p, v, rfl, h⟩ := h
    first | rfl | (rcases h with ⟨_, _, rfl, _⟩ | ⟨_, rfl, _⟩ <;> rfl)
  obtain ⟨z, p, v, rfl, h⟩ := h
  refine ⟨_, (pss_cons (ps_expr (pe_callS Oneed_web (hr.mono (by decide)) rfl mneed_web kneed_web bneed_web (fun σ => passAt (takes_of rfl rfl rfl rfl) σ) (pa_cons (pv 0) pa_nil)))
  (pss_cons (ps_expr (pe_callS Oneed_place (hr.mono (by decide)) rfl mneed_place kneed_place bneed_place (fun σ => passAt (takes_of rfl rfl rfl rfl) σ) (pa_cons (pv 0) (pa_cons (pv 1) pa_nil))))
  (pss_cons (ps_expr (pe_callS O_need_without hr rfl m_need_without k_need_without b_need_without (fun σ => passAt (takes_of rfl rfl rfl rfl) σ) (pa_cons (pv 0) (pa_cons (pv 2) pa_nil))))
  (pss_cons (ps_set (i := 3) screach.nd rfl (by first | exact Or.inl rfl | exact Or.inr rfl) (pe_call O_places_to (hr.mono (by decide)) rfl m_places_to k_places_to b_places_to .nil pass0 (pa_cons (pv 0) (pa_cons (pv 2) pa_nil))))
  (pss_cons (ps_set (i := 4) screach.nd rfl (by first | exact Or.inl rfl | exact Or.inr rfl) (pe_disp (pps_cons (pv 1) pe_bl pps_nil) (by rfl) (by rfl) (fun z => by cases z) (by decide)))
  (pss_cons (ps_set (i := 5) screach.nd rfl (by first | exact Or.inl rfl | exact Or.inr rfl) (pe_lst (pa_cons (pv 1) pa_nil)))
  (pss_cons (ps_while (passes_of rfl) (pt_cmpR (op_neD hr.units) (pv 5) (pe_lst pa_nil) (nomark _))
    (pss_cons (ps_set (i := 6) screach.nd rfl (by first | exact Or.inl rfl | exact Or.inr rfl) (pe_bm0 PySem.F.plainAttrs_list PySem.F.slot_list_pop PySem.F.type_list_pop mt_pop (pv 5)))
  (pss_one (ps_for (passes_of rfl) rfl (pi_list (pe_ix ix_list (pv 3) (pv 6) (fun _ _ => rfl))) (pg_name (i := 7) screach.nd rfl (by first | exact Or.inl rfl | exact Or.inr rfl))
    (pss_one (ps_if (pt_cmp (pc_dnotin (hu_of hr) (pv 7) (pv 4)))
    (pss_cons (ps_dput (hu_of hr) (pv 4) (pv 7) pe_bl rfl)
  (pss_one (ps_expr (pe_bm PySem.F.plainAttrs_list PySem.F.slot_list_append PySem.F.type_list_append mt_append (pv 5) (pa_cons (pv 7) pa_nil))))) pss_nil))))))
  (pss_one (ps_ret (pe_callB (call_sortedDI rfl) (by rfl) B.sorted (by decide +kernel) (pa_cons (pv 4) pa_nil))))))))))), ?_⟩
  rcases h with ⟨d, hd, q⟩ | ⟨a, N, ts, o, rfl, hw, hp, ⟨hn, q⟩ | ⟨o2, hy, hv, hn, q⟩⟩
  · exact ⟨_, rfl, z, rfl, .inr ⟨d, hd, q⟩⟩
  · exact ⟨_, rfl, .ref a, rfl, .inl ⟨a, N, ts, rfl, hw, _, rfl, _, rfl, a, N, ts, p, o, rfl, hw, hp, (fun z => by rw [hn] at z; cases z), fun _ => q⟩⟩
  · exact ⟨_, rfl, .ref a, rfl, .inl ⟨a, N, ts, rfl, hw, _, rfl, _, rfl, a, N, ts, p, o, rfl, hw, hp, fun _ => ⟨_, rfl, _, rfl, a, N, ts, v, o2, rfl, hw, hv, hn, q⟩, (fun z => by rw [hy] at z; cases z)⟩⟩
theorem okplain_parts (D : Def K mg "plain_parts" splain_parts ["web"]) (B : Bs mg) (Glb : Glo mg) (WK : WebK K mg C) (EXInvalidWeb : ExcF P w K mg base "value" "InvalidWeb" (XA "InvalidWeb")) (EXInvalidPlaces : ExcF P w K mg base "value" "InvalidPlaces" (XA "InvalidPlaces")) (EXInvalidTies : ExcF P w K mg base "value" "InvalidTies" (XA "InvalidTies")) (EXInvalidPlace : ExcF P w K mg base "value" "InvalidPlace" (XA "InvalidPlace")) (EXInvalidWalk : ExcF P w K mg base "value" "InvalidWalk" (XA "InvalidWalk")) (EXInvalidRound : ExcF P w K mg base "value" "InvalidRound" (XA "InvalidRound")) (EXInvalidWithout : ExcF P w K mg base "value" "InvalidWithout" (XA "InvalidWithout")) (EXInvalidPart : ExcF P w K mg base "value" "InvalidPart" (XA "InvalidPart")) (PErr : mg "PieceError" = some (.ref CPE)) (EXM : ExM K XA CPE)
    (hneed_web : GoodX P w K mg base "need_web" sneed_web ["web"] 3 (spneed_web K C XA))
    (hreach : GoodX P w K mg base "reach" sreach ["web", "place", "without"] 6 (spreach K C XA))
    (hWeb_places : GoodP P w K mg base C "places" "Web.places" sWeb_places ["self"] 1 (spWeb_places K C XA)) :
    GoodX P w K mg base "plain_parts" splain_parts ["web"] 7 (spplain_parts K C XA) := by
  refine D.goodX fun f fd F => ?_
  obtain ⟨fneed_web, dneed_web, Oneed_web, mneed_web, kneed_web, bneed_web, Fneed_web⟩ := hneed_web
  obtain ⟨freach, dreach, Oreach, mreach, kreach, breach, Freach⟩ := hreach
  obtain ⟨qWeb_places, fWeb_places, dWeb_places, OWeb_places, pWeb_places, bWeb_places⟩ := hWeb_places
  refine F.okX scplain_parts (fun vs H Q E h => ?_) (fun cdv A outer s H vs Q E hr h => ?_)
  · obtain ⟨z, rfl, d, hd, q⟩ := h
    first | rfl | (rcases h with ⟨_, _, rfl, _⟩ | ⟨_, rfl, _⟩ <;> rfl)
  obtain ⟨z, rfl, d, hd, q⟩ := h
  refine ⟨_, (pss_cons (ps_expr (pe_callS Oneed_web (hr.mono (by decide)) rfl mneed_web kneed_web bneed_web (fun σ => passAt (takes_of rfl rfl rfl rfl) σ) (pa_cons (pv 0) pa_nil)))
  (pss_cons (ps_set (i := 1) scplain_parts.nd rfl (by first | exact Or.inl rfl | exact Or.inr rfl) (pe_lc (own := [("place", 3)]) (g := gName 3) (by rfl) scplain_parts.nd (pi_range1 (by rfl) B.range (pa_cons (pe_prop (pv 0) WK.cl pWeb_places OWeb_places (hr.mono (by decide)) bWeb_places .nil pass0 (by rfl)) pa_nil)) (blkOk_by (own := [("place", 3)]) (N := ["web", "reached", "parts", "place", "part", "other"]) (sc := defScope splain_parts) (by decide +kernel)) (fun _ _ _ _ _ => (pg_name (i := 3) scplain_parts.nd rfl (by first | exact Or.inl rfl | exact Or.inr rfl))) (fun _ _ _ _ _ => pts_nil) (fun _ _ _ _ _ => (pe_callS Oreach hr rfl mreach kreach breach (fun σ => passAt takes0 σ) (pa_cons (pv 0) (pa_cons (pv 3) (pa_cons (pe_lst pa_nil) pa_nil)))))))
  (pss_cons (ps_set (i := 2) scplain_parts.nd rfl (by first | exact Or.inl rfl | exact Or.inr rfl) (pe_lst pa_nil))
  (pss_cons (ps_for (passes_of rfl) rfl (pi_range1 (by rfl) B.range (pa_cons (pe_prop (pv 0) WK.cl pWeb_places OWeb_places (hr.mono (by decide)) bWeb_places .nil pass0 (by rfl)) pa_nil)) (pg_name (i := 3) scplain_parts.nd rfl (by first | exact Or.inl rfl | exact Or.inr rfl))
    (pss_cons (ps_setLc (i := 4) (own := [("other", 5)]) (g := gName 5) (by rfl) scplain_parts.nd rfl rfl (sw_true rfl rfl rfl (by decide +kernel)) (pi_list (pe_ix ix_list (pv 1) (pv 3) (fun _ _ => rfl))) (blkOk_by (own := [("other", 5)]) (N := ["web", "reached", "parts", "place", "part", "other"]) (sc := defScope splain_parts) (by decide +kernel)) (fun _ _ _ _ _ => (pg_name (i := 5) scplain_parts.nd rfl (by first | exact Or.inl rfl | exact Or.inr rfl))) (fun _ _ _ _ _ => (pts_one (pt_cmpR (op_in_seqK (K := K) rfl) (pv 3) (pe_ix (ix_listK (K := K) rfl) (pv 1) (pv 5) (by exact fun _ _ => rfl)) (by rfl)))) (fun _ _ _ _ _ => (pv 5)))
  (pss_one (ps_if (pt_cmpR op_eq (pe_ix ix_list (pv 4) pe_int (fun _ _ => rfl)) (pv 3) (nomark _))
    (pss_one (ps_expr (pe_bm PySem.F.plainAttrs_list PySem.F.slot_list_append PySem.F.type_list_append mt_append (pv 2) (pa_cons (pv 4) pa_nil)))) pss_nil))))
  (pss_one (ps_ret (pv 2))))))), ?_⟩
  exact ⟨_, rfl, z, rfl, .inr ⟨d, hd, q⟩⟩
def spway (_ : PySem.W.Frag) (C : Addr) (XA : Str → Addr) : Sp := fun vs H Q E => ∃ z p r v, vs = [z, p, r, v] ∧ ((∃ d, Vd H z d ∧ Rz E (XA "InvalidWeb") z H) ∨ ∃ a N ts o, z = .ref a ∧ WebAt C a N ts H ∧ Num H p o ∧ ((inR N o = false ∧ Rz E (XA "InvalidPlace") p H) ∨
  ∃ o1, inR N o = true ∧ Num H r o1 ∧ ((inR N o1 = false ∧ Rz E (XA "InvalidPlace") r H) ∨ ∃ o2, inR N o1 = true ∧ Val H v o2 ∧ NumS ts.length o2 = false ∧ Rz E (XA "InvalidWithout") v H)))
theorem okway (D : Def K mg "way" sway ["web", "near", "far", "without"]) (B : Bs mg) (Glb : Glo mg) (WK : WebK K mg C) (EXInvalidWeb : ExcF P w K mg base "value" "InvalidWeb" (XA "InvalidWeb")) (EXInvalidPlaces : ExcF P w K mg base "value" "InvalidPlaces" (XA "InvalidPlaces")) (EXInvalidTies : ExcF P w K mg base "value" "InvalidTies" (XA "InvalidTies")) (EXInvalidPlace : ExcF P w K mg base "value" "InvalidPlace" (XA "InvalidPlace")) (EXInvalidWalk : ExcF P w K mg base "value" "InvalidWalk" (XA "InvalidWalk")) (EXInvalidRound : ExcF P w K mg base "value" "InvalidRound" (XA "InvalidRound")) (EXInvalidWithout : ExcF P w K mg base "value" "InvalidWithout" (XA "InvalidWithout")) (EXInvalidPart : ExcF P w K mg base "value" "InvalidPart" (XA "InvalidPart")) (PErr : mg "PieceError" = some (.ref CPE)) (EXM : ExM K XA CPE)
    (hneed_web : GoodX P w K mg base "need_web" sneed_web ["web"] 3 (spneed_web K C XA))
    (hneed_place : GoodX P w K mg base "need_place" sneed_place ["web", "place"] 4 (spneed_place K C XA))
    (h_need_without : GoodX P w K mg base "_need_without" s_need_without ["web", "without"] 5 (sp_need_without K C XA))
    (h_walk_back : Good P w K mg base "_walk_back" s_walk_back ["ties", "came_by", "near", "far"] 1 (sp_walk_back K C XA))
    (hWeb_ties : GoodM P w K mg base C "ties" "Web.ties" sWeb_ties ["self"] 1 (spWeb_ties K C XA))
    (hWeb_ties_from : GoodMX P w K mg base C "ties_from" "Web.ties_from" sWeb_ties_from ["self", "place"] 5 (spWeb_ties_from K C XA)) :
    GoodX P w K mg base "way" sway ["web", "near", "far", "without"] 7 (spway K C XA) := by
  refine D.goodX fun f fd F => ?_
  obtain ⟨fneed_web, dneed_web, Oneed_web, mneed_web, kneed_web, bneed_web, Fneed_web⟩ := hneed_web
  obtain ⟨fneed_place, dneed_place, Oneed_place, mneed_place, kneed_place, bneed_place, Fneed_place⟩ := hneed_place
  obtain ⟨f_need_without, d_need_without, O_need_without, m_need_without, k_need_without, b_need_without, F_need_without⟩ := h_need_without
  obtain ⟨f_walk_back, d_walk_back, O_walk_back, m_walk_back, k_walk_back, b_walk_back, F_walk_back⟩ := h_walk_back
  obtain ⟨fWeb_ties, dWeb_ties, OWeb_ties, tWeb_ties, bWeb_ties, FWeb_ties⟩ := hWeb_ties
  obtain ⟨fWeb_ties_from, dWeb_ties_from, OWeb_ties_from, tWeb_ties_from, bWeb_ties_from, FWeb_ties_from⟩ := hWeb_ties_from
  refine F.okX scway (fun vs H Q E h => ?_) (fun cdv A outer s H vs Q E hr h => ?_)
  · obtain ⟨z, p, r, v, rfl, h⟩ := h
    first | rfl | (rcases h with ⟨_, _, rfl, _⟩ | ⟨_, rfl, _⟩ <;> rfl)
  obtain ⟨z, p, r, v, rfl, h⟩ := h
  refine ⟨_, (pss_cons (ps_expr (pe_callS Oneed_web (hr.mono (by decide)) rfl mneed_web kneed_web bneed_web (fun σ => passAt (takes_of rfl rfl rfl rfl) σ) (pa_cons (pv 0) pa_nil)))
  (pss_cons (ps_expr (pe_callS Oneed_place (hr.mono (by decide)) rfl mneed_place kneed_place bneed_place (fun σ => passAt (takes_of rfl rfl rfl rfl) σ) (pa_cons (pv 0) (pa_cons (pv 1) pa_nil))))
  (pss_cons (ps_expr (pe_callS Oneed_place (hr.mono (by decide)) rfl mneed_place kneed_place bneed_place (fun σ => passAt (takes_of rfl rfl rfl rfl) σ) (pa_cons (pv 0) (pa_cons (pv 2) pa_nil))))
  (pss_cons (ps_expr (pe_callS O_need_without (hr.mono (by decide)) rfl m_need_without k_need_without b_need_without (fun σ => passAt (takes_of rfl rfl rfl rfl) σ) (pa_cons (pv 0) (pa_cons (pv 3) pa_nil))))
  (pss_cons (ps_set (i := 4) scway.nd rfl (by first | exact Or.inl rfl | exact Or.inr rfl) (pe_meth0 (pv 0) WK.cl tWeb_ties OWeb_ties (hr.mono (by decide)) bWeb_ties .nil pass0))
  (pss_cons (ps_set (i := 5) scway.nd rfl (by first | exact Or.inl rfl | exact Or.inr rfl) pe_dnewK)
  (pss_cons (ps_set (i := 6) scway.nd rfl (by first | exact Or.inl rfl | exact Or.inr rfl) (pe_lst (pa_cons (pv 1) pa_nil)))
  (pss_cons (ps_set (i := 7) scway.nd rfl (by first | exact Or.inl rfl | exact Or.inr rfl) pe_int)
  (pss_cons (ps_while (passes_of rfl) (PW.pt (pw_and (pt_cmpR op_lt (pv 7) (pe_callB call_len_seq (by rfl) B.len (by decide +kernel) (pa_cons (pv 6) pa_nil)) (nomark _)) (pw_and1 (pt_cmp (pc_dnotin (hu_of hr) (pv 2) (pv 5))))))
    (pss_cons (ps_set (i := 8) scway.nd rfl (by first | exact Or.inl rfl | exact Or.inr rfl) (pe_ix ix_list (pv 6) (pv 7) (fun _ _ => rfl)))
  (pss_cons (ps_aug (i := 7) scway.nd rfl (by first | exact Or.inl rfl | exact Or.inr rfl) pe_int ip_add)
  (pss_one (ps_for (passes_of rfl) rfl (pi_list (pe_meth (pv 0) WK.cl tWeb_ties_from OWeb_ties_from (hr.mono (by decide)) bWeb_ties_from .nil (passes_call (takes_of rfl rfl rfl rfl) (fun _ _ _ _ h => h)) (pa_cons (pv 8) pa_nil))) (pg_name (i := 9) scway.nd rfl (by first | exact Or.inl rfl | exact Or.inr rfl))
    (pss_cons (ps_set (i := 10) scway.nd rfl (by first | exact Or.inl rfl | exact Or.inr rfl) (pe_ix ix_tup (pe_ix ix_list (pv 4) (pv 9) (fun _ _ => rfl)) pe_int (fun _ _ => rfl)))
  (pss_one (ps_if (PW.pt (pw_and (pt_cmpR op_notIn_seq (pv 9) (pv 3) (by rfl)) (pw_and1 (pt_cmp (pc_dnotin (hu_of hr) (pv 10) (pv 5))))))
    (pss_cons (ps_dput (hu_of hr) (pv 5) (pv 10) (pv 9) rfl)
  (pss_one (ps_expr (pe_bm PySem.F.plainAttrs_list PySem.F.slot_list_append PySem.F.type_list_append mt_append (pv 6) (pa_cons (pv 10) pa_nil))))) pss_nil))))))))
  (pss_one (ps_ret (pe_ifExp (pt_cmp (pc_din (hu_of hr) (pv 2) (pv 5))) (pe_call O_walk_back (hr.mono (by decide)) rfl m_walk_back k_walk_back b_walk_back .nil pass0 (pa_cons (pv 4) (pa_cons (pv 5) (pa_cons (pv 1) (pa_cons (pv 2) pa_nil))))) pe_non)))))))))))), ?_⟩
  rcases h with ⟨d, hd, q⟩ | ⟨a, N, ts, o, rfl, hw, hp, ⟨hn, q⟩ | ⟨o1, hy, hr1, ⟨hn, q⟩ | ⟨o2, hy1, hv, hn, q⟩⟩⟩
  · exact ⟨_, rfl, z, rfl, .inr ⟨d, hd, q⟩⟩
  · exact ⟨_, rfl, .ref a, rfl, .inl ⟨a, N, ts, rfl, hw, _, rfl, _, rfl, a, N, ts, p, o, rfl, hw, hp, (fun z => by rw [hn] at z; cases z), fun _ => q⟩⟩
  · exact ⟨_, rfl, .ref a, rfl, .inl ⟨a, N, ts, rfl, hw, _, rfl, _, rfl, a, N, ts, p, o, rfl, hw, hp, fun _ => ⟨_, rfl, _, rfl, a, N, ts, r, o1, rfl, hw, hr1, (fun z => by rw [hn] at z; cases z), fun _ => q⟩, (fun z => by rw [hy] at z; cases z)⟩⟩
  · exact ⟨_, rfl, .ref a, rfl, .inl ⟨a, N, ts, rfl, hw, _, rfl, _, rfl, a, N, ts, p, o, rfl, hw, hp, fun _ => ⟨_, rfl, _, rfl, a, N, ts, r, o1, rfl, hw, hr1, fun _ => ⟨_, rfl, _, rfl, a, N, ts, v, o2, rfl, hw, hv, hn, q⟩, (fun z => by rw [hy1] at z; cases z)⟩, (fun z => by rw [hy] at z; cases z)⟩⟩
end
end My
set_option maxHeartbeats 2000000
namespace My
open PySem L2 PyProof.Rows
def Closed (N : Nat) (ts : List (Nat × Nat)) : Prop := 0 < ts.length ∧ (partsL (Ed ts) N).length = 1
noncomputable def closedB (N : Nat) (ts : List (Nat × Nat)) : Bool := decide (0 < ts.length) && decide ((partsL (Ed ts) N).length = 1)
theorem layAll_dn : ∀ LL : List (List Nat), PyData.canLayAll0 (LL.map dn) = true
  | [] => rfl
  | L :: r => by
    show (PyData.canLay0 (dn L) && PyData.canLayAll0 (r.map dn)) = true
    rw [layAll_dn r, dn_dz]
    have h1 : PyData.canLay0 (dz (cn L)) = true := by
      show PyData.canLay0 (.list ((cn L).map PyData.int)) = true
      unfold PyData.canLay0
      exact layAll_iz _
    rw [h1]
    rfl
theorem depthAll_dn : ∀ LL : List (List Nat), PyData.depthAll (LL.map dn) ≤ 1
  | [] => by
    show PyData.depthAll [] ≤ 1
    decide
  | L :: r => by
    show max (PyData.depth (dn L)) (PyData.depthAll (r.map dn)) ≤ 1
    have h1 := depthAll_dn r
    have h2 : PyData.depth (dn L) = 1 := by
      rw [dn_dz]
      show PyData.depth (.list ((cn L).map PyData.int)) = 1
      unfold PyData.depth
      rw [depthAll_iz]
    omega
theorem shaped_lol (LL : List (List Nat)) : SeqAt.shaped (.list (LL.map dn)) = true := by
  unfold SeqAt.shaped
  have h1 : PyData.canLay0 (.list (LL.map dn)) = true := by
    unfold PyData.canLay0
    exact layAll_dn LL
  have h2 : PyData.depth (.list (LL.map dn)) ≤ 64 := by
    unfold PyData.depth
    have := depthAll_dn LL
    omega
  rw [h1, decide_eq_true h2]
  rfl
theorem shaped_dn (L : List Nat) : SeqAt.shaped (dn L) = true := by rw [dn_dz]; exact shaped_iz _
theorem dp_lol {K : PySem.W.Frag} {H : Hp} {l : Addr} {LL : List (List Nat)} (h : LolAt H l LL) : Dp K H (.ref l) (.list (LL.map dn)) := by
  obtain ⟨as, h1, h2⟩ := h
  exact .lst (SqL.of h1) (dpAll_lol h2)
theorem dp_dn {K : PySem.W.Frag} {H : Hp} {l : Addr} {L : List Nat} (h : H l = some (.lst (iv L))) : Dp K H (.ref l) (dn L) := by rw [dn_dz]; exact dp_iv h
theorem eqv_dn (L : List Nat) : PyData.eqv (dn L) (dn L) = true := SeqAt.eqv_refl _ (SeqAt.canLay_of_shaped (shaped_dn L))
theorem eqv_tzs (ts : List (Nat × Nat)) : PyData.eqv (tz ts) (tz ts) = true := SeqAt.eqv_refl _ (SeqAt.canLay_of_shaped (shaped_tz ts))
theorem eqvAll_dn : ∀ L M : List Nat, PyData.eqvAll (L.map fun n : Nat => PyData.int (n : Int)) (M.map fun n : Nat => PyData.int (n : Int)) = decide (L = M)
  | [], [] => rfl
  | [], _ :: _ => rfl
  | _ :: _, [] => rfl
  | a :: L, b :: M => by
    show (((a : Int) == (b : Int)) && PyData.eqvAll (L.map fun n : Nat => PyData.int (n : Int)) (M.map fun n : Nat => PyData.int (n : Int))) = _
    rw [eqvAll_dn L M]
    by_cases h : a = b
    · subst h
      by_cases k : L = M
      · subst k; simp
      · simp [k]
    · have h2 : ¬ (a : Int) = (b : Int) := by omega
      simp [h, h2]
theorem eqv_dns (L M : List Nat) : PyData.eqv (dn L) (dn M) = decide (L = M) := eqvAll_dn L M
theorem any_dns (LL : List (List Nat)) (L : List Nat) : ((LL.map dn).any fun z => PyData.eqv z (dn L)) = decide (L ∈ LL) := by
  rw [Bool.eq_iff_iff, List.any_eq_true, decide_eq_true_iff]
  constructor
  · rintro ⟨d, hd, e⟩
    obtain ⟨M, hM, rfl⟩ := List.mem_map.mp hd
    rw [eqv_dns] at e
    rw [← of_decide_eq_true e]
    exact hM
  · intro h
    exact ⟨dn L, List.mem_map.mpr ⟨L, h, rfl⟩, eqv_dn L⟩
theorem headsN_mem {E : Nat → Nat → Prop} {N i p : Nat} (hi : i ≤ N) : p ∈ headsN E i ↔ p < i ∧ p ∈ headsL E N := by
  unfold headsN
  rw [List.mem_filter, List.mem_range, bdec_iff, headsL_mem]
  exact ⟨fun z => ⟨z.1, by omega, z.2⟩, fun z => ⟨z.1, z.2.2⟩⟩
theorem cls_seen {E : Nat → Nat → Prop} {N i : Nat} (hi : i < N) : clsL E N i ∈ (headsN E i).map (clsL E N) ↔ i ∉ headsL E N := by
  constructor
  · intro h hh
    obtain ⟨j, hj, e⟩ := List.mem_map.mp h
    have hj2 := (headsN_mem (Nat.le_of_lt hi)).mp hj
    have hm : i ∈ clsL E N j := by rw [e]; exact clsL_mem.mpr ⟨hi, mut_refl i⟩
    have := head_unique hj2.2 hh (clsL_mem.mp hm).2
    omega
  · intro h
    obtain ⟨m, hm, r⟩ := head_of (E := E) hi
    have hm2 := headsL_mem.mp hm
    have hmi : m < i := by
      rcases Nat.lt_trichotomy m i with c | c | c
      · exact c
      · rw [c] at hm; exact absurd hm h
      · exact absurd r.symm (hm2.2 i c)
    exact List.mem_map.mpr ⟨m, (headsN_mem (Nat.le_of_lt hi)).mpr ⟨hmi, hm⟩, (clsL_same r).symm⟩
def cntD (d : PyData) : Bool := (numD d).any fun i => decide (0 ≤ i)
theorem cnt_nums : ∀ {l : List PyData}, l.all cntD = true → ∃ R : List Nat, l = R.map fun n : Nat => PyData.int (n : Int)
  | [], _ => ⟨[], rfl⟩
  | d :: r, h => by
    rw [List.all_cons, Bool.and_eq_true] at h
    obtain ⟨R, rfl⟩ := cnt_nums h.2
    cases d with
    | int i =>
      have h1 : decide (0 ≤ i) = true := h.1
      rw [decide_eq_true_iff] at h1
      exact ⟨i.toNat :: R, by rw [List.map_cons, Int.toNat_of_nonneg h1]⟩
    | _ => exact absurd h.1 (by unfold cntD numD; simp)
theorem vds_iv {H : Hp} : ∀ {xs : List V} {R : List Nat}, VdAll H xs (R.map fun n : Nat => PyData.int (n : Int)) → xs = iv R
  | [], [], _ => rfl
  | [], _ :: _, h => by cases h
  | _ :: _, [], h => by cases h
  | x :: xs, n :: R, .cons h k => by
    cases h
    rw [vds_iv k]
    rfl
section
variable {P : Program} {w : World} {K : PySem.W.Frag} {mg : Str → Option Value} {base : Heap} {C CPE cM : Addr} {XA : Str → Addr} {TL : List (Addr × Str)}
def sp_need_part (_ : PySem.W.Frag) (C : Addr) (XA : Str → Addr) : Sp := fun vs H Q E => ∃ a N ts v d, vs = [.ref a, v] ∧ WebAt C a N ts H ∧ OkWeb N ts ∧ Vd H v d ∧ (∀ l, lsD d = some l → l.length ≤ 1000) ∧ (∀ R : List Nat, lsD d = some (R.map fun n : Nat => PyData.int (n : Int)) → R ∉ partsL (Ed ts) N) ∧ Rz E (XA "InvalidPart") v H
theorem ok_need_part (D : Def K mg "_need_part" s_need_part ["web", "part"]) (B : Bs mg) (Glb : Glo mg) (WK : WebK K mg C) (EXInvalidWeb : ExcF P w K mg base "value" "InvalidWeb" (XA "InvalidWeb")) (EXInvalidPlaces : ExcF P w K mg base "value" "InvalidPlaces" (XA "InvalidPlaces")) (EXInvalidTies : ExcF P w K mg base "value" "InvalidTies" (XA "InvalidTies")) (EXInvalidPlace : ExcF P w K mg base "value" "InvalidPlace" (XA "InvalidPlace")) (EXInvalidWalk : ExcF P w K mg base "value" "InvalidWalk" (XA "InvalidWalk")) (EXInvalidRound : ExcF P w K mg base "value" "InvalidRound" (XA "InvalidRound")) (EXInvalidWithout : ExcF P w K mg base "value" "InvalidWithout" (XA "InvalidWithout")) (EXInvalidPart : ExcF P w K mg base "value" "InvalidPart" (XA "InvalidPart")) (PErr : mg "PieceError" = some (.ref CPE)) (EXM : ExM K XA CPE)
    (his_listed : Good P w K mg base "is_listed" sis_listed ["value"] 1 (spis_listed K C XA))
    (hparts_of : GoodX P w K mg base "parts_of" sparts_of ["web"] 4 (spparts_of K C XA))
    (his_count : Good P w K mg base "is_count" sis_count ["value"] 2 (spis_count K C XA)) :
    GoodX P w K mg base "_need_part" s_need_part ["web", "part"] 5 (sp_need_part K C XA) := by
  refine D.goodX fun f fd F => ?_
  obtain ⟨fis_listed, dis_listed, Ois_listed, mis_listed, kis_listed, bis_listed, Fis_listed⟩ := his_listed
  obtain ⟨fparts_of, dparts_of, Oparts_of, mparts_of, kparts_of, bparts_of, Fparts_of⟩ := hparts_of
  obtain ⟨fis_count, dis_count, Ois_count, mis_count, kis_count, bis_count, Fis_count⟩ := his_count
  refine F.okX sc_need_part (fun vs H Q E h => ?_) (fun cdv A outer s H vs Q E hr h => ?_)
  · obtain ⟨a, N, ts, v, d, rfl, hw, ho, hv, hm, hn, q⟩ := h
    first | rfl | (rcases h with ⟨_, _, rfl, _⟩ | ⟨_, rfl, _⟩ <;> rfl)
  obtain ⟨a, N, ts, v, d, rfl, hw, ho, hv, hm, hn, q⟩ := h
  refine ⟨_, (pss_one (ps_if (PW.pt (pw_or (pt_not (pt_val (pe_call Ois_listed (hr.mono (by decide)) rfl mis_listed kis_listed bis_listed .nil pass0 (pa_cons (pv 1) pa_nil)))) (pw_or (pt_not (pt_val (pe_callB (cr_all rfl) (by rfl) B.all (by decide +kernel) (pa_cons (pe_lc (own := [("place", 2)]) (g := gName 2) (by rfl) sc_need_part.nd (pi_or (pi_list (pv 1)) (pi_tup (pv 1))) (blkOk_by (own := [("place", 2)]) (N := ["web", "part", "place"]) (sc := defScope s_need_part) (by decide +kernel)) (fun _ _ _ _ _ => (pg_name (i := 2) sc_need_part.nd rfl (by first | exact Or.inl rfl | exact Or.inr rfl))) (fun _ _ _ _ _ => pts_nil) (fun _ _ _ _ _ => (pe_call Ois_count (hr.mono (by decide)) rfl mis_count kis_count bis_count .nil pass0 (pa_cons (pv 2) pa_nil)))) pa_nil)))) (pw_or1 (pt_cmpR (op_notInD (u65 hr)) (pe_callTy call_list_of (by rfl) B.list (by decide +kernel) (pa_cons (pv 1) pa_nil)) (pe_callS Oparts_of hr rfl mparts_of kparts_of bparts_of (fun σ => passAt (takes_of rfl rfl rfl rfl) σ) (pa_cons (pv 0) pa_nil)) (by rfl))))))
    (pss_one (ps_raise rfl (takes_of rfl rfl rfl rfl) (pmk_fld EXInvalidPart (hr.mono (by decide)) (by rfl) (pa_cons (pv 1) pa_nil)))) pss_nil)), ?_⟩
  refine ⟨_, rfl, v, valD d, rfl, hv.val, fun H1 hS1 => ⟨_, rfl, ?_⟩⟩
  cases e : lsD d with
  | none =>
    have hz : valD d = none := by unfold valD; rw [e]; rfl
    rw [hz]
    exact iteT ⟨_, rfl, q.go hS1⟩
  | some l =>
    have hz : valD d = some (l.map numD) := by unfold valD; rw [e]; rfl
    have hm1 := hm l e
    rw [hz]
    obtain ⟨t, xs, rfl, hx, hk⟩ := (hv.same hS1).listed e
    have hl := hk.len
    refine iteF ?_
    rcases hx with hx | hx
    case' inl => refine .inl ⟨_, rfl, t, rfl, ⟨_, SqL.of hx⟩, fun D nD => ?_⟩
    case' inr => refine .inr ⟨_, rfl, t, rfl, ⟨_, SqT.of hx⟩, fun D nD => ?_⟩
    case' inl => refine lc_list (K := K) (a := t) (xs := xs) (fun j H' => Same H1 H' ∧ H' D = some (.lst (((l.take j).map cntD).map V.bl))) ⟨same_new nD _, upd_same⟩ (fun j H' _ ⟨hS', _⟩ => SqL.of (hS' _ _ hx)) ?s1 ?e1
    case' inr => refine lc_tup (K := K) (a := t) (xs := xs) (fun j H' => Same H1 H' ∧ H' D = some (.lst (((l.take j).map cntD).map V.bl))) ⟨same_new nD _, upd_same⟩ (fun j H' _ ⟨hS', _⟩ => SqT.of (hS' _ _ hx)) ?s2 ?e2
    case s1 | s2 =>
      rintro j y H2 hy ⟨hS2, hD2⟩
      obtain ⟨f, hf, hvf⟩ := hk.at hy
      have hj := (List.getElem?_eq_some_iff.mp hf).1
      refine ⟨rfl, _, rfl, y, _, rfl, (hvf.same hS2).num, _, hD2, ?_, same_upd hS2 nD, ?_⟩
      · rw [List.length_map, List.length_map, List.length_take]
        exact Nat.lt_of_lt_of_le (by omega : min j l.length < 2000) (by decide)
      · rw [upd_same, List.take_add_one, hf, List.map_append, List.map_append]
        rfl
    case' e1 =>
      rintro H2 ⟨hS2, hD2⟩
      have hsq : SqL K H2 t xs ∨ SqT K H2 t xs := .inl (SqL.of (hS2 _ _ hx))
    case' e2 =>
      rintro H2 ⟨hS2, hD2⟩
      have hsq : SqL K H2 t xs ∨ SqT K H2 t xs := .inr (SqT.of (hS2 _ _ hx))
    all_goals
      rw [hl, List.take_length] at hD2
      refine ⟨D, _, rfl, SqL.of hD2, _, rfl, ?_⟩
      have eall : ((l.map cntD).all id) = l.all cntD := by rw [List.all_map]; rfl
      rw [eall]
      have hS02 := hS1.trans hS2
      cases c : l.all cntD with
      | false => exact iteT ⟨_, rfl, q.go hS02⟩
      | true =>
        refine iteF ?_
        obtain ⟨R, rfl⟩ := cnt_nums c
        have exs := vds_iv hk
        subst exs
        refine ⟨_, rfl, t, _, rfl, hsq, fun p np => ⟨_, rfl, .ref a, rfl, .inr ⟨a, N, ts, rfl, (hw.same hS02).same (same_new np _), ho, fun H3 pl npl hS3 hL3 _ => ⟨dn R, (partsL (Ed ts) N).map dn, dp_dn (hS3 _ _ upd_same), dp_lol hL3, shaped_dn R, shaped_lol _, _, rfl, ?_⟩⟩⟩⟩
        rw [any_dns, decide_eq_false (hn R e)]
        exact iteT ⟨_, rfl, q.go fun b o z => hS3 _ _ (same_new np _ _ _ (hS02 _ _ z))⟩
def sppart_web (_ : PySem.W.Frag) (C : Addr) (XA : Str → Addr) : Sp := fun vs H Q E => ∃ z v, vs = [z, v] ∧ ((∃ d, Vd H z d ∧ Rz E (XA "InvalidWeb") z H) ∨ ∃ a N ts d, z = .ref a ∧ WebAt C a N ts H ∧ OkWeb N ts ∧ Vd H v d ∧ (∀ l, lsD d = some l → l.length ≤ 1000) ∧ (∀ R : List Nat, lsD d = some (R.map fun n : Nat => PyData.int (n : Int)) → R ∉ partsL (Ed ts) N) ∧ Rz E (XA "InvalidPart") v H)
theorem okpart_web (D : Def K mg "part_web" spart_web ["web", "part"]) (B : Bs mg) (Glb : Glo mg) (WK : WebK K mg C) (EXInvalidWeb : ExcF P w K mg base "value" "InvalidWeb" (XA "InvalidWeb")) (EXInvalidPlaces : ExcF P w K mg base "value" "InvalidPlaces" (XA "InvalidPlaces")) (EXInvalidTies : ExcF P w K mg base "value" "InvalidTies" (XA "InvalidTies")) (EXInvalidPlace : ExcF P w K mg base "value" "InvalidPlace" (XA "InvalidPlace")) (EXInvalidWalk : ExcF P w K mg base "value" "InvalidWalk" (XA "InvalidWalk")) (EXInvalidRound : ExcF P w K mg base "value" "InvalidRound" (XA "InvalidRound")) (EXInvalidWithout : ExcF P w K mg base "value" "InvalidWithout" (XA "InvalidWithout")) (EXInvalidPart : ExcF P w K mg base "value" "InvalidPart" (XA "InvalidPart")) (PErr : mg "PieceError" = some (.ref CPE)) (EXM : ExM K XA CPE)
    (hneed_web : GoodX P w K mg base "need_web" sneed_web ["web"] 3 (spneed_web K C XA))
    (h_need_part : GoodX P w K mg base "_need_part" s_need_part ["web", "part"] 5 (sp_need_part K C XA))
    (hWeb_ties : GoodM P w K mg base C "ties" "Web.ties" sWeb_ties ["self"] 1 (spWeb_ties K C XA))
    (hWeb___init__ : GoodJX P w K mg base C "__init__" "Web.__init__" sWeb___init__ ["self", "places", "ties"] 5 (spWeb___init__ K C XA)) :
    GoodX P w K mg base "part_web" spart_web ["web", "part"] 7 (sppart_web K C XA) := by
  refine D.goodX fun f fd F => ?_
  obtain ⟨fneed_web, dneed_web, Oneed_web, mneed_web, kneed_web, bneed_web, Fneed_web⟩ := hneed_web
  obtain ⟨f_need_part, d_need_part, O_need_part, m_need_part, k_need_part, b_need_part, F_need_part⟩ := h_need_part
  obtain ⟨fWeb_ties, dWeb_ties, OWeb_ties, tWeb_ties, bWeb_ties, FWeb_ties⟩ := hWeb_ties
  obtain ⟨fWeb___init__, dWeb___init__, OWeb___init__, MK, bWeb___init__, FWeb___init__⟩ := hWeb___init__
  refine F.okX scpart_web (fun vs H Q E h => ?_) (fun cdv A outer s H vs Q E hr h => ?_)
  · obtain ⟨z, v, rfl, h⟩ := h
    first | rfl | (rcases h with ⟨_, _, rfl, _⟩ | ⟨_, rfl, _⟩ <;> rfl)
  obtain ⟨z, v, rfl, h⟩ := h
  refine ⟨_, (pss_cons (ps_expr (pe_callS Oneed_web (hr.mono (by decide)) rfl mneed_web kneed_web bneed_web (fun σ => passAt (takes_of rfl rfl rfl rfl) σ) (pa_cons (pv 0) pa_nil)))
  (pss_cons (ps_expr (pe_callS O_need_part (hr.mono (by decide)) rfl m_need_part k_need_part b_need_part (fun σ => passAt (takes_of rfl rfl rfl rfl) σ) (pa_cons (pv 0) (pa_cons (pv 1) pa_nil))))
  (pss_cons (ps_set (i := 2) scpart_web.nd rfl (by first | exact Or.inl rfl | exact Or.inr rfl) (pe_dc (own := [("at", 3), ("place", 4)]) (g := gTup K 2 (gCons (gName 3) (gCons (gName 4) gNil))) (by rfl) scpart_web.nd (pi_or (pi_enum (by rfl) B.enumerate (pa_cons (pv 1) pa_nil)) (pi_enumT (by rfl) B.enumerate (pa_cons (pv 1) pa_nil))) (blkOk_by (own := [("at", 3), ("place", 4)]) (N := ["web", "part", "anew", "at", "place", "ties", "within", "tie", "near", "far"]) (sc := defScope spart_web) (by decide +kernel)) (fun _ _ _ _ _ => (pg_tup rfl (pgs_cons (pg_name (i := 3) scpart_web.nd rfl (by first | exact Or.inl rfl | exact Or.inr rfl)) (pgs_cons (pg_name (i := 4) scpart_web.nd rfl (by first | exact Or.inl rfl | exact Or.inr rfl)) pgs_nil)))) (fun _ _ _ _ _ => pts_nil) (fun _ _ _ _ _ => (pv 4)) (fun _ _ _ _ _ => (pv 3))))
  (pss_cons (ps_set (i := 5) scpart_web.nd rfl (by first | exact Or.inl rfl | exact Or.inr rfl) (pe_meth0 (pv 0) WK.cl tWeb_ties OWeb_ties (hr.mono (by decide)) bWeb_ties .nil pass0))
  (pss_cons (ps_setLc (i := 6) (own := [("tie", 7), ("near", 8), ("far", 9)]) (g := gTup K 2 (gCons (gName 7) (gCons (gTup K 2 (gCons (gName 8) (gCons (gName 9) gNil))) gNil))) (by rfl) scpart_web.nd rfl rfl (sw_true rfl rfl rfl (by decide +kernel)) (pi_enum (by rfl) B.enumerate (pa_cons (pv 5) pa_nil)) (blkOk_by (own := [("tie", 7), ("near", 8), ("far", 9)]) (N := ["web", "part", "anew", "at", "place", "ties", "within", "tie", "near", "far"]) (sc := defScope spart_web) (by decide +kernel)) (fun _ _ _ _ _ => (pg_tup rfl (pgs_cons (pg_name (i := 7) scpart_web.nd rfl (by first | exact Or.inl rfl | exact Or.inr rfl)) (pgs_cons (pg_tup rfl (pgs_cons (pg_name (i := 8) scpart_web.nd rfl (by first | exact Or.inl rfl | exact Or.inr rfl)) (pgs_cons (pg_name (i := 9) scpart_web.nd rfl (by first | exact Or.inl rfl | exact Or.inr rfl)) pgs_nil))) pgs_nil)))) (fun _ _ _ _ _ => (pts_one (PW.pt (pw_and (pt_cmp (pc_din (hu_of hr) (pv 8) (pv 2))) (pw_and1 (pt_cmp (pc_din (hu_of hr) (pv 9) (pv 2)))))))) (fun _ _ _ _ _ => (pv 7)))
  (pss_one (ps_ret (pe_tup (pa_cons (pe_make MK OWeb___init__ (hr.mono (by decide)) rfl WK.mgC bWeb___init__ .nil (passes_call (takes_of rfl rfl rfl rfl) (fun _ _ _ _ h => h)) (pa_cons (pe_callB call_len_seq (by rfl) B.len (by decide +kernel) (pa_cons (pv 1) pa_nil)) (pa_cons (pe_lc (own := [("tie", 7)]) (g := gName 7) (by rfl) scpart_web.nd (pi_list (pv 6)) (blkOk_by (own := [("tie", 7)]) (N := ["web", "part", "anew", "at", "place", "ties", "within", "tie", "near", "far"]) (sc := defScope spart_web) (by decide +kernel)) (fun _ _ _ _ _ => (pg_name (i := 7) scpart_web.nd rfl (by first | exact Or.inl rfl | exact Or.inr rfl))) (fun _ _ _ _ _ => pts_nil) (fun _ _ _ _ _ => (pe_tup (pa_cons (pe_dget (hu_of hr) (pv 2) (pe_ix (ix_tupK (K := K) rfl) (pe_ix (ix_listK (K := K) rfl) (pv 5) (pv 7) (by exact fun _ _ => rfl)) pe_int (by exact fun _ _ => rfl)) (by exact fun _ _ => rfl)) (pa_cons (pe_dget (hu_of hr) (pv 2) (pe_ix (ix_tupK (K := K) rfl) (pe_ix (ix_listK (K := K) rfl) (pv 5) (pv 7) (by exact fun _ _ => rfl)) pe_int (by exact fun _ _ => rfl)) (by exact fun _ _ => rfl)) pa_nil))))) pa_nil))) (pa_cons (pv 6) pa_nil)))))))))), ?_⟩
  rcases h with ⟨d, hd, q⟩ | ⟨a, N, ts, d, rfl, hw, ho, hv, hm, hn, q⟩
  · exact ⟨_, rfl, z, rfl, .inr ⟨d, hd, q⟩⟩
  · exact ⟨_, rfl, .ref a, rfl, .inl ⟨a, N, ts, rfl, hw, _, rfl, _, rfl, a, N, ts, v, d, rfl, hw, ho, hv, hm, hn, q⟩⟩
end
end My
namespace My
open PySem L2 PyProof.Rows
section
variable {P : Program} {w : World} {K : PySem.W.Frag} {mg : Str → Option Value} {base : Heap} {C CPE cM : Addr} {XA : Str → Addr} {TL : List (Addr × Str)}
def sp_law_pot (K : PySem.W.Frag) (_ : Addr) (_ : Str → Addr) : Sp := fun vs H Q _ => ∃ a, ∃ ns : List Int, vs = [.ref a, .int 0] ∧ SqL K H a (ns.map V.int) ∧ ∀ p H', PotAt H' p → Same H H' → H p = none → Q (.ref p) H'
theorem ok_law_pot (D : Def K mg "_law_pot" s_law_pot ["_law_script", "_law_k"]) (B : Bs mg) (Glb : Glo mg) (WK : WebK K mg C) (EXInvalidWeb : ExcF P w K mg base "value" "InvalidWeb" (XA "InvalidWeb")) (EXInvalidPlaces : ExcF P w K mg base "value" "InvalidPlaces" (XA "InvalidPlaces")) (EXInvalidTies : ExcF P w K mg base "value" "InvalidTies" (XA "InvalidTies")) (EXInvalidPlace : ExcF P w K mg base "value" "InvalidPlace" (XA "InvalidPlace")) (EXInvalidWalk : ExcF P w K mg base "value" "InvalidWalk" (XA "InvalidWalk")) (EXInvalidRound : ExcF P w K mg base "value" "InvalidRound" (XA "InvalidRound")) (EXInvalidWithout : ExcF P w K mg base "value" "InvalidWithout" (XA "InvalidWithout")) (EXInvalidPart : ExcF P w K mg base "value" "InvalidPart" (XA "InvalidPart")) (PErr : mg "PieceError" = some (.ref CPE)) (EXM : ExM K XA CPE) :
    Good P w K mg base "_law_pot" s_law_pot ["_law_script", "_law_k"] 1 (sp_law_pot K C XA) := by
  refine D.good fun f fd F => ?_
  refine F.ok sc_law_pot (fun vs H Q E h => ?_) (fun cdv A outer s H vs Q E hr h => ?_)
  · obtain ⟨a, ns, rfl, hS, q⟩ := h
    first | rfl | (rcases h with ⟨_, _, rfl, _⟩ | ⟨_, rfl, _⟩ <;> rfl)
  obtain ⟨a, ns, rfl, hS, q⟩ := h
  refine ⟨_, (pss_cons (ps_set (i := 2) sc_law_pot.nd rfl (by first | exact Or.inl rfl | exact Or.inr rfl) (pe_ifExp (pt_cmpR op_lt (pv 1) (pe_callB call_len_seq (by rfl) B.len (by decide +kernel) (pa_cons (pv 0) pa_nil)) (nomark _)) (pe_callB call_abs (by rfl) B.abs (by decide +kernel) (pa_cons (pe_ix ix_list (pv 0) (pv 1) (fun _ _ => rfl)) pa_nil)) (pe_op op_add (pe_op op_mul pe_int (pv 1)) pe_int)))
  (pss_cons (ps_set (i := 3) sc_law_pot.nd rfl (by first | exact Or.inl rfl | exact Or.inr rfl) (pe_op op_add (pe_op op_mod (pe_callTy call_int1 (by rfl) B.int (by decide +kernel) (pa_cons (pe_op op_add (pe_op op_add (pe_op op_mul (pe_op op_mod (pe_callTy call_int1 (by rfl) B.int (by decide +kernel) (pa_cons (pv 2) pa_nil)) pe_int) pe_int) (pe_op op_mul pe_int (pv 1))) pe_int) pa_nil)) pe_int) pe_int))
  (pss_one (ps_ret (pe_lst (pa_cons (pe_callB (call_max2 rfl) (by rfl) B.max (by decide +kernel) (pa_cons pe_int (pa_cons (pe_op op_sub (pv 2) (pe_op op_pow pe_int pe_int)) pa_nil))) (pa_cons (pv 3) pa_nil))))))), ?_⟩
  refine ⟨_, rfl, _, rfl, _, _, rfl, .inl hS, _, _, rfl, rfl, _, rfl, ?_⟩
  refine ite2 (fun c1 => ?pos) (fun c1 => ?neg)
  case' pos =>
    obtain ⟨n, rest, rfl⟩ : ∃ n rest, ns = n :: rest := by
      cases ns with
      | nil => exact absurd (of_decide_eq_true c1) (by decide)
      | cons n rest => exact ⟨n, rest, rfl⟩
    refine ⟨_, rfl, _, rfl, _, _, _, .int n, rfl, rfl, hS, atI_nat (j := 0) rfl, _, rfl, ?_⟩
    have hz0 : (0 : Int) ≤ (if n < 0 then -n else n) := by split <;> omega
  case' neg =>
    refine ⟨_, rfl, _, _, rfl, rfl, .inl ⟨by decide, by decide⟩, _, _, rfl, rfl, ?_⟩
    have hz0 : (0 : Int) ≤ (937 * 0 + 593) := by decide
  all_goals
    refine ⟨_, rfl, .inl ⟨_, rfl, _, _, rfl, rfl, (by show (0 : Int) < 2147483549; decide), _, _, rfl, rfl, .inl ⟨?_, ?_⟩, _, rfl, _, _, rfl, rfl, .inl ⟨by decide, by decide⟩, _, _, rfl, rfl, _, _, rfl, rfl, .inl ⟨_, rfl, _, _, rfl, rfl, (by show (0 : Int) < 2147483563; decide), _, _, rfl, rfl, ?_⟩⟩⟩
    · omega
    · omega
    refine ⟨_, rfl, _, _, rfl, rfl, ⟨by decide, by decide, by decide⟩, _, _, rfl, rfl, _, _, rfl, _, rfl, (by show 2 ≤ sizeLine; decide), fun p np => q p _ ⟨_, _, upd_same, ?_, ?_, ?_⟩ (same_new np _) np⟩
    · split <;> omega
    · omega
    · omega
def sp_law_draw (_ : PySem.W.Frag) (_ : Addr) (_ : Str → Addr) : Sp := fun vs H Q _ => ∃ a n, vs = [.ref a, .int ((n : Nat) : Int)] ∧ PotAt H a ∧ 0 < n ∧ n ≤ 1000 ∧ ∀ (d : Nat) H', d < n → Kept a H H' → PotAt H' a → Q (.int (d : Int)) H'
theorem ok_law_draw (D : Def K mg "_law_draw" s_law_draw ["_law_pot_here", "_law_many"]) (B : Bs mg) (Glb : Glo mg) (WK : WebK K mg C) (EXInvalidWeb : ExcF P w K mg base "value" "InvalidWeb" (XA "InvalidWeb")) (EXInvalidPlaces : ExcF P w K mg base "value" "InvalidPlaces" (XA "InvalidPlaces")) (EXInvalidTies : ExcF P w K mg base "value" "InvalidTies" (XA "InvalidTies")) (EXInvalidPlace : ExcF P w K mg base "value" "InvalidPlace" (XA "InvalidPlace")) (EXInvalidWalk : ExcF P w K mg base "value" "InvalidWalk" (XA "InvalidWalk")) (EXInvalidRound : ExcF P w K mg base "value" "InvalidRound" (XA "InvalidRound")) (EXInvalidWithout : ExcF P w K mg base "value" "InvalidWithout" (XA "InvalidWithout")) (EXInvalidPart : ExcF P w K mg base "value" "InvalidPart" (XA "InvalidPart")) (PErr : mg "PieceError" = some (.ref CPE)) (EXM : ExM K XA CPE) :
    Good P w K mg base "_law_draw" s_law_draw ["_law_pot_here", "_law_many"] 1 (sp_law_draw K C XA) := by
  refine D.good fun f fd F => ?_
  refine F.ok sc_law_draw (fun vs H Q E h => ?_) (fun cdv A outer s H vs Q E hr h => ?_)
  · obtain ⟨a, n, rfl, ⟨x, y, ha, hx, hy, hy2⟩, hn, hn2, q⟩ := h
    first | rfl | (rcases h with ⟨_, _, rfl, _⟩ | ⟨_, rfl, _⟩ <;> rfl)
  obtain ⟨a, n, rfl, ⟨x, y, ha, hx, hy, hy2⟩, hn, hn2, q⟩ := h
  refine ⟨_, (pss_cons (ps_if (pt_cmpR op_gt (pe_ix ix_list (pv 0) pe_int (fun _ _ => rfl)) pe_int (nomark _))
    (pss_cons (ps_asg (pe_callB call_divmod (by rfl) B.divmod (by decide +kernel) (pa_cons (pe_ix ix_list (pv 0) pe_int (fun _ _ => rfl)) (pa_cons (pv 1) pa_nil))) (pg_tup rfl (pgs_cons (pg_sub (pv 0) pe_int set_list) (pgs_cons (pg_name (i := 2) sc_law_draw.nd rfl (by first | exact Or.inl rfl | exact Or.inr rfl)) pgs_nil))))
  (pss_one (ps_ret (pv 2)))) pss_nil)
  (pss_cons (ps_asg (pe_op op_mod (pe_callTy call_int1 (by rfl) B.int (by decide +kernel) (pa_cons (pe_op op_mul (pe_ix ix_list (pv 0) pe_int (fun _ _ => rfl)) pe_int) pa_nil)) pe_int) (pg_sub (pv 0) pe_int set_list))
  (pss_one (ps_ret (pe_op op_mod (pe_callTy call_int1 (by rfl) B.int (by decide +kernel) (pa_cons (pe_op op_fdiv (pe_ix ix_list (pv 0) pe_int (fun _ _ => rfl)) pe_int) pa_nil)) (pv 1)))))), ?_⟩
  refine ⟨_, rfl, _, _, _, .int x, rfl, rfl, SqL.of ha, rfl, _, _, rfl, rfl, _, rfl, ?_⟩
  refine ite2 (fun c1 => ?_) (fun c1 => ?_)
  · have hpos : (0 : Int) < x := of_decide_eq_true c1
    refine ⟨_, rfl, _, _, _, .int x, rfl, rfl, SqL.of ha, rfl, _, rfl, _, _, rfl, ⟨by omega, by omega⟩, fun p np => ?_⟩
    have hpa : a ≠ p := ne_of_none ha np
    have ha' : (upd H p (.tup [.int (x / (n : Int)), .int (x % (n : Int))])) a = some (.lst [.int x, .int y]) := by
      rw [upd_ne hpa]
      exact ha
    have ed : (((x % (n : Int)).toNat : Nat) : Int) = x % (n : Int) := Int.toNat_of_nonneg (Int.emod_nonneg _ (by omega))
    have el := Int.emod_lt_of_pos x (show (0 : Int) < (n : Int) by omega)
    refine ⟨_, _, rfl, SqT.of upd_same, rfl, _, _, rfl, _, rfl, _, _, _, 0, rfl, rfl, ha', rfl, _, _, rfl, rfl, ?_⟩
    refine ⟨_, rfl, ?_⟩
    have := q (x % (n : Int)).toNat (upd (upd H p (.tup [.int (x / (n : Int)), .int (x % (n : Int))])) a (.lst [.int (x / (n : Int)), .int y])) (by omega) (fun b o e nb => by rw [upd_ne nb, upd_ne (ne_of_none e np)]; exact e)
      ⟨_, _, upd_same, Int.ediv_nonneg hx (by omega), hy, hy2⟩
    rw [ed] at this
    exact this
  · refine ⟨_, rfl, _, _, _, .int y, rfl, rfl, SqL.of ha, rfl, _, _, rfl, rfl, .inl ⟨by omega, by omega⟩, .inl ⟨_, rfl, _, _, rfl, rfl, (by show (0 : Int) < 2147483647; decide), _, rfl, _, _, _, 1, rfl, rfl, ha, rfl, ?_⟩⟩
    have hz0 : (0 : Int) ≤ (y * 16807) % 2147483647 := by omega
    have hz1 : (y * 16807) % 2147483647 < (2147483647 : Int) := by omega
    have fin : ∀ z : Int, 0 ≤ z → z < 2147483647 → Q (V.int (z / 13 % (n : Int))) (upd H a (.lst [.int x, .int z])) := fun z hz0 hz1 => by
      have ed : (((z / 13 % (n : Int)).toNat : Nat) : Int) = z / 13 % (n : Int) := Int.toNat_of_nonneg (Int.emod_nonneg _ (by omega))
      have el := Int.emod_lt_of_pos (z / 13) (show (0 : Int) < (n : Int) by omega)
      have := q (z / 13 % (n : Int)).toNat (upd H a (.lst [.int x, .int z])) (by omega) (fun b o e nb => by rw [upd_ne nb]; exact e) ⟨_, _, upd_same, hx, hz0, by omega⟩
      rw [ed] at this
      exact this
    refine ⟨_, rfl, _, _, _, .int ((y * 16807) % 2147483647), rfl, rfl, SqL.of upd_same, rfl, _, _, rfl, rfl, ⟨by decide, by decide⟩, .inl ⟨_, rfl, _, rfl, _, _, rfl, rfl, (by show (0 : Int) < (n : Int); omega), ?_⟩⟩
    exact fin _ hz0 hz1
end
end My
/-! lists of lambdas -/
namespace My
open PySem PySem.Spec PyProof.Rows L2 LamX
/-- the heap without its tables -/
def noT (H : Hp) : Hp := fun b => match H b with
  | some (.tbl _) => none
  | o => o
theorem noT_at {H : Hp} {b : Addr} {o : HO} (h : H b = some o) (n : ∀ ps, o ≠ .tbl ps) : noT H b = some o := by
  unfold noT
  rw [h]
  cases o with
  | tbl ps => exact absurd rfl (n ps)
  | _ => rfl
theorem noT_of {H : Hp} {b : Addr} {o : HO} (h : noT H b = some o) : H b = some o ∧ ∀ ps, o ≠ .tbl ps := by
  unfold noT at h
  cases e : H b with
  | none => rw [e] at h; cases h
  | some u =>
    rw [e] at h
    cases u with
    | tbl ps => cases h
    | _ => cases h; exact ⟨rfl, fun ps z => by cases z⟩
theorem noT_none {H : Hp} {b : Addr} (h : H b = none) : noT H b = none := by unfold noT; rw [h]
theorem noT_same (H : Hp) : Same (noT H) H := fun b u z => (noT_of z).1
/-- nothing but tables has changed since S -/
theorem same_ext {S H H1 : Hp} (s : Same (noT S) H) (e : ExtN H H1) : Same (noT S) H1 := fun b u z => e b u (s b u z) (noT_of z).2
theorem same_to {S H H1 : Hp} (s : Same (noT S) H) (e : Same H H1) : Same (noT S) H1 := fun b u z => e b u (s b u z)
theorem same_put {S H : Hp} {p : Addr} {o : HO} (s : Same (noT S) H) (n : noT S p = none) : Same (noT S) (upd H p o) := fun b u z => by
  rw [upd_ne (ne_of_none z n)]
  exact s b u z
theorem free_of {S H : Hp} {p : Addr} (s : Same (noT S) H) (n : H p = none) : noT S p = none := by
  cases e : noT S p with
  | none => rfl
  | some o =>
    have := s p o e
    rw [n] at this
    cases this
mutual
theorem Vd.noT {H : Hp} : ∀ {v : V} {d : PyData}, Vd H v d → Vd (noT H) v d
  | _, _, .non => .non
  | _, _, .bl b => .bl b
  | _, _, .int i => .int i
  | _, _, .str x h => .str x h
  | _, _, .lst h k => .lst (noT_at h (fun ps z => by cases z)) (VdAll.noT k)
  | _, _, .tup h k => .tup (noT_at h (fun ps z => by cases z)) (VdAll.noT k)
  | _, _, .emp h => .emp (noT_at h (fun ps z => by cases z))
theorem VdAll.noT {H : Hp} : ∀ {vs : List V} {ds : List PyData}, VdAll H vs ds → VdAll (noT H) vs ds
  | _, _, .nil => .nil
  | _, _, .cons h k => .cons (Vd.noT h) (VdAll.noT k)
end
/-- a list of what may be called: each does what Y says, wherever the frame's variables are as G wants them -/
def Wl (X : Cx) (S : Hp) (G : L2.St → Prop) (Y : Heap → Hp → Addr → Prop) (H : Hp) (fs : List Addr) : Prop := ∀ f ∈ fs, ∀ (b' : Heap) (σ' : L2.St) (H2 : Hp), Rb X σ' b' → KeepL H H2 → Same (noT S) H2 → G σ' → Y b' H2 f
theorem Wl.keep {X : Cx} {S : Hp} {G : L2.St → Prop} {Y : Heap → Hp → Addr → Prop} {H H' : Hp} {fs : List Addr} (h : Wl X S G Y H fs) (k : KeepL H H') : Wl X S G Y H' fs := fun f hf b' σ' H2 R k2 => h f hf b' σ' H2 R (k.trans k2)
theorem Wl.nil {X : Cx} {S : Hp} {G : L2.St → Prop} {Y : Heap → Hp → Addr → Prop} {H : Hp} : Wl X S G Y H [] := fun f hf => nomatch hf
theorem Wl.snoc {X : Cx} {S : Hp} {G : L2.St → Prop} {Y : Heap → Hp → Addr → Prop} {H : Hp} {fs : List Addr} {f : Addr} (h : Wl X S G Y H fs) (k : ∀ (b' : Heap) (σ' : L2.St) (H2 : Hp), Rb X σ' b' → KeepL H H2 → Same (noT S) H2 → G σ' → Y b' H2 f) : Wl X S G Y H (fs ++ [f]) := fun g hg => by
  rcases List.mem_append.mp hg with z | z
  · exact h g z
  · rw [List.mem_singleton.mp z]
    exact k
/-- the state while a list of lambdas is made -/
structure Mkg (X : Cx) (S : Hp) (T : List (Addr × Str)) (G : L2.St → Prop) (Y : Heap → Hp → Addr → Prop) (l : Addr) (n : Nat) (H : Hp) : Prop where
  s : Same (noT S) H
  t : Tabs T H
  nl : noT S l = none
  fs : ∃ fs : List Addr, H l = some (.lst (fs.map V.ref)) ∧ fs.length = n ∧ Wl X S G Y H fs
theorem tabs_put {T : List (Addr × Str)} {H : Hp} {p : Addr} {xs : List V} {o : HO} (t : Tabs T H) (h : H p = some (.lst xs)) : Tabs T (upd H p o) := by
  intro q hq
  obtain ⟨ps, h1, h2, h3⟩ := t q hq
  refine ⟨ps, by rw [upd_ne (ne_of h1 h (fun y => by cases y))]; exact h1, h2, fun pos cv hc => ?_⟩
  obtain ⟨c, e1, e2⟩ := h3 pos cv hc
  exact ⟨c, e1, by rw [upd_ne (ne_of e2 h (fun y => by unfold CodeO at y; cases y))]; exact e2⟩
/-- [lambda: ..] -/
theorem Mkg.one {X : Cx} {S : Hp} {T : List (Addr × Str)} {G : L2.St → Prop} {Y : Heap → Hp → Addr → Prop} {H H1 : Hp} {f p : Addr} (s : Same (noT S) H) (e : ExtN H H1) (t : Tabs T H1) (np : H1 p = none)
    (k : ∀ (b' : Heap) (σ' : L2.St) (H2 : Hp), Rb X σ' b' → KeepL H1 H2 → Same (noT S) H2 → G σ' → Y b' H2 f) : Mkg X S T G Y p 1 (upd H1 p (.lst [.ref f])) := by
  have hk := free_of (same_ext s e) np
  refine ⟨same_put (same_ext s e) hk, t.ext (fun b o z => by rw [upd_ne (ne_of_none z np)]; exact z), hk, [f], upd_same, rfl, ?_⟩
  intro g hg b' σ' H2 R k2
  rw [List.mem_singleton.mp hg]
  exact k b' σ' H2 R (KeepL.trans (KeepL.same fun b o z => by rw [upd_ne (ne_of_none z np)]; exact z) k2)
/-- .append(lambda: ..) -/
theorem Mkg.add {X : Cx} {S : Hp} {T : List (Addr × Str)} {G : L2.St → Prop} {Y : Heap → Hp → Addr → Prop} {H H1 : Hp} {l f : Addr} {n : Nat} (m : Mkg X S T G Y l n H) (e : ExtN H H1) (t : Tabs T H1)
    (k : ∀ (b' : Heap) (σ' : L2.St) (H2 : Hp), Rb X σ' b' → KeepL H1 H2 → Same (noT S) H2 → G σ' → Y b' H2 f) (hn : n ≤ 1000) : ∃ xs, H1 l = some (.lst xs) ∧ xs.length < sizeLine ∧ Mkg X S T G Y l (n + 1) (upd H1 l (.lst (xs ++ [.ref f]))) := by
  obtain ⟨fs, h1, h2, h3⟩ := m.fs
  have hl := e _ _ h1 (fun ps z => by cases z)
  refine ⟨_, hl, by rw [List.length_map, h2]; exact Nat.lt_of_lt_of_le (by omega : n < 2000) (by decide), same_put (same_ext m.s e) m.nl, tabs_put t hl, m.nl, fs ++ [f], by rw [upd_same, List.map_append]; rfl, by rw [List.length_append, h2]; rfl, ?_⟩
  have kp : KeepL H1 (upd H1 l (.lst (fs.map V.ref ++ [.ref f]))) := (KeepL.refl H1).put hl
  exact Wl.snoc ((h3.keep (.ext e)).keep kp) fun b' σ' H2 R k2 => k b' σ' H2 R (kp.trans k2)
section
variable {X : Cx} {k : Nat} {f : Addr} {fd : FuncData} {ps : List Str} {sp : Sp} {x : Str} {p pos : Pos}
/-- f(), where nothing is being shown -/
theorem pe_callG0 (F : FnG X.prog X.w X.K X.mg X.base k f fd ps sp) (hr : Room k X.A) (quiet : X.A.guards = some []) (hg : Gl X x) (hm : X.mg x = some (.ref f)) (hk : PySem.W.keepIn X.K (.ref f) = true) (hb : Binds X.K fd ps [])
    (hdb : (x == ("__debug__" : Str)) = false := by decide) : PE X (.Call (.Name x p) [] [] pos) (tCall sp [] E0 tNil) := by
  constructor
  intro pins s σ H Q I h
  refine wpAny_Call_Name_kw (ld_glob I hg hm (PySem.W.callWith_K0 I.kIn hk ?_) hdb)
  have q' : sp [] H Q E0 := h
  exact run_fnG (us := []) (vs := []) (ws := []) (zs := []) F hr quiet (KBinds.none hb) I .nil .nil q'
end
end My
/-! data that may be shown: what repr tells of them, by their leaves -/
namespace My
open PySem PySem.Spec PyProof.Rows L2
/-- data that may be shown, and compared once shown -/
structure Fq (d : PyData) : Prop where
  sh : d.showable = true
  dep : d.depth ≤ 60
  len : d.shown.length ≤ sizeLine
  ok : PyData.strOk d.shown = true
mutual
def okS : PyData → Bool
  | .list l => okSs l
  | .tuple l => okSs l
  | .dict kv => kv.isEmpty
  | .none => PyData.strOk (PyData.shown .none)
  | .bool b => PyData.strOk (PyData.shown (.bool b))
  | .int i => PyData.strOk (PyData.shown (.int i))
  | .str x => PyData.strOk (PyData.shown (.str x))
def okSs : List PyData → Bool
  | [] => true
  | d :: r => okS d && okSs r
end
theorem sokIff {x : Str} : PyData.strOk x = true ↔ ∀ c ∈ x.cps.toList, c < 0x110000 := by
  show x.cps.all (fun c => decide (c < 0x110000)) = true ↔ _
  rw [Array.all_eq_true']
  constructor
  · intro h c hc
    exact of_decide_eq_true (h c (Array.mem_toList_iff.mp hc))
  · intro h c hc
    exact decide_eq_true (h c (Array.mem_toList_iff.mpr hc))
theorem sokApp {a b : Str} (h : PyData.strOk a = true) (k : PyData.strOk b = true) : PyData.strOk (a ++ b) = true := by
  rw [sokIff] at h k ⊢
  intro c hc
  rcases mem_cps_append.mp hc with z | z
  · exact h c z
  · exact k c z
theorem sokJoin {ts : List Str} (h : ∀ t ∈ ts, PyData.strOk t = true) : PyData.strOk (Str.join ", " ts) = true := by
  rw [sokIff]
  intro c hc
  rcases (mem_join _ _ _).mp hc with ⟨t, ht, z⟩ | ⟨_, z⟩
  · exact sokIff.mp (h t ht) c z
  · exact sokIff.mp (by decide +kernel : PyData.strOk (", " : Str) = true) c z
mutual
theorem sokShown : ∀ d : PyData, okS d = true → PyData.strOk d.shown = true
  | .none, h => by simpa [okS] using h
  | .bool b, h => by simpa [okS] using h
  | .int i, h => by simpa [okS] using h
  | .str x, h => by simpa [okS] using h
  | .list l, h => by
    rw [PyData.shown_list]
    exact sokApp (sokApp (by decide +kernel) (sokJoin (sokShownAll l (by simpa [okS] using h)))) (by decide +kernel)
  | .tuple l, h => by
    rw [PyData.shown_tuple]
    refine sokApp (sokApp (by decide +kernel) (sokJoin (sokShownAll l (by simpa [okS] using h)))) ?_
    split
    · decide +kernel
    · decide +kernel
  | .dict kv, h => by
    have e : kv = [] := by
      have : kv.isEmpty = true := by simpa [okS] using h
      exact List.isEmpty_iff.mp this
    subst e
    decide +kernel
theorem sokShownAll : ∀ l : List PyData, okSs l = true → ∀ t ∈ PyData.shownAll l, PyData.strOk t = true
  | [], _, t, ht => by
    rw [PyData.shownAll_nil] at ht
    cases ht
  | d :: r, h, t, ht => by
    have h2 : okS d = true ∧ okSs r = true := by simpa [okSs] using h
    rw [PyData.shownAll_cons] at ht
    rcases List.mem_cons.mp ht with z | z
    · rw [z]; exact sokShown d h2.1
    · exact sokShownAll r h2.2 t z
end
def fqB (d : PyData) : Bool := d.showable && decide (d.depth ≤ 60) && d.leavesShort 13 && decide (d.weight ≤ 1048576) && okS d
theorem fq_of {d : PyData} (h : fqB d = true) : Fq d := by
  unfold fqB at h
  simp only [Bool.and_eq_true, decide_eq_true_iff] at h
  exact ⟨h.1.1.1.1, h.1.1.1.2, PyData.shown_fits (B := 13) (by decide) (by decide) h.1.1.2 (Nat.le_trans h.1.2 (by decide)), sokShown d h.2⟩
end My
set_option maxHeartbeats 4000000
namespace My
open PySem L2 PyProof.Rows
def wrd (i : Nat) : Str := (["web", "places", "ties", "place", "walk", "round", "without", "part"] : List Str).getD i ""
/-- called, it raises the i-th error with v -/
def Hears (P : Program) (w : World) (K : PySem.W.Frag) (mg : Str → Option Value) (base : Heap) (XA : Str → Addr) (H : Hp) (f : Addr) (i : Nat) (v : V) : Prop := ∀ H2, Same H H2 → ∃ T, CallV P w K mg base 21 f H2 T ∧ ∀ Q E, Rz E (XA (exs.getD i "")) v H2 → T Q E
theorem Hears.same {P : Program} {w : World} {K : PySem.W.Frag} {mg : Str → Option Value} {base : Heap} {XA : Str → Addr} {H H' : Hp} {f : Addr} {i : Nat} {v : V} (h : Hears P w K mg base XA H f i v) (s : Same H H') : Hears P w K mg base XA H' f i v := fun H2 s2 => h H2 fun b o z => s2 _ _ (s _ _ z)
section
variable {P : Program} {w : World} {K : PySem.W.Frag} {mg : Str → Option Value} {base : Heap} {C CPE cM : Addr} {XA : Str → Addr} {TL : List (Addr × Str)}
def sp_law_heard (K : PySem.W.Frag) (_ : Addr) (XA : Str → Addr) (P : Program) (w : World) (mg : Str → Option Value) (base : Heap) : Sp := fun vs H Q _ => ∃ f i v d, vs = [.ref f] ∧ i < 8 ∧ Hears P w K mg base XA H f i v ∧ Vd H v d ∧ Fq d ∧
  ∀ H' p, Same H H' → H p = none → H' p = some (.lst [.str (wrd i), .str d.shown, .bl true]) → Q (.ref p) H'
theorem ok_law_heard (D : Def K mg "_law_heard" s_law_heard ["_law_call"]) (B : Bs mg) (Glb : Glo mg) (WK : WebK K mg C) (EXInvalidWeb : ExcF P w K mg base "value" "InvalidWeb" (XA "InvalidWeb")) (EXInvalidPlaces : ExcF P w K mg base "value" "InvalidPlaces" (XA "InvalidPlaces")) (EXInvalidTies : ExcF P w K mg base "value" "InvalidTies" (XA "InvalidTies")) (EXInvalidPlace : ExcF P w K mg base "value" "InvalidPlace" (XA "InvalidPlace")) (EXInvalidWalk : ExcF P w K mg base "value" "InvalidWalk" (XA "InvalidWalk")) (EXInvalidRound : ExcF P w K mg base "value" "InvalidRound" (XA "InvalidRound")) (EXInvalidWithout : ExcF P w K mg base "value" "InvalidWithout" (XA "InvalidWithout")) (EXInvalidPart : ExcF P w K mg base "value" "InvalidPart" (XA "InvalidPart")) (PErr : mg "PieceError" = some (.ref CPE)) (EXM : ExM K XA CPE) :
    GoodG P w K mg base "_law_heard" s_law_heard ["_law_call"] 22 (sp_law_heard K C XA P w mg base) := by
  refine D.goodG fun f fd F => ?_
  refine FnG.ofBody F sc_law_heard (fun vs H Q E h => ?_) (fun cdv A outer s H vs Q E hr quiet h => ?_)
  · obtain ⟨fl, i, v, d, rfl, hi, hh, hv, hq, q⟩ := h
    first | rfl | (rcases h with ⟨_, _, rfl, _⟩ | ⟨_, rfl, _⟩ <;> rfl)
  obtain ⟨fl, i, v, d, rfl, hi, hh, hv, hq, q⟩ := h
  have hur := hu70 hr
  refine ⟨_, (pss_cons (ps_try_cl rfl rfl sc_law_heard.nd takes0 (fun W pn xe tk _ => (pss_one (ps_expr (pe_callV (P := P) (w := w) (K := K) (mg := mg) (base := base) (i := 0) (k := 21) rfl rfl rfl rfl rfl rfl (by first | exact Or.inl rfl | exact Or.inr rfl) hr (fun σ => passAt tk σ))))) (.named (i := 1) rfl rfl ⟨rfl, by decide, .inl EXInvalidWeb.g⟩ (fun a oe cls d pn hz hf => (pss_one (ps_ret (pe_lst (pa_cons pe_str (pa_cons (pe_callB (call_repr_qS quiet hur) (by rfl) B.repr (by decide +kernel) (pa_cons (pe_xf EXInvalidWeb.xf EXInvalidWeb.hno hz hf (pv 1)) pa_nil)) (pa_cons (pe_callB (call_isYes hz) (by rfl) B.isinstance (by decide +kernel) (pa_cons (pv 1) (pa_cons (pe_glob (v := .ref CPE) (by rfl) PErr rfl) pa_nil))) pa_nil))))))) (.named (i := 1) rfl rfl ⟨rfl, by decide, .inl EXInvalidPlaces.g⟩ (fun a oe cls d pn hz hf => (pss_one (ps_ret (pe_lst (pa_cons pe_str (pa_cons (pe_callB (call_repr_qS quiet hur) (by rfl) B.repr (by decide +kernel) (pa_cons (pe_xf EXInvalidPlaces.xf EXInvalidPlaces.hno hz hf (pv 1)) pa_nil)) (pa_cons (pe_callB (call_isYes hz) (by rfl) B.isinstance (by decide +kernel) (pa_cons (pv 1) (pa_cons (pe_glob (v := .ref CPE) (by rfl) PErr rfl) pa_nil))) pa_nil))))))) (.named (i := 1) rfl rfl ⟨rfl, by decide, .inl EXInvalidTies.g⟩ (fun a oe cls d pn hz hf => (pss_one (ps_ret (pe_lst (pa_cons pe_str (pa_cons (pe_callB (call_repr_qS quiet hur) (by rfl) B.repr (by decide +kernel) (pa_cons (pe_xf EXInvalidTies.xf EXInvalidTies.hno hz hf (pv 1)) pa_nil)) (pa_cons (pe_callB (call_isYes hz) (by rfl) B.isinstance (by decide +kernel) (pa_cons (pv 1) (pa_cons (pe_glob (v := .ref CPE) (by rfl) PErr rfl) pa_nil))) pa_nil))))))) (.named (i := 1) rfl rfl ⟨rfl, by decide, .inl EXInvalidPlace.g⟩ (fun a oe cls d pn hz hf => (pss_one (ps_ret (pe_lst (pa_cons pe_str (pa_cons (pe_callB (call_repr_qS quiet hur) (by rfl) B.repr (by decide +kernel) (pa_cons (pe_xf EXInvalidPlace.xf EXInvalidPlace.hno hz hf (pv 1)) pa_nil)) (pa_cons (pe_callB (call_isYes hz) (by rfl) B.isinstance (by decide +kernel) (pa_cons (pv 1) (pa_cons (pe_glob (v := .ref CPE) (by rfl) PErr rfl) pa_nil))) pa_nil))))))) (.named (i := 1) rfl rfl ⟨rfl, by decide, .inl EXInvalidWalk.g⟩ (fun a oe cls d pn hz hf => (pss_one (ps_ret (pe_lst (pa_cons pe_str (pa_cons (pe_callB (call_repr_qS quiet hur) (by rfl) B.repr (by decide +kernel) (pa_cons (pe_xf EXInvalidWalk.xf EXInvalidWalk.hno hz hf (pv 1)) pa_nil)) (pa_cons (pe_callB (call_isYes hz) (by rfl) B.isinstance (by decide +kernel) (pa_cons (pv 1) (pa_cons (pe_glob (v := .ref CPE) (by rfl) PErr rfl) pa_nil))) pa_nil))))))) (.named (i := 1) rfl rfl ⟨rfl, by decide, .inl EXInvalidRound.g⟩ (fun a oe cls d pn hz hf => (pss_one (ps_ret (pe_lst (pa_cons pe_str (pa_cons (pe_callB (call_repr_qS quiet hur) (by rfl) B.repr (by decide +kernel) (pa_cons (pe_xf EXInvalidRound.xf EXInvalidRound.hno hz hf (pv 1)) pa_nil)) (pa_cons (pe_callB (call_isYes hz) (by rfl) B.isinstance (by decide +kernel) (pa_cons (pv 1) (pa_cons (pe_glob (v := .ref CPE) (by rfl) PErr rfl) pa_nil))) pa_nil))))))) (.named (i := 1) rfl rfl ⟨rfl, by decide, .inl EXInvalidWithout.g⟩ (fun a oe cls d pn hz hf => (pss_one (ps_ret (pe_lst (pa_cons pe_str (pa_cons (pe_callB (call_repr_qS quiet hur) (by rfl) B.repr (by decide +kernel) (pa_cons (pe_xf EXInvalidWithout.xf EXInvalidWithout.hno hz hf (pv 1)) pa_nil)) (pa_cons (pe_callB (call_isYes hz) (by rfl) B.isinstance (by decide +kernel) (pa_cons (pv 1) (pa_cons (pe_glob (v := .ref CPE) (by rfl) PErr rfl) pa_nil))) pa_nil))))))) (.named (i := 1) rfl rfl ⟨rfl, by decide, .inl EXInvalidPart.g⟩ (fun a oe cls d pn hz hf => (pss_one (ps_ret (pe_lst (pa_cons pe_str (pa_cons (pe_callB (call_repr_qS quiet hur) (by rfl) B.repr (by decide +kernel) (pa_cons (pe_xf EXInvalidPart.xf EXInvalidPart.hno hz hf (pv 1)) pa_nil)) (pa_cons (pe_callB (call_isYes hz) (by rfl) B.isinstance (by decide +kernel) (pa_cons (pv 1) (pa_cons (pe_glob (v := .ref CPE) (by rfl) PErr rfl) pa_nil))) pa_nil))))))) .nil)))))))))
  (pss_one (ps_ret (pe_lst (pa_cons pe_str pa_nil))))), ?_⟩
  obtain ⟨T, hc, ht⟩ := hh H (fun _ _ z => z)
  refine ⟨fl, T, rfl, hc, ht _ _ fun H1 dd S1 ndd => ?_⟩
  have S2 : Same H (upd H1 dd (.xd [("value", v)])) := fun b o e => same_new ndd _ _ _ (S1 _ _ e)
  have no : ∀ j, j ≤ i → ¬ i = j → PySem.W.exmOne K (.ref (XA (exs.getD i ""))) (.ref (XA (exs.getD j ""))) = some false := fun j h1 h2 => by rw [EXM.e i j hi h1, decide_eq_false h2]
  have yes : PySem.W.exmOne K (.ref (XA (exs.getD i ""))) (.ref (XA (exs.getD i ""))) = some true := by rw [EXM.e i i hi (Nat.le_refl _), decide_eq_true rfl]
  have isE := EXM.s i hi
  have fin : ∀ p, upd H1 dd (.xd [("value", v)]) p = none → ∀ H', H' = upd (upd H1 dd (.xd [("value", v)])) p (.lst [.str (wrd i), .str d.shown, .bl true]) → Q (.ref p) H' := fun p np H' e => by
    subst e
    exact q _ p (fun b o z => same_new np _ _ _ (S2 _ _ z)) (S2.free np) upd_same
  match i, hi with
  | 0, _ => refine ⟨true, yes, fun _ a na => ⟨_, rfl, rfl, rfl, dd, _, v, rfl, upd_same, rfl, v, d, rfl, (hv.same S2).dq, hq.sh, hq.dep, hq.len, _, rfl, CPE, rfl, isE, (by show 3 ≤ sizeLine; decide), fun p np => fin p np _ rfl⟩, fun z => nomatch z⟩
  | 1, _ => refine ⟨false, no 0 (by decide) (by decide), (fun z => nomatch z), fun _ => ⟨true, yes, fun _ a na => ⟨_, rfl, rfl, rfl, dd, _, v, rfl, upd_same, rfl, v, d, rfl, (hv.same S2).dq, hq.sh, hq.dep, hq.len, _, rfl, CPE, rfl, isE, (by show 3 ≤ sizeLine; decide), fun p np => fin p np _ rfl⟩, fun z => nomatch z⟩⟩
  | 2, _ => refine ⟨false, no 0 (by decide) (by decide), (fun z => nomatch z), fun _ => ⟨false, no 1 (by decide) (by decide), (fun z => nomatch z), fun _ => ⟨true, yes, fun _ a na => ⟨_, rfl, rfl, rfl, dd, _, v, rfl, upd_same, rfl, v, d, rfl, (hv.same S2).dq, hq.sh, hq.dep, hq.len, _, rfl, CPE, rfl, isE, (by show 3 ≤ sizeLine; decide), fun p np => fin p np _ rfl⟩, fun z => nomatch z⟩⟩⟩
  | 3, _ => refine ⟨false, no 0 (by decide) (by decide), (fun z => nomatch z), fun _ => ⟨false, no 1 (by decide) (by decide), (fun z => nomatch z), fun _ => ⟨false, no 2 (by decide) (by decide), (fun z => nomatch z), fun _ => ⟨true, yes, fun _ a na => ⟨_, rfl, rfl, rfl, dd, _, v, rfl, upd_same, rfl, v, d, rfl, (hv.same S2).dq, hq.sh, hq.dep, hq.len, _, rfl, CPE, rfl, isE, (by show 3 ≤ sizeLine; decide), fun p np => fin p np _ rfl⟩, fun z => nomatch z⟩⟩⟩⟩
  | 4, _ => refine ⟨false, no 0 (by decide) (by decide), (fun z => nomatch z), fun _ => ⟨false, no 1 (by decide) (by decide), (fun z => nomatch z), fun _ => ⟨false, no 2 (by decide) (by decide), (fun z => nomatch z), fun _ => ⟨false, no 3 (by decide) (by decide), (fun z => nomatch z), fun _ => ⟨true, yes, fun _ a na => ⟨_, rfl, rfl, rfl, dd, _, v, rfl, upd_same, rfl, v, d, rfl, (hv.same S2).dq, hq.sh, hq.dep, hq.len, _, rfl, CPE, rfl, isE, (by show 3 ≤ sizeLine; decide), fun p np => fin p np _ rfl⟩, fun z => nomatch z⟩⟩⟩⟩⟩
  | 5, _ => refine ⟨false, no 0 (by decide) (by decide), (fun z => nomatch z), fun _ => ⟨false, no 1 (by decide) (by decide), (fun z => nomatch z), fun _ => ⟨false, no 2 (by decide) (by decide), (fun z => nomatch z), fun _ => ⟨false, no 3 (by decide) (by decide), (fun z => nomatch z), fun _ => ⟨false, no 4 (by decide) (by decide), (fun z => nomatch z), fun _ => ⟨true, yes, fun _ a na => ⟨_, rfl, rfl, rfl, dd, _, v, rfl, upd_same, rfl, v, d, rfl, (hv.same S2).dq, hq.sh, hq.dep, hq.len, _, rfl, CPE, rfl, isE, (by show 3 ≤ sizeLine; decide), fun p np => fin p np _ rfl⟩, fun z => nomatch z⟩⟩⟩⟩⟩⟩
  | 6, _ => refine ⟨false, no 0 (by decide) (by decide), (fun z => nomatch z), fun _ => ⟨false, no 1 (by decide) (by decide), (fun z => nomatch z), fun _ => ⟨false, no 2 (by decide) (by decide), (fun z => nomatch z), fun _ => ⟨false, no 3 (by decide) (by decide), (fun z => nomatch z), fun _ => ⟨false, no 4 (by decide) (by decide), (fun z => nomatch z), fun _ => ⟨false, no 5 (by decide) (by decide), (fun z => nomatch z), fun _ => ⟨true, yes, fun _ a na => ⟨_, rfl, rfl, rfl, dd, _, v, rfl, upd_same, rfl, v, d, rfl, (hv.same S2).dq, hq.sh, hq.dep, hq.len, _, rfl, CPE, rfl, isE, (by show 3 ≤ sizeLine; decide), fun p np => fin p np _ rfl⟩, fun z => nomatch z⟩⟩⟩⟩⟩⟩⟩
  | 7, _ => refine ⟨false, no 0 (by decide) (by decide), (fun z => nomatch z), fun _ => ⟨false, no 1 (by decide) (by decide), (fun z => nomatch z), fun _ => ⟨false, no 2 (by decide) (by decide), (fun z => nomatch z), fun _ => ⟨false, no 3 (by decide) (by decide), (fun z => nomatch z), fun _ => ⟨false, no 4 (by decide) (by decide), (fun z => nomatch z), fun _ => ⟨false, no 5 (by decide) (by decide), (fun z => nomatch z), fun _ => ⟨false, no 6 (by decide) (by decide), (fun z => nomatch z), fun _ => ⟨true, yes, fun _ a na => ⟨_, rfl, rfl, rfl, dd, _, v, rfl, upd_same, rfl, v, d, rfl, (hv.same S2).dq, hq.sh, hq.dep, hq.len, _, rfl, CPE, rfl, isE, (by show 3 ≤ sizeLine; decide), fun p np => fin p np _ rfl⟩, fun z => nomatch z⟩⟩⟩⟩⟩⟩⟩⟩
end
end My
/-! set(s), s a list or a tuple of whole numbers -/
namespace My
open PySem PySem.Spec PyProof.Rows L2
section
variable {X : Cx}
def rSetSq (K : PySem.W.Frag) (w : World) : List V → Hp → VK → Prop := fun vs H Q => ∃ (l : Addr) (xs : List Int), vs = [V.ref l] ∧ (SqL K H l (xs.map V.int) ∨ SqT K H l (xs.map V.int)) ∧ xs.length ≤ 4000 ∧
  ∀ (p : Addr) (n : Nat), (∀ D : List Int, D.Nodup → (∀ k, k ∈ D ↔ k ∈ xs) → D.length = n) → n ≤ xs.length → H p = none → Q (.ref p) (upd H p (InO w p (inI xs) n))
theorem cr_setSq (calm : X.calm = true) : CallR X (.type "set") (rSetSq X.K X.w) := by
  intro pins s σ H vs us Q I r h
  obtain ⟨l, xs, e, hq, small, q⟩ := h
  rcases hq with hq | hq
  · subst e
    rw [Vals.ref1 r]
    obtain ⟨its, rv, pl, hz⟩ := I.list hq
    exact set_of_ints (I.ok.hd calm) pl.isList (by simpa using ints_of_vals rv) (by unfold scanBound; omega) fun h' tk m hle R keep =>
      ⟨.ref _, upd H s.heap.objs.size (InO X.w s.heap.objs.size (inI xs) m), I.laid (t' := tk) (fun b u e => keep b u (Heap.lt_size e) e) (Nat.le_refl _) (inO_new R), rfl, q _ m (ints_many R) hle (I.hok.fresh (Nat.le_refl _))⟩
  subst e
  rw [Vals.ref1 r]
  obtain ⟨its, rv, pl, hz⟩ := I.tuple hq
  refine call_set_tupI xs (I.ok.hd calm) pl (by simpa using ints_of_vals rv) (by unfold scanBound; omega) fun h' tk m R hle keep => ?_
  exact ⟨.ref _, upd H s.heap.objs.size (InO X.w s.heap.objs.size (inI xs) m), I.laid (t' := tk) (fun b u e => keep b u e) (Nat.le_refl _) (inO_new R), rfl, q _ m (ints_many R) hle (I.hok.fresh (Nat.le_refl _))⟩
theorem call_isiK {K : PySem.W.Frag} (h : X.K = K) : CallR X (.builtin "isinstance") (rIsi K) := h ▸ call_isi
end
end My
/-! sorted(set(s)) within a comprehension -/
namespace My
open PySem PySem.Spec PyProof.Rows L2
section
variable {X : Cx}
theorem cr_setInK {K : PySem.W.Frag} {w : World} (h : X.K = K) (hw : X.w = w) (calm : X.calm = true) : CallR X (.type "set") (rSetIn K w) := h ▸ hw ▸ cr_setIn calm
theorem cr_setSqK {K : PySem.W.Frag} {w : World} (h : X.K = K) (hw : X.w = w) (calm : X.calm = true) : CallR X (.type "set") (rSetSq K w) := h ▸ hw ▸ cr_setSq calm
theorem cr_sortInK {w : World} (hw : X.w = w) (calm : X.calm = true) : CallR X (.builtin "sorted") (rSortIn w) := hw ▸ cr_sortIn calm
theorem cr_allK {K : PySem.W.Frag} (h : X.K = K) (calm : X.calm = true) : CallR X (.builtin "all") (rAll K) := h ▸ cr_all calm
theorem cr_anyK {K : PySem.W.Frag} (h : X.K = K) (calm : X.calm = true) : CallR X (.builtin "any") (rAny K) := h ▸ cr_any calm
end
end My
/-! {k: v}, k a tuple of whole numbers and texts -/
namespace My
open PySem PySem.Spec PyProof.Rows L2
def tDispT (trs : List (TE × TE)) : TE := fun σ H Q => ∀ p, H p = none → tPairs trs σ (upd H p (.dT [])) fun ps H2 => H2 p = some (.dT []) ∧ ∃ (b : Addr) (k : List Key) (y : V), ps = [(.ref b, y)] ∧ H2 b = some (.tup (k.map kV)) ∧ Q (.ref p) (upd H2 p (.dT [(k, y)]))
theorem pe_dispT {X : Cx} {pos : Pos} {k v : Expr} {trs : List (TE × TE)} (hu : X.A.units + 1 < cLine) (h : PPs X pos [some k] [v] trs) : PE X (.Dict [some k] [v] pos) (tDispT trs) := by
  refine ⟨fun pins s σ H Q I q => ?_⟩
  have hn := I.hok.fresh (Nat.le_refl s.heap.objs.size)
  have I1 := I.laid (a := s.heap.objs.size) (o := .dT []) (h' := s.heap.push { cls := .type "dict", data := .dict #[] }) (t' := s.toks) (fun _ _ q => Heap.get?_push_of_some _ q) (Nat.le_refl _) (dt_empty s.heap I.big)
  rw [arm_eval_Dict, zip_pairTrees [some k] [v] X.env pos rfl rfl, dictDisplay_pairs _ (by intro z; cases z) (by rw [pairTrees_length [some k] [v] X.env pos rfl rfl]; exact Nat.le_of_ble_eq_true rfl)]
  refine wpAny_bind (wpAny_standAt (wpAny_bind (wpAny_subDictH (knd := tupleKind (mixKind X.prog X.w)) (Nat.lt_of_succ_lt hu) (by rw [pairTrees_length [some k] [v] X.env pos rfl rfl]; exact Nat.le_of_ble_eq_true rfl) ?_)))
  refine thn (h.run pins _ σ _ _ I1 (q _ hn)) fun ws s2 ⟨ps, H2, I2, rel, e, b, kx, y, ep, eb, q2⟩ => ?_
  subst ep
  cases rel with
  | @cons p0 q0 ps0 qs0 r rr =>
    cases rr
    obtain ⟨k0, v0⟩ := q0
    obtain ⟨r1, r2⟩ := r
    cases (show k0 = Value.ref b from r1)
    obtain ⟨z, hd, xs, rel, dd⟩ := dt_of I2.hok e
    cases rel
    refine ⟨[(kx, b, v0)], ⟨rfl, rfl, key_of I2.hok eb, trivial⟩, dd, fun h' tk dd' hs => ?_⟩
    refine wpAny_pure ⟨.ref s.heap.objs.size, _, ?_, rfl, q2⟩
    obtain ⟨o, es, ep, hq, h2, h3, h4, _, h5⟩ := dd'
    refine d_write I2 (by rw [e]; exact True.intro) hs ⟨o, hq⟩ ⟨by rw [sizeLine_eq]; simp, hd, [(kx, b, v0)], .cons ⟨rfl, ?_, r2⟩ .nil, o, es, ep, hq, h2, h3, h4, h5⟩
    show upd _ _ _ b = _
    rw [upd_ne (ne_of eb e (fun z => nomatch z))]
    exact eb
end My
/-! dict comprehensions: one clause or two, keys whole numbers, texts or tuples of them -/
namespace My
open PySem PySem.Spec PyProof.Rows L2
section
variable {prog : Program} {w : World} {A : Around}
/-- how a turn of clause k goes: an item, its store, the tests, then `more` -/
def TurnIs (M : Model) (A : Around) (e : Expr) (k : Nat) (ip : Pos) (tg : Expr) (ifs : List Expr) (it acc : Value) (env : Env) (more : Sem Unit) : Prop :=
  (Code.compLoop e k it acc env).quiet = true ∧ ∀ (Q : Fin → Shared → Prop) (E : Value → Shared → Prop) (s : Shared), wpAny M A (Sem.onRaise (do
      standAt ip
      match ← pyNext it with
      | none => pure (.done .next)
      | some v =>
        letOwnedTupleGo tg it v
        assign tg env v
        let mut ok := true
        for c in ifs do
          if ok then ok ← isTrue c env (eval c env)
        if ok then
          more
        again (.compLoop e k it acc env)) (fun x => do noteFrame x env; theTreesLotGoes x)) Q E s → wpAny M (A.under (.compLoop e k it acc env)) (M.den (.compLoop e k it acc env)) Q E s
abbrev testing (ifs : List Expr) (env : Env) : Sem Bool := forIn ifs true fun c r => if r = true then do let ok ← isTrue c env (eval c env); pure (ForInStep.yield ok) else pure (ForInStep.yield r)
abbrev noE : Value → Shared → Prop := fun _ _ => False
/-- a comprehension's loop at clause k, whatever comes behind the tests -/
theorem loop_clause {R : Result → Shared → Prop} {s : Shared} {e tg : Expr} {ip : Pos} {ifs : List Expr} {it acc : Value} {env : Env} {k : Nat} {more : Sem Unit} (ti : TurnIs (model prog w) A e k ip tg ifs it acc env more) (Z : Nat → Shared → Prop)
    (turn : ∀ n t, Z n t → wpAny (model prog w) A (pyNext it) (fun r t1 => match r with
      | none => R (.ok .next) t1
      | some v => wpAny (model prog w) A (letOwnedTupleGo tg it v) (fun _ t2 => wpAny (model prog w) A (assign tg env v) (fun _ t3 => wpAny (model prog w) A (testing ifs env) (fun b t4 =>
          if b = true then wpAny (model prog w) A more (fun _ t5 => ∃ m, m < n ∧ Z m t5) noE t4 else ∃ m, m < n ∧ Z m t4) noE t3) noE t2) noE t1) noE t) (n : Nat) (h : Z n s) :
    codeAny (model prog w) A (.compLoop e k it acc env) R s := by
  refine codeAny_loop ti.1 Z (fun n t hz => ti.2 _ _ _ (wpAny_noted ?_)) n h
  refine wpAny_bind (wpAny_standAt (wpAny_bind (thnF (turn n t hz) fun r t1 q1 => ?_)))
  cases r with
  | none => exact wpAny_pure q1
  | some v =>
    refine wpAny_bind (thnF q1 fun _ t2 q2 => wpAny_bind (thnF q2 fun _ t3 q3 => wpAny_bind (thnF q3 fun b t4 q4 => ?_)))
    cases b with
    | false => exact wpAny_pure ⟨rfl, q4⟩
    | true => exact wpAny_bind (thnF q4 fun _ t5 q5 => wpAny_pure ⟨rfl, q5⟩)
end
section
variable {X : Cx}
/-- d[k] = v within a comprehension -/
theorem put_dict {pins : List (Addr × Obj)} {σ : L2.St} {H H' : Hp} {s : Shared} {E : Value → Shared → Prop} {D : Addr} {y v : V} {u r : Value} {Q : Unit → Shared → Prop} (hu : X.A.units + 1 < cLine) (I : Inv X pins σ H s) (g : DPut H D y v H') (ry : RelV y u) (rv : RelV v r)
    (h : ∀ s', Inv X pins σ H' s' → Q () s') : wpAny (model X.prog X.w) X.A (dictSet D u r) Q E s := by
  rcases g with ⟨kvs, k, e, ey, l, eH⟩ | ⟨kvs, k, b, e, ey, eb, l, eH⟩
  · subst ey eH
    exact d_dictSet I e l ry rv h
  · subst ey eH
    cases (show u = Value.ref b from ry)
    obtain ⟨z, nd, xs, rel, dd⟩ := dt_of I.hok e
    have lx : xs.length ≤ sizeLine := by rw [← Paired.length rel]; exact z
    have lp : (putK kvs k v).length ≤ sizeLine := by have := length_putK kvs k v; omega
    refine wpAny_dictSet_heap (hsz := lx) (Nat.lt_of_succ_lt hu) (key_of I.hok eb) dd fun h' d2 sb => h _ ?_
    obtain ⟨q, es, ep, hq, a2, a3, a4, _, a5⟩ := d2
    refine d_write I (by rw [e]; exact True.intro) sb ⟨q, hq⟩ ⟨lp, nd, _, (rel.put k eb rv).keeps fun c ys ec => ?_, q, es, ep, hq, a2, a3, a4, a5⟩
    rw [upd_ne (ne_of ec e (fun z => nomatch z))]
    exact ec
/-- what comes behind a clause's tests: the new dict, slots, heap, what is to be reached -/
abbrev TB := Addr → L2.St → Hp → (Hp → Prop) → Prop
def tDcG (o0 : HO) (wi : TI) (g : TG) (tt : TT) (tb : TB) (vs : List Nat) : TE := fun σ H Q => wi σ H fun J H1 => ∀ D, H1 D = none → ∃ W : Nat → Nat → Hp → Prop, (∃ m, W 0 m (upd H1 D o0)) ∧ ∀ i m H, W i m H →
  (J.stop i H ∧ Q (.ref D) H) ∨ (J.go i H ∧ ∃ Nx : Hp → Prop, (∀ H', Nx H' → ∃ m', m' < m ∧ W (i + 1) m' H') ∧ ∀ x H', J.yld i H x H' → g x (wipe σ vs) H' fun σ2 H2 => wipe σ2 vs = wipe σ vs ∧ tt σ2 H2 fun b H3 =>
    if b = true then tb D σ2 H3 Nx else Nx H3)
/-- the slots that a block may forget -/
def Keeps (vs : List Nat) (σ σ' : L2.St) : Prop := σ'.length = σ.length ∧ ∀ (j : Nat) v, (wipe σ vs)[j]? = some (some v) → σ'[j]? = some (some v)
theorem keeps_self (vs : List Nat) (σ : L2.St) : Keeps vs σ σ := ⟨rfl, fun j v e => (wipe_some e).1⟩
def Behind (B : Cx) (vs : List Nat) (D : Addr) (tb : TB) (more : Sem Unit) : Prop := ∀ (pins : List (Addr × Obj)) (s : Shared) (σ : L2.St) (H : Hp) (Nx : Hp → Prop), Inv B pins σ H s → tb D σ H Nx →
  wpAny (model B.prog B.w) B.A more (fun _ s' => ∃ σ' H', Inv B pins σ' H' s' ∧ Keeps vs σ σ' ∧ Nx H') noE s
def StartIs (M : Model) (A : Around) (e : Expr) (k : Nat) : Prop := ∀ {R : Result → Shared → Prop} {s : Shared} {it acc : Value} {env : Env}, codeAny M A (.compLoop e k it acc env) R s →
  wpAny M A (pyIter it) (fun it' s' => codeAny M A (.compLoop e k it' acc env) R s') (notedBy M A env fun x s' => R (.error x) s') s → codeAny M A (.compStart e k it acc env) R s
theorem dcG_core {e tg iter : Expr} {ifs : List Expr} {gs : List Comprehension} {scope : Scope} {own : List (Str × Nat)} {pos' : Pos} {wi : TI} {g : TG} {tt : TT} {tb : TB} {o0 : HO} {more : Addr → Env → Sem Unit} {pins : List (Addr × Obj)} {s : Shared} {σ : L2.St} {H : Hp} {Q : VK} {use : Option (Value → Sem Unit)} {Qf : Value → Shared → Prop}
    (hcl : clausesOf e = ⟨tg, iter, ifs, 0⟩ :: gs) (turnIs : ∀ it D ce, TurnIs (model X.prog X.w) X.A e 0 iter.pos tg ifs it (.ref D) ce (more D ce)) (startIs : StartIs (model X.prog X.w) X.A e 0)
    (bare : ∀ (H : Hp) (h : Heap), sysModules < h.objs.size → ObjOk X.prog X.w H (h.push { cls := .type "dict", data := .dict #[] }) h.objs.size o0)
    (hc : X.calm = true) (hN : X.N.Nodup) (I : Inv X pins σ H s) (hi : PI X tg iter wi) (ok : BlkOk X.N X.env.scope scope own)
    (hg : ∀ (s : Shared) (H : Hp) (C : Addr) (cl : List (Str × Addr)) (fp : List Addr), PG (X.blk s H scope (compEnvC scope cl C X.env) fp) tg g)
    (ht : ∀ (s : Shared) (H : Hp) (C : Addr) (cl : List (Str × Addr)) (fp : List Addr), PTs (X.blk s H scope (compEnvC scope cl C X.env) fp) ifs tt)
    (hb : ∀ (s : Shared) (H : Hp) (C : Addr) (cl : List (Str × Addr)) (fp : List Addr) (D : Addr), Behind (X.blk s H scope (compEnvC scope cl C X.env) fp) (own.map (·.2)) D tb (more D (compEnvC scope cl C X.env)))
    (hs : ∀ x, foldedSetIterable iter X.env x = pure x) (h : tDcG o0 wi g tt tb (own.map (·.2)) σ H Q)
    (out : ∀ D C s' m H', Inv X pins σ H' s' → Q (.ref D) H' → s'.heap.Ns C m → FpOk X pins H' C → compPost (model X.prog X.w) X.A X.xe use Qf (.ref D) C (.ok .next) s') :
    wpAny (model X.prog X.w) X.A (comprehension e scope X.env pos' newDict false (eval iter X.env) use) Qf X.xe s := by
  have around : ∀ y ∈ scope.names, y.2 = .free → ∃ c, X.env.cells.lookup y.1 = some c := fun y hy z => (ok.free y hy z).elim (fun k => I.ok.has _ (.inl k)) fun k => I.ok.has _ (.inr k)
  refine wpAny_comprehension_free (use := use) hcl hs (closure_ok around) ok.kind (fun y hy z => by rw [ok.uniq y hy, z]) (thn (hi.run pins s σ H _ I h) fun xv t1 k1 => thn k1 fun iv t2 k2 => ?_)
  obtain ⟨it, fps, tn, J, Ha, rfl, Ia, T, ta, fa, q⟩ := k2
  refine wpAny_newObj_type (newEnv_comp ?_)
  generalize eD : t2.heap.objs.size = D
  obtain ⟨W, ⟨m0, w0⟩, turn⟩ := q D (Ia.hok.fresh (Nat.le_of_eq eD))
  generalize eT : ({ t2 with heap := t2.heap.push { cls := .type "dict", data := .dict #[] } } : Shared) = t3
  have heT : t3.heap = t2.heap.push { cls := .type "dict", data := .dict #[] } := by rw [← eT]
  have Ib : Inv X pins σ (upd Ha D o0) t3 := by
    rw [← eT]
    refine Ia.laid (t' := t2.toks) (fun b o z => Heap.get?_push_of_some _ z) (Nat.le_of_eq eD) ?_
    rw [← eD]
    exact bare _ t2.heap Ia.big
  have fb : ∀ b ∈ fps, FpOk X pins (upd Ha D o0) b ∧ b < t3.heap.objs.size := fun b mb => by
    obtain ⟨o, z, _⟩ := T.obj _ _ ta b mb
    have lt := Heap.lt_size z
    have ne : b ≠ D := by rw [← eD]; exact Nat.ne_of_lt lt
    exact ⟨⟨by rw [upd_ne ne]; exact (fa b mb).1, (fa b mb).2⟩, by rw [heT, Heap.size_push]; exact Nat.lt_succ_of_lt lt⟩
  have tb3 : tn 0 t3.heap := T.keep _ _ _ ta fun b _ o z => by rw [heT]; exact Heap.get?_push_of_some _ z
  have Ic := block_start Ib ok hN fb
  generalize eC : cellsFrom (t3.heap.objs.size + 1) scope.names (cloFrom X.env.cells scope.names []) = cl at Ic ⊢
  have pg := hg t3 (upd Ha D o0) t3.heap.objs.size cl fps
  have pt := ht t3 (upd Ha D o0) t3.heap.objs.size cl fps
  have pb := hb t3 (upd Ha D o0) t3.heap.objs.size cl fps D
  show codeAny _ _ (.compStart e 0 (.ref it) (.ref D) (compEnvC scope cl t3.heap.objs.size X.env)) (compPost (model X.prog X.w) X.A X.xe use Qf (.ref D) t3.heap.objs.size) { t3 with heap := pushCells (t3.heap.push { cls := .type "dict", data := .dict #[] }) scope.names }
  have nfp : ∀ b ∈ fps, (upd Ha D o0) b = none := fun b mb => (fb b mb).1.1
  generalize eE : compEnvC scope cl t3.heap.objs.size X.env = ce at Ic pg pt pb ⊢
  have loc : ce.locals = t3.heap.objs.size := by subst eE; rfl
  generalize eH : upd Ha D o0 = Hb at Ib Ic pg pt pb w0 nfp fb
  generalize e4 : ({ t3 with heap := pushCells (t3.heap.push { cls := .type "dict", data := .dict #[] }) scope.names } : Shared) = t4 at Ic ⊢
  have ta4 : tn 0 t4.heap := T.keep _ _ _ tb3 fun b _ o z => by rw [← e4]; exact pushCells_keeps _ _ _ _ (Heap.get?_push_of_some _ z)
  have stands : ∀ {σ' : L2.St} {H' : Hp} {s' : Shared}, Inv (X.blk t3 Hb scope ce fps) [] σ' H' s' → (∀ b ∈ fps, H' b = none) → ∀ b ∈ fps, FpOk (X.blk t3 Hb scope ce fps) [] H' b := fun {σ' H' s'} I' hn b mb =>
    ⟨hn b mb, (I'.ok.exf b mb).1, I'.ok.exfs b mb, .inl mb, fun x c z => (I'.ok.exf b mb).2 x c z, fun p hp => by cases hp⟩
  have loop : codeAny (model X.prog X.w) X.A (.compLoop e 0 (.ref it) (.ref D) ce) (compPost (model X.prog X.w) X.A X.xe use Qf (.ref D) t3.heap.objs.size) t4 := by
    refine loop_clause (turnIs _ D ce) (fun n t => ∃ i H', Inv (X.blk t3 Hb scope ce fps) [] (wipe σ (own.map (·.2))) H' t ∧ tn i t.heap ∧ (∀ b ∈ fps, H' b = none) ∧ W i n H') ?_ m0 ⟨0, Hb, Ic, ta4, nfp, w0⟩
    rintro n t5 ⟨i, H5, I5, ta5, n5, w5⟩
    rcases turn i n H5 w5 with ⟨stop, qq⟩ | ⟨go, Nx, hNx, step⟩
    · refine thnF (T.done (X.blk t3 Hb scope ce fps) rfl rfl rfl hc i [] t5 _ H5 noE I5 (stands I5 n5) ta5 stop) fun r t6 ⟨er, I6⟩ => ?_
      subst er
      have I7 : Inv X pins σ H5 t6 := Ib.call' (ch := fps) I6.os I6.base I6.hok I6.bare fun b mb => ⟨(fb b mb).1.2.2.2.1, (fb b mb).1.2.1, (fb b mb).1.2.2.2.2.1, (fb b mb).1.2.2.2.2.2⟩
      have nC : H5 t3.heap.objs.size = none := by
        have z : H5 ce.locals = none := I6.free
        rwa [loc] at z
      obtain ⟨m, hm, _⟩ := I6.loc
      have hm : t6.heap.Ns ce.locals m := hm
      rw [loc] at hm
      exact out D t3.heap.objs.size t6 m H5 I7 qq hm (Ib.fpOk (Nat.le_refl _) nC)
    · refine thnF (T.item (X.blk t3 Hb scope ce fps) rfl rfl rfl hc i [] t5 _ H5 noE I5 (stands I5 n5) ta5 go) fun r t6 ⟨u, er, k6⟩ => ?_
      subst er
      refine thnF k6 fun _ t7 ⟨x, H7, I7, r7, y7, ta7, n7⟩ => thnF (pg.run _ t7 _ H7 x u _ (I7.pinned (stands I7 n7) (T.obj _ _ ta7)) r7 (step x H7 y7)) fun _ t8 ⟨σ8, H8, I8, hw8, q8⟩ => thnF (pt.run _ t8 σ8 H8 _ I8 q8) fun b t9 ⟨H9, I9, q9⟩ => ?_
      have ends : ∀ {σ9 : L2.St} {t : Shared} {H' : Hp}, Inv (X.blk t3 Hb scope ce fps) ([] ++ pinsAt fps t7.heap) σ9 H' t → Keeps (own.map (·.2)) σ8 σ9 → Nx H' →
          ∃ m, m < n ∧ ∃ i H', Inv (X.blk t3 Hb scope ce fps) [] (wipe σ (own.map (·.2))) H' t ∧ tn i t.heap ∧ (∀ b ∈ fps, H' b = none) ∧ W i m H' := fun {σ9 t H'} I' kp nx => by
        obtain ⟨m', lt, w'⟩ := hNx H' nx
        have pinned : ∀ b ∈ fps, ∀ o, t7.heap.get? b = some o → t.heap.get? b = some o ∧ H' b = none := fun b mb o z =>
          have p := I'.pin (b, o) (List.mem_append_right _ (List.mem_append_right _ (mem_pinsAt mb z)))
          ⟨p.1, p.2.1⟩
        refine ⟨m', lt, i + 1, H', (I'.unpinned (pins := [])).weak (by rw [kp.1, ← hw8, wipe_length]) (fun j v z => kp.2 j v (by rw [hw8]; exact z)), T.keep _ _ _ ta7 fun b mb o z => (pinned b mb o z).1, fun b mb => ?_, w'⟩
        obtain ⟨o, z, _⟩ := T.obj _ _ ta7 b mb
        exact (pinned b mb o z).2
      cases b with
      | false =>
        simp only [Bool.false_eq_true, if_false] at q9 ⊢
        exact ends I9 (keeps_self _ _) q9
      | true =>
        simp only [if_true] at q9 ⊢
        exact thnF (pb _ t9 σ8 H9 Nx I9 q9) fun _ t10 ⟨σ9, H10, I10, kp, nx⟩ => ends I10 kp nx
  exact startIs loop (T.self X.A 0 _ _ _ ta4 loop)
/-- as a value -/
theorem out_value {pins : List (Addr × Obj)} {σ : L2.St} {Q : VK} (D C : Addr) (s' : Shared) (m) (H' : Hp) (I' : Inv X pins σ H' s') (q : Q (.ref D) H') (hn : s'.heap.Ns C m) (f : FpOk X pins H' C) : compPost (model X.prog X.w) X.A X.xe none (EP X pins σ Q) (.ref D) C (.ok .next) s' := by
  obtain ⟨f0, f1, f2, f3, f4, f5⟩ := f
  exact ⟨m, hn, fun h'' sb => ⟨.ref D, H', I'.turned (t' := s'.toks) (fun b o nb z => (sb.2 b nb).trans z) f0 f1 f3 f4 f5, rfl, q⟩⟩
/-- stored to a name -/
theorem out_name {pins : List (Addr × Obj)} {σ : L2.St} {i : Nat} {y : Str} {py : Pos} {E : Ends} (hN : X.N.Nodup) (hy : X.N[i]? = some y) (hyl : X.env.scope.names.lookup y = some .local) (D C : Addr) (s' : Shared) (m) (H' : Hp) (I' : Inv X pins σ H' s')
    (q : gName i (.ref D) σ H' E.nx) (hn : s'.heap.Ns C m) (f : FpOk X pins H' C) : compPost (model X.prog X.w) X.A X.xe (some (assign (.Name y py) X.env)) (fun _ s' => SP X pins E .next s') (.ref D) C (.ok .next) s' := by
  show wpAny _ _ (assign (.Name y py) X.env (.ref D)) _ _ _
  refine wpAny_assign_Name (store_ok2 (v := V.ref D) I' hN hy (.inl hyl) rfl (fun s2 I2 ⟨a, sb, ha⟩ => ?_) (.inr hyl))
  obtain ⟨f0, f1, f2, f3, f4, f5⟩ := f
  have nC : C ≠ a := ha.elim (fun z => by rw [z]; exact f1) fun z e => f4 y a z e.symm
  exact ⟨m, hn.sameBut sb nC, fun h3 sb3 => ⟨_, H', I2.turned (t' := s2.toks) (fun b o nb e => (sb3.2 b nb).trans e) f0 f1 f3 f4 f5, q⟩⟩
theorem sw_dict {kx vx : Expr} {gs : List Comprehension} {scope : Scope} {pos py : Pos} {y : Str} {l : Nat} {env : Env} (hk : env.scope.kind = .function) (hy : env.scope.names.lookup y = some .local) (hl : (py.line == pos.line) = true)
    (ha : (scope.names.any fun (n, k) => n == y && (k == .local || k == .cell)) = false) : swapsWith (.DictComp kx vx gs scope pos) (some (.Name y py)) l env = pure true := by
  have ky : env.kindOf y = some .local := hy
  have hb : env.blockKind = .function := by unfold Env.blockKind; rw [hk]; rfl
  unfold swapsWith
  simp only [hb, ky, ha, Expr.pos, hl]
  rfl
/-- a value at its key -/
def tbPut (tk tv : TE) : TB := fun D σ H Nx => tk σ H fun y H1 => tv σ H1 fun z H2 => ∃ H3, DPut H2 D y z H3 ∧ Nx H3
def put1 (kx vx : Expr) (D : Addr) (env : Env) : Sem Unit := do
  let kv ← eval kx env
  let vv ← holding [kv] (eval vx env)
  standAt { kx.pos with endLine := vx.pos.endLine, endCol := vx.pos.endCol }
  holding [kv, vv] (dictSet D kv vv)
theorem behind_put {B : Cx} {kx vx : Expr} {tk tv : TE} {vs : List Nat} {D : Addr} (hk : PE B kx tk) (hv : PE B vx tv) (hx : B.xe = noE) (hu : B.A.units + 1 < cLine) : Behind B vs D (tbPut tk tv) (put1 kx vx D B.env) := by
  intro pins s σ H Nx I q
  have pk := hk.run pins s σ H _ I q
  rw [hx] at pk
  refine wpAny_bind (thnF pk fun kv s1 ⟨y, H1, I1, r1, q1⟩ => ?_)
  have pv := hv.run pins s1 σ H1 _ I1 q1
  rw [hx] at pv
  refine wpAny_bind (wpAny_holding (thnF pv fun vv s2 ⟨z, H2, I2, r2, H3, g3, nx⟩ => ?_))
  exact wpAny_bind (wpAny_standAt (wpAny_holding (put_dict hu I2 g3 r1 r2 fun s3 I3 => ⟨σ, H3, I3, keeps_self _ _, nx⟩)))
/-- one clause, keys as DPut has them -/
theorem pe_dcT {kx vx tg iter : Expr} {ifs : List Expr} {scope : Scope} {own : List (Str × Nat)} {pos : Pos} {wi : TI} {g : TG} {tt : TT} {tk tv : TE} (hu : X.A.units + 1 < cLine) (hc : X.calm = true) (hN : X.N.Nodup) (hi : PI X tg iter wi) (ok : BlkOk X.N X.env.scope scope own)
    (hg : ∀ (s : Shared) (H : Hp) (C : Addr) (cl : List (Str × Addr)) (fp : List Addr), PG (X.blk s H scope (compEnvC scope cl C X.env) fp) tg g)
    (ht : ∀ (s : Shared) (H : Hp) (C : Addr) (cl : List (Str × Addr)) (fp : List Addr), PTs (X.blk s H scope (compEnvC scope cl C X.env) fp) ifs tt)
    (hk : ∀ (s : Shared) (H : Hp) (C : Addr) (cl : List (Str × Addr)) (fp : List Addr), PE (X.blk s H scope (compEnvC scope cl C X.env) fp) kx tk)
    (hv : ∀ (s : Shared) (H : Hp) (C : Addr) (cl : List (Str × Addr)) (fp : List Addr), PE (X.blk s H scope (compEnvC scope cl C X.env) fp) vx tv) (hs : ∀ x, foldedSetIterable iter X.env x = pure x := by intro _; rfl) :
    PE X (.DictComp kx vx [⟨tg, iter, ifs, 0⟩] scope pos) (tDcG (.dT []) wi g tt (tbPut tk tv) (own.map (·.2))) := by
  refine ⟨fun pins s σ H Q I h => ?_⟩
  rw [arm_eval_DictComp]
  refine dcG_core (more := fun D ce => put1 kx vx D ce) rfl (fun it D ce => ⟨rfl, fun Q E s h => ?_⟩) (fun h0 h => codeAny_compStart_dict h0 h) (fun H h b => dt_empty h b) hc hN I hi ok hg ht (fun s H C cl fp D => behind_put (hk s H C cl fp) (hv s H C cl fp) rfl hu) hs h out_value
  show wpAny _ X.A ((compTurn _ 0 it (.ref D) ce).onRaise _) _ _ s
  rw [compTurn_dict]
  exact h
theorem ps_setDcT {i : Nat} {y : Str} {py : Pos} {kx vx tg iter : Expr} {ifs : List Expr} {scope : Scope} {own : List (Str × Nat)} {pos spos : Pos} {wi : TI} {g : TG} {tt : TT} {tk tv : TE} (hu : X.A.units + 1 < cLine) (hc : X.calm = true) (hN : X.N.Nodup) (hy : X.N[i]? = some y) (hyl : X.env.scope.names.lookup y = some .local)
    (hsw : swapsWith (.DictComp kx vx [⟨tg, iter, ifs, 0⟩] scope pos) (some (.Name y py)) spos.line X.env = pure true) (hi : PI X tg iter wi) (ok : BlkOk X.N X.env.scope scope own)
    (hg : ∀ (s : Shared) (H : Hp) (C : Addr) (cl : List (Str × Addr)) (fp : List Addr), PG (X.blk s H scope (compEnvC scope cl C X.env) fp) tg g)
    (ht : ∀ (s : Shared) (H : Hp) (C : Addr) (cl : List (Str × Addr)) (fp : List Addr), PTs (X.blk s H scope (compEnvC scope cl C X.env) fp) ifs tt)
    (hk : ∀ (s : Shared) (H : Hp) (C : Addr) (cl : List (Str × Addr)) (fp : List Addr), PE (X.blk s H scope (compEnvC scope cl C X.env) fp) kx tk)
    (hv : ∀ (s : Shared) (H : Hp) (C : Addr) (cl : List (Str × Addr)) (fp : List Addr), PE (X.blk s H scope (compEnvC scope cl C X.env) fp) vx tv) (hs : ∀ x, foldedSetIterable iter X.env x = pure x := by intro _; rfl) :
    PS X (.Assign [.Name y py] (.DictComp kx vx [⟨tg, iter, ifs, 0⟩] scope pos) spos) (tAsg (tDcG (.dT []) wi g tt (tbPut tk tv) (own.map (·.2))) (gName i)) := by
  refine ⟨fun pins s σ H D I h => ?_⟩
  rw [exec_Assign_Name_used _ _ _ _ hsw]
  refine wpAny_bind (wpAny_standAt (wpAny_bind ?_))
  show wpAny _ X.A (do let _ ← comprehension (.DictComp kx vx [⟨tg, iter, ifs, 0⟩] scope pos) scope X.env (firstIterPos [⟨tg, iter, ifs, 0⟩] pos) newDict false (eval iter X.env) (some (assign (.Name y py) X.env))) _ _ s
  have h : tDcG (.dT []) wi g tt (tbPut tk tv) (own.map (·.2)) σ H (fun x H1 => gName i x σ H1 D.nx) := h
  refine wpAny_bind (thn (dcG_core (Qf := fun _ s' => SP X pins D .next s') (more := fun D ce => put1 kx vx D ce) rfl (fun it D ce => ⟨rfl, fun Q E s h => ?_⟩) (fun h0 h => codeAny_compStart_dict h0 h) (fun H h b => dt_empty h b) hc hN I hi ok hg ht (fun s H C cl fp D => behind_put (hk s H C cl fp) (hv s H C cl fp) rfl hu) hs h (out_name hN hy hyl)) fun _ s' hq => wpAny_pure (wpAny_pure hq))
  show wpAny _ X.A ((compTurn _ 0 it (.ref D) ce).onRaise _) _ _ s
  rw [compTurn_dict]
  exact h
/-! ### two clauses -/
def tbTwo (wi1 : TI) (g1 : TG) (tt1 : TT) (tb : TB) (vs1 : List Nat) : TB := fun D σ H Nx => wi1 σ H fun J H4 => ∃ W : Nat → Nat → Hp → Prop, (∃ m, W 0 m H4) ∧ ∀ j k H, W j k H →
  (J.stop j H ∧ Nx H) ∨ (J.go j H ∧ ∃ Nx1 : Hp → Prop, (∀ H', Nx1 H' → ∃ k', k' < k ∧ W (j + 1) k' H') ∧ ∀ x H', J.yld j H x H' → g1 x (wipe σ vs1) H' fun σ3 H5 => wipe σ3 vs1 = wipe σ vs1 ∧ tt1 σ3 H5 fun b H6 =>
    if b = true then tb D σ3 H6 Nx1 else Nx1 H6)
def again1 (e i1 : Expr) (D : Addr) (env : Env) : Sem Unit := do
  let x ← eval i1 env
  standAt i1.pos
  let x ← foldedSetIterable i1 env x
  let _ ← runOwn (.compStart e 1 (← holding [x] (pyIter x)) (.ref D) env) env
theorem wipe_other {σ : L2.St} {i : Nat} {vs : List Nat} (h : i ∉ vs) : (wipe σ vs)[i]? = σ[i]? := wipe_out h
theorem behind_two {B : Cx} {e i1 tg1 : Expr} {ifs1 : List Expr} {wi1 : TI} {g1 : TG} {tt1 : TT} {tb : TB} {vs vs1 : List Nat} {D : Addr} {more : Sem Unit} (hc : B.calm = true) (hi : PI B tg1 i1 wi1) (hg : PG B tg1 g1) (ht : PTs B ifs1 tt1) (hb : Behind B vs1 D tb more) (hx : B.xe = noE) (hv : ∀ i ∈ vs1, i ∈ vs)
    (turnIs : ∀ it, TurnIs (model B.prog B.w) B.A e 1 i1.pos tg1 ifs1 it (.ref D) B.env more) (startIs : StartIs (model B.prog B.w) B.A e 1) (hs : ∀ x, foldedSetIterable i1 B.env x = pure x) : Behind B vs D (tbTwo wi1 g1 tt1 tb vs1) (again1 e i1 D B.env) := by
  intro pins s σ H Nx I q
  have pi := hi.run pins s σ H _ I q
  rw [hx] at pi
  refine wpAny_bind (thnF pi fun xv s1 h1 => wpAny_bind (wpAny_standAt (wpAny_bind (wpAny_of_eq (hs xv) (wpAny_bind (wpAny_holding (thnF h1 fun iv s2 h2 => ?_)))))))
  obtain ⟨it, fps, tn, J, H2, rfl, I2, T, ta, fa, W, ⟨m0, w0⟩, turn⟩ := h2
  have stands : ∀ {H' : Hp}, (∀ b ∈ fps, H' b = none) → ∀ b ∈ fps, FpOk B pins H' b := fun hn b mb => ⟨hn b mb, (fa b mb).2⟩
  have back : ∀ {σ' : L2.St}, σ' = wipe σ vs1 → Keeps vs σ σ' := fun {σ'} e => by
    subst e
    refine ⟨wipe_length _ _, fun j v z => ?_⟩
    obtain ⟨z1, z2⟩ := wipe_some z
    rw [wipe_other fun y => z2 (hv j y)]
    exact z1
  have loop : codeAny (model B.prog B.w) B.A (.compLoop e 1 (.ref it) (.ref D) B.env) (fun r s' => match r with
      | .ok _ => ∃ σ' H', Inv B pins σ' H' s' ∧ Keeps vs σ σ' ∧ Nx H'
      | .error _ => False) s2 := by
    refine loop_clause (turnIs _) (fun k t => ∃ j H', Inv B pins (wipe σ vs1) H' t ∧ tn j t.heap ∧ (∀ b ∈ fps, H' b = none) ∧ W j k H') ?_ m0 ⟨0, H2, I2.weak (wipe_length _ _) (fun j v z => (wipe_some z).1), ta, fun b mb => (fa b mb).1, w0⟩
    rintro k t5 ⟨j, H5, I5, ta5, n5, w5⟩
    rcases turn j k H5 w5 with ⟨stop, nx⟩ | ⟨go, Nx1, hNx, step⟩
    · refine thnF (T.done B rfl rfl rfl hc j _ t5 _ H5 noE I5 (stands n5) ta5 stop) fun r t6 ⟨er, I6⟩ => ?_
      subst er
      exact ⟨_, H5, I6, back rfl, nx⟩
    · refine thnF (T.item B rfl rfl rfl hc j _ t5 _ H5 noE I5 (stands n5) ta5 go) fun r t6 ⟨u, er, k6⟩ => ?_
      subst er
      refine thnF k6 fun _ t7 ⟨x, H7, I7, r7, y7, ta7, n7⟩ => ?_
      have pg := hg.run _ t7 _ H7 x u _ (I7.pinned (stands n7) (T.obj _ _ ta7)) r7 (step x H7 y7)
      rw [hx] at pg
      refine thnF pg fun _ t8 ⟨σ8, H8, I8, hw8, q8⟩ => ?_
      have pt := ht.run _ t8 σ8 H8 _ I8 q8
      rw [hx] at pt
      refine thnF pt fun b t9 ⟨H9, I9, q9⟩ => ?_
      have ends : ∀ {σ9 : L2.St} {t : Shared} {H' : Hp}, Inv B (pins ++ pinsAt fps t7.heap) σ9 H' t → Keeps vs1 σ8 σ9 → Nx1 H' → ∃ m, m < k ∧ ∃ j H', Inv B pins (wipe σ vs1) H' t ∧ tn j t.heap ∧ (∀ b ∈ fps, H' b = none) ∧ W j m H' := fun {σ9 t H'} I' kp nx => by
        obtain ⟨m', lt, w'⟩ := hNx H' nx
        have pinned : ∀ b ∈ fps, ∀ o, t7.heap.get? b = some o → t.heap.get? b = some o ∧ H' b = none := fun b mb o z =>
          have p := I'.pin (b, o) (List.mem_append_right _ (List.mem_append_right _ (mem_pinsAt mb z)))
          ⟨p.1, p.2.1⟩
        refine ⟨m', lt, j + 1, H', I'.unpinned.weak (by rw [kp.1, wipe_length, ← wipe_length σ8 vs1, hw8, wipe_length]) (fun i v z => kp.2 i v (by rw [hw8]; exact z)), T.keep _ _ _ ta7 fun b mb o z => (pinned b mb o z).1, fun b mb => ?_, w'⟩
        obtain ⟨o, z, _⟩ := T.obj _ _ ta7 b mb
        exact (pinned b mb o z).2
      cases b with
      | false =>
        simp only [Bool.false_eq_true, if_false] at q9 ⊢
        exact ends I9 (keeps_self _ _) q9
      | true =>
        simp only [if_true] at q9 ⊢
        exact thnF (hb _ t9 σ8 H9 Nx1 I9 q9) fun _ t10 ⟨σ9, H10, I10, kp, nx⟩ => ends I10 kp nx
  have start := startIs loop (T.self B.A 0 _ _ _ ta loop)
  refine wpAny_bind (wpAny_runOwn ?_)
  rw [Around.mark_none]
  refine codeAny_mono start fun r s' hr => ?_
  cases r with
  | ok f => exact wpAny_pure hr
  | error e => exact hr.elim
theorem turn2_eq {kx vx tg iter tg1 iter1 : Expr} {ifs ifs1 : List Expr} {scope : Scope} {pos : Pos} {it : Value} {D : Addr} {ce : Env} : compTurn (.DictComp kx vx [⟨tg, iter, ifs, 0⟩, ⟨tg1, iter1, ifs1, 0⟩] scope pos) 0 it (.ref D) ce = (do
      standAt iter.pos
      match ← pyNext it with
      | none => pure (.done .next)
      | some v =>
        letOwnedTupleGo tg it v
        assign tg ce v
        let mut ok := true
        for c in ifs do
          if ok then ok ← isTrue c ce (eval c ce)
        if ok then
          again1 (.DictComp kx vx [⟨tg, iter, ifs, 0⟩, ⟨tg1, iter1, ifs1, 0⟩] scope pos) iter1 D ce
        again (.compLoop (.DictComp kx vx [⟨tg, iter, ifs, 0⟩, ⟨tg1, iter1, ifs1, 0⟩] scope pos) 0 it (.ref D) ce)) := by
  unfold again1
  simp only [bind_assoc, pure_bind]
  rfl
theorem turn_out {prog : Program} {w : World} {A : Around} {kx vx tg iter tg1 iter1 : Expr} {ifs ifs1 : List Expr} {scope : Scope} {pos : Pos} {it : Value} {D : Addr} {ce : Env} : TurnIs (model prog w) A (.DictComp kx vx [⟨tg, iter, ifs, 0⟩, ⟨tg1, iter1, ifs1, 0⟩] scope pos) 0 iter.pos tg ifs it (.ref D) ce (again1 (.DictComp kx vx [⟨tg, iter, ifs, 0⟩, ⟨tg1, iter1, ifs1, 0⟩] scope pos) iter1 D ce) := by
  refine ⟨rfl, fun Q E s h => ?_⟩
  show wpAny _ A ((compTurn _ 0 it (.ref D) ce).onRaise _) _ _ s
  rw [turn2_eq]
  exact h
theorem turn_in {prog : Program} {w : World} {A : Around} {kx vx tg iter tg1 iter1 : Expr} {ifs ifs1 : List Expr} {scope : Scope} {pos : Pos} {it : Value} {D : Addr} {ce : Env} : TurnIs (model prog w) A (.DictComp kx vx [⟨tg, iter, ifs, 0⟩, ⟨tg1, iter1, ifs1, 0⟩] scope pos) 1 iter1.pos tg1 ifs1 it (.ref D) ce (put1 kx vx D ce) := by
  refine ⟨rfl, fun Q E s h => ?_⟩
  show wpAny _ A ((compTurn _ 1 it (.ref D) ce).onRaise _) _ _ s
  exact h
theorem start_in {prog : Program} {w : World} {A : Around} {kx vx tg iter tg1 iter1 : Expr} {ifs ifs1 : List Expr} {scope : Scope} {pos : Pos} : StartIs (model prog w) A (.DictComp kx vx [⟨tg, iter, ifs, 0⟩, ⟨tg1, iter1, ifs1, 0⟩] scope pos) 1 := by
  intro R s it acc env h0 h
  refine codeAny_of_tree ?_
  show wpAny _ A ((compStart (.DictComp kx vx [⟨tg, iter, ifs, 0⟩, ⟨tg1, iter1, ifs1, 0⟩] scope pos) 1 it acc env).onRaise (fun x => do noteFrame x env; standAt theWindowsPlace)) _ _ s
  refine wpAny_notedAt ?_
  unfold compStart
  show wpAny _ A (ask >>= _) _ _ s
  refine wpAny_bind (wpAny_askSetting (wpAny_ite ?_))
  split
  · first
      | exact wpAny_bind (wpAny_pure (wpAny_pure (And.intro rfl h0)))
      | exact wpAny_pure (And.intro rfl h0)
  · first
      | exact wpAny_bind (wpAny_rule (wpAny_bind (wpAny_standAt (wpAny_bind (wpAny_mono h (fun jt s' h' => wpAny_pure (And.intro rfl h')) fun _ _ z => z)))))
      | (refine wpAny_bind (wpAny_rule ?_); show wpAny _ A (standAt iter1.pos >>= _) _ _ s; exact wpAny_bind (wpAny_standAt (wpAny_bind (wpAny_mono h (fun jt s' h' => wpAny_pure (And.intro rfl h')) fun _ _ z => z))))
/-- two clauses; o0: the empty dict, of the kind that is wanted -/
theorem pe_dc2 {kx vx tg iter tg1 iter1 : Expr} {ifs ifs1 : List Expr} {scope : Scope} {own : List (Str × Nat)} {vs1 : List Nat} {pos : Pos} {wi wi1 : TI} {g g1 : TG} {tt tt1 : TT} {tk tv : TE} (hu : X.A.units + 1 < cLine) (hc : X.calm = true) (hN : X.N.Nodup) (hi : PI X tg iter wi) (ok : BlkOk X.N X.env.scope scope own) (hv1 : ∀ i ∈ vs1, i ∈ own.map (·.2))
    (hg : ∀ (s : Shared) (H : Hp) (C : Addr) (cl : List (Str × Addr)) (fp : List Addr), PG (X.blk s H scope (compEnvC scope cl C X.env) fp) tg g)
    (ht : ∀ (s : Shared) (H : Hp) (C : Addr) (cl : List (Str × Addr)) (fp : List Addr), PTs (X.blk s H scope (compEnvC scope cl C X.env) fp) ifs tt)
    (hi1 : ∀ (s : Shared) (H : Hp) (C : Addr) (cl : List (Str × Addr)) (fp : List Addr), PI (X.blk s H scope (compEnvC scope cl C X.env) fp) tg1 iter1 wi1)
    (hg1 : ∀ (s : Shared) (H : Hp) (C : Addr) (cl : List (Str × Addr)) (fp : List Addr), PG (X.blk s H scope (compEnvC scope cl C X.env) fp) tg1 g1)
    (ht1 : ∀ (s : Shared) (H : Hp) (C : Addr) (cl : List (Str × Addr)) (fp : List Addr), PTs (X.blk s H scope (compEnvC scope cl C X.env) fp) ifs1 tt1)
    (hk : ∀ (s : Shared) (H : Hp) (C : Addr) (cl : List (Str × Addr)) (fp : List Addr), PE (X.blk s H scope (compEnvC scope cl C X.env) fp) kx tk)
    (hv : ∀ (s : Shared) (H : Hp) (C : Addr) (cl : List (Str × Addr)) (fp : List Addr), PE (X.blk s H scope (compEnvC scope cl C X.env) fp) vx tv) (hs : ∀ x, foldedSetIterable iter X.env x = pure x := by intro _; rfl) (hs1 : ∀ env x, foldedSetIterable iter1 env x = pure x := by intro _ _; rfl) :
    PE X (.DictComp kx vx [⟨tg, iter, ifs, 0⟩, ⟨tg1, iter1, ifs1, 0⟩] scope pos) (tDcG (.dK []) wi g tt (tbTwo wi1 g1 tt1 (tbPut tk tv) vs1) (own.map (·.2))) := by
  refine ⟨fun pins s σ H Q I h => ?_⟩
  rw [arm_eval_DictComp]
  exact dcG_core (more := fun D ce => again1 _ iter1 D ce) rfl (fun it D ce => turn_out) (fun h0 h => codeAny_compStart_dict h0 h) (fun H h b => dk_empty h b) hc hN I hi ok hg ht (fun s H C cl fp D => behind_two hc (hi1 s H C cl fp) (hg1 s H C cl fp) (ht1 s H C cl fp) (behind_put (hk s H C cl fp) (hv s H C cl fp) rfl hu) rfl hv1 (fun it => turn_in) start_in (hs1 _)) hs h out_value
theorem ps_setDc2 {i : Nat} {y : Str} {py : Pos} {kx vx tg iter tg1 iter1 : Expr} {ifs ifs1 : List Expr} {scope : Scope} {own : List (Str × Nat)} {vs1 : List Nat} {pos spos : Pos} {wi wi1 : TI} {g g1 : TG} {tt tt1 : TT} {tk tv : TE} (hu : X.A.units + 1 < cLine) (hc : X.calm = true) (hN : X.N.Nodup) (hy : X.N[i]? = some y) (hyl : X.env.scope.names.lookup y = some .local)
    (hsw : swapsWith (.DictComp kx vx [⟨tg, iter, ifs, 0⟩, ⟨tg1, iter1, ifs1, 0⟩] scope pos) (some (.Name y py)) spos.line X.env = pure true) (hi : PI X tg iter wi) (ok : BlkOk X.N X.env.scope scope own) (hv1 : ∀ i ∈ vs1, i ∈ own.map (·.2))
    (hg : ∀ (s : Shared) (H : Hp) (C : Addr) (cl : List (Str × Addr)) (fp : List Addr), PG (X.blk s H scope (compEnvC scope cl C X.env) fp) tg g)
    (ht : ∀ (s : Shared) (H : Hp) (C : Addr) (cl : List (Str × Addr)) (fp : List Addr), PTs (X.blk s H scope (compEnvC scope cl C X.env) fp) ifs tt)
    (hi1 : ∀ (s : Shared) (H : Hp) (C : Addr) (cl : List (Str × Addr)) (fp : List Addr), PI (X.blk s H scope (compEnvC scope cl C X.env) fp) tg1 iter1 wi1)
    (hg1 : ∀ (s : Shared) (H : Hp) (C : Addr) (cl : List (Str × Addr)) (fp : List Addr), PG (X.blk s H scope (compEnvC scope cl C X.env) fp) tg1 g1)
    (ht1 : ∀ (s : Shared) (H : Hp) (C : Addr) (cl : List (Str × Addr)) (fp : List Addr), PTs (X.blk s H scope (compEnvC scope cl C X.env) fp) ifs1 tt1)
    (hk : ∀ (s : Shared) (H : Hp) (C : Addr) (cl : List (Str × Addr)) (fp : List Addr), PE (X.blk s H scope (compEnvC scope cl C X.env) fp) kx tk)
    (hv : ∀ (s : Shared) (H : Hp) (C : Addr) (cl : List (Str × Addr)) (fp : List Addr), PE (X.blk s H scope (compEnvC scope cl C X.env) fp) vx tv) (hs : ∀ x, foldedSetIterable iter X.env x = pure x := by intro _; rfl) (hs1 : ∀ env x, foldedSetIterable iter1 env x = pure x := by intro _ _; rfl) :
    PS X (.Assign [.Name y py] (.DictComp kx vx [⟨tg, iter, ifs, 0⟩, ⟨tg1, iter1, ifs1, 0⟩] scope pos) spos) (tAsg (tDcG (.dK []) wi g tt (tbTwo wi1 g1 tt1 (tbPut tk tv) vs1) (own.map (·.2))) (gName i)) := by
  refine ⟨fun pins s σ H D I h => ?_⟩
  rw [exec_Assign_Name_used _ _ _ _ hsw]
  refine wpAny_bind (wpAny_standAt (wpAny_bind ?_))
  show wpAny _ X.A (do let _ ← comprehension (.DictComp kx vx [⟨tg, iter, ifs, 0⟩, ⟨tg1, iter1, ifs1, 0⟩] scope pos) scope X.env (firstIterPos [⟨tg, iter, ifs, 0⟩, ⟨tg1, iter1, ifs1, 0⟩] pos) newDict false (eval iter X.env) (some (assign (.Name y py) X.env))) _ _ s
  have h : tDcG (.dK []) wi g tt (tbTwo wi1 g1 tt1 (tbPut tk tv) vs1) (own.map (·.2)) σ H (fun x H1 => gName i x σ H1 D.nx) := h
  exact wpAny_bind (thn (dcG_core (Qf := fun _ s' => SP X pins D .next s') (more := fun D ce => again1 _ iter1 D ce) rfl (fun it D ce => turn_out) (fun h0 h => codeAny_compStart_dict h0 h) (fun H h b => dk_empty h b) hc hN I hi ok hg ht (fun s H C cl fp D => behind_two hc (hi1 s H C cl fp) (hg1 s H C cl fp) (ht1 s H C cl fp) (behind_put (hk s H C cl fp) (hv s H C cl fp) rfl hu) rfl hv1 (fun it => turn_in) start_in (hs1 _)) hs h (out_name hN hy hyl)) fun _ s' hq => wpAny_pure (wpAny_pure hq))
end
end My
/-! sorted(xs) by data: what is told does not hang on the sequence -/
namespace My
open PySem PySem.W L2 PyProof.Rows
/-- how items are read as data that may be set in sequence: tuples, alike, no two of them equal -/
structure EncOk {α : Type} (enc : α → PyData) : Prop where
  al : ∀ a b, alike (enc a) (enc b) = true
  inj : ∀ a b, PyData.eqv (enc a) (enc b) = true → a = b
  tup : ∀ a, ∃ x r, enc a = .tuple (x :: r)
  deep : ∀ a, (enc a).depth ≤ 8
theorem toks_inj {x y : PyData} (h : alike x y = true) (e : keyToks x = keyToks y) : PyData.eqv x y = true := by
  cases c : PyData.eqv x y with
  | true => rfl
  | false =>
    have h2 := (toks_eqv x y h).2 c [] [.inl 0]
    rw [e, lex_pre] at h2
    have h3 : PyProof.Rows.lexLt itemOrd (keyToks y) (keyToks y) = false := lex_irrefl _
    rw [h3] at h2
    exact absurd h2 (by decide)
section
variable {α : Type} {enc : α → PyData}
def sortE (enc : α → PyData) (A : List α) : List α := A.mergeSort (dataLe false enc)
theorem sortE_perm (A : List α) : (sortE enc A).Perm A := List.mergeSort_perm _ _
theorem sortE_mem {A : List α} {x : α} : x ∈ sortE enc A ↔ x ∈ A := (sortE_perm A).mem_iff
theorem sortE_map (A : List α) : (A.map enc).mergeSort (dataLe false id) = (sortE enc A).map enc := (List.map_mergeSort (f := enc) (r := dataLe false enc) (s := dataLe false id) (l := A) (fun a _ b _ => rfl)).symm
theorem le_def (a b : α) : dataLe false enc a b = !dataLt (enc b) (enc a) := rfl
theorem le_total' (a b : α) : (dataLe false enc a b || dataLe false enc b a) = true := by
  rw [le_def, le_def]
  cases h1 : dataLt (enc b) (enc a) with
  | false => rfl
  | true =>
    cases h2 : dataLt (enc a) (enc b) with
    | false => rfl
    | true =>
      have := lex_trans (O := itemOrd) _ _ _ h1 h2
      rw [show PyProof.Rows.lexLt itemOrd (keyToks (enc b)) (keyToks (enc b)) = false from lex_irrefl _] at this
      cases this
theorem le_trans' (a b c : α) (h : dataLe false enc a b = true) (k : dataLe false enc b c = true) : dataLe false enc a c = true := by
  rw [le_def] at h k ⊢
  cases e : dataLt (enc c) (enc a) with
  | false => rfl
  | true =>
    rcases lex_negTrans (O := itemOrd) _ (keyToks (enc b)) _ e with z | z
    · rw [show dataLt (enc c) (enc b) = true from z] at k
      cases k
    · rw [show dataLt (enc b) (enc a) = true from z] at h
      cases h
theorem le_antisymm' (E : EncOk enc) (a b : α) (h : dataLe false enc a b = true) (k : dataLe false enc b a = true) : a = b := by
  rw [le_def] at h k
  refine E.inj a b (toks_inj (E.al a b) (lex_total (O := itemOrd) _ _ ?_ ?_))
  · simpa [dataLt] using k
  · simpa [dataLt] using h
theorem sortE_eq (E : EncOk enc) {A B : List α} (h : A.Perm B) : sortE enc A = sortE enc B := by
  have hA : (sortE enc A).Pairwise fun a b => dataLe false enc a b = true := List.pairwise_mergeSort le_trans' le_total' A
  have hB : (sortE enc B).Pairwise fun a b => dataLe false enc a b = true := List.pairwise_mergeSort le_trans' le_total' B
  exact (((sortE_perm A).trans h).trans (sortE_perm B).symm).eq_of_pairwise (fun a b _ _ => le_antisymm' E a b) hA hB
theorem paired_at {β : Type} {F : Addr → β → Prop} : ∀ {ts : List Addr} {L : List β}, Paired F ts L → ∀ {j : Nat} {z : V}, (ts.map V.ref)[j]? = some z → ∃ p b, z = .ref p ∧ p ∈ ts ∧ L[j]? = some b ∧ F p b
  | _, _, .nil, _, _, h => by simp at h
  | _, _, .cons r _, 0, _, h => by
    cases h
    exact ⟨_, _, rfl, List.mem_cons_self, rfl, r⟩
  | _, _, .cons _ t, j + 1, _, h => by
    obtain ⟨p, b, e, m, k1, k2⟩ := paired_at t (j := j) (by simpa using h)
    exact ⟨p, b, e, List.mem_cons_of_mem _ m, by simpa using k1, k2⟩
theorem sorted_pick {F : Addr → α → Prop} (inj : ∀ a b, enc a = enc b → a = b) {ts : List Addr} {A : List α} (hP : Paired F ts A) : ∀ {zs : List V} {M : List α}, Paired (fun (z : V) (d : PyData) => ∃ j : Nat, (ts.map V.ref)[j]? = some z ∧ (A.map enc)[j]? = some d) zs (M.map enc) → ∃ us : List Addr, zs = us.map V.ref ∧ Paired F us M ∧ ∀ u ∈ us, u ∈ ts
  | _, [], .nil => ⟨[], rfl, .nil, fun _ h => by cases h⟩
  | _, m :: M, .cons h t => by
    obtain ⟨us, rfl, hu, hm⟩ := sorted_pick inj hP t
    obtain ⟨j, h1, h2⟩ := h
    obtain ⟨p, e, rfl, hp, he, hf⟩ := paired_at hP h1
    rw [List.getElem?_map, he] at h2
    have h3 := inj _ _ (Option.some.inj h2)
    subst h3
    exact ⟨p :: us, rfl, .cons hf hu, fun u z => (List.mem_cons.mp z).elim (fun z => z ▸ hp) (hm u)⟩
theorem eqv_refl_of {x y : PyData} (h : alike x y = true) (e : x = y) : PyData.eqv x y = true := toks_inj h (by rw [e])
theorem dpAll_of {K : PySem.W.Frag} {H : Hp} {F : Addr → α → Prop} (hd : ∀ p e, F p e → Dp K H (.ref p) (enc e)) : ∀ {ts : List Addr} {A : List α}, Paired F ts A → DpAll K H (ts.map V.ref) (A.map enc)
  | _, _, .nil => .nil
  | _, _, .cons r t => .cons (hd _ _ r) (dpAll_of hd t)
theorem pairedP_len {β : Type} {F : Addr → β → Prop} : ∀ {ts : List Addr} {L : List β}, Paired F ts L → ts.length = L.length
  | _, _, .nil => rfl
  | _, _, .cons _ t => congrArg Nat.succ (pairedP_len t)
/-- sorted(xs), read -/
theorem sort_read {K : PySem.W.Frag} {H : Hp} {l : Addr} {F : Addr → α → Prop} {ts : List Addr} {A : List α} {Q : VK} (E : EncOk enc) (hl : SqL K H l (ts.map V.ref)) (hP : Paired F ts A) (hd : ∀ p e, F p e → Dp K H (.ref p) (enc e)) (hlen : A.length ≤ 100000)
    (q : ∀ (us : List Addr) (p : Addr), Paired F us (sortE enc A) → (∀ u ∈ us, u ∈ ts) → H p = none → Q (.ref p) (upd H p (.lst (us.map V.ref)))) : rSortD K [.ref l] H Q := by
  refine ⟨l, _, A.map enc, rfl, hl, dpAll_of hd hP, AllAlike.of E.al, Sortable.tuples E.tup, fun d hdm => ?_, by rw [List.length_map, pairedP_len hP]; exact hlen, fun zs p hz np => ?_⟩
  · obtain ⟨a, _, rfl⟩ := List.mem_map.mp hdm
    exact E.deep a
  · rw [sortE_map] at hz
    obtain ⟨us, rfl, h1, h2⟩ := sorted_pick (fun a b e => E.inj a b (eqv_refl_of (E.al a b) e)) hP hz
    exact q us p h1 h2 np
end
/-- == and != of data within a comprehension -/
theorem op_eqDK {X : Cx} {K : PySem.W.Frag} (h : X.K = K) (hu : X.A.units + 64 < cLine) : OpR X (compareOp .Eq) (rEqD K) := h ▸ op_eqD hu
theorem op_neDK {X : Cx} {K : PySem.W.Frag} (h : X.K = K) (hu : X.A.units + 64 < cLine) : OpR X (compareOp .NotEq) (rNeD K) := h ▸ op_neD hu
theorem sl_listK {X : Cx} {K : PySem.W.Frag} (h : X.K = K) : SlR X (rSlL K) := h ▸ sl_list
/-- pairs of numbers -/
def enc2 (e : Nat × Nat) : PyData := .tuple [.int (e.1 : Int), .int (e.2 : Int)]
theorem enc2_ok : EncOk enc2 := by
  refine ⟨fun a b => rfl, fun a b h => ?_, fun a => ⟨_, _, rfl⟩, fun a => ?_⟩
  · have h : (((a.1 : Int) == (b.1 : Int)) && (((a.2 : Int) == (b.2 : Int)) && true)) = true := h
    simp only [Bool.and_eq_true, beq_iff_eq, and_true] at h
    exact Prod.ext (by omega) (by omega)
  · show PyData.depth (.tuple [.int (a.1 : Int), .int (a.2 : Int)]) ≤ 8
    simp [PyData.depth, PyData.depthAll]
/-- triples of numbers -/
def enc3 (z : Nat × Nat × Nat) : PyData := .tuple [.int (z.1 : Int), .int (z.2.1 : Int), .int (z.2.2 : Int)]
theorem enc3_ok : EncOk enc3 := by
  refine ⟨fun a b => rfl, fun a b h => ?_, fun a => ⟨_, _, rfl⟩, fun a => ?_⟩
  · have h : (((a.1 : Int) == (b.1 : Int)) && (((a.2.1 : Int) == (b.2.1 : Int)) && (((a.2.2 : Int) == (b.2.2 : Int)) && true))) = true := h
    simp only [Bool.and_eq_true, beq_iff_eq, and_true] at h
    exact Prod.ext (by omega) (Prod.ext (by show a.2.1 = b.2.1; omega) (by show a.2.2 = b.2.2; omega))
  · show PyData.depth (.tuple [.int (a.1 : Int), .int (a.2.1 : Int), .int (a.2.2 : Int)]) ≤ 8
    simp [PyData.depth, PyData.depthAll]
end My
set_option maxHeartbeats 4000000
namespace My
open PySem L2 PyProof.Rows
def w3 (a b : Str) : PyData := .list [.str a, .str b, .bool true]
theorem dp_w3 {K : PySem.W.Frag} {H : Hp} {p : Addr} {a b : Str} (h : H p = some (.lst [.str a, .str b, .bl true])) : Dp K H (.ref p) (w3 a b) := .lst (SqL.of h) (.cons (.str a) (.cons (.str b) (.cons (.bl true) .nil)))
theorem shaped_w3 {a b : Str} (h1 : PyData.strOk a = true) (h2 : PyData.strOk b = true) : SeqAt.shaped (w3 a b) = true := by simp [SeqAt.shaped, w3, PyData.canLay0, PyData.canLayAll0, PyData.depth, PyData.depthAll, h1, h2]
theorem wrd_ok : ∀ i, i < 8 → PyData.strOk (wrd i) = true := by decide +kernel
theorem eqv_w3 {a b : Str} (h1 : PyData.strOk a = true) (h2 : PyData.strOk b = true) : PyData.eqv (w3 a b) (w3 a b) = true := SeqAt.eqv_refl _ (SeqAt.canLay_of_shaped (shaped_w3 h1 h2))
section
variable {P : Program} {w : World} {K : PySem.W.Frag} {mg : Str → Option Value} {base : Heap} {C CPE cM : Addr} {XA : Str → Addr} {TL : List (Addr × Str)}
def sp_law_are (K : PySem.W.Frag) (_ : Addr) (XA : Str → Addr) (P : Program) (w : World) (mg : Str → Option Value) (base : Heap) : Sp := fun vs H Q _ => ∃ i v d l, ∃ fs : List Addr, vs = [.str (wrd i), v, .ref l] ∧ i < 8 ∧ H l = some (.lst (fs.map V.ref)) ∧ fs.length ≤ 100 ∧ (∀ f ∈ fs, Hears P w K mg base XA H f i v) ∧ Vd H v d ∧ Fq d ∧
  ∀ H', Same H H' → Q (.bl true) H'
theorem ok_law_are (D : Def K mg "_law_are" s_law_are ["_law_word", "_law_odd", "_law_calls"]) (B : Bs mg) (Glb : Glo mg) (WK : WebK K mg C) (EXInvalidWeb : ExcF P w K mg base "value" "InvalidWeb" (XA "InvalidWeb")) (EXInvalidPlaces : ExcF P w K mg base "value" "InvalidPlaces" (XA "InvalidPlaces")) (EXInvalidTies : ExcF P w K mg base "value" "InvalidTies" (XA "InvalidTies")) (EXInvalidPlace : ExcF P w K mg base "value" "InvalidPlace" (XA "InvalidPlace")) (EXInvalidWalk : ExcF P w K mg base "value" "InvalidWalk" (XA "InvalidWalk")) (EXInvalidRound : ExcF P w K mg base "value" "InvalidRound" (XA "InvalidRound")) (EXInvalidWithout : ExcF P w K mg base "value" "InvalidWithout" (XA "InvalidWithout")) (EXInvalidPart : ExcF P w K mg base "value" "InvalidPart" (XA "InvalidPart")) (PErr : mg "PieceError" = some (.ref CPE)) (EXM : ExM K XA CPE)
    (h_law_heard : GoodG P w K mg base "_law_heard" s_law_heard ["_law_call"] 22 (sp_law_heard K C XA P w mg base)) :
    GoodG P w K mg base "_law_are" s_law_are ["_law_word", "_law_odd", "_law_calls"] 23 (sp_law_are K C XA P w mg base) := by
  refine D.goodG fun f fd F => ?_
  obtain ⟨f_law_heard, d_law_heard, O_law_heard, m_law_heard, k_law_heard, b_law_heard, F_law_heard⟩ := h_law_heard
  refine FnG.ofBody F sc_law_are (fun vs H Q E h => ?_) (fun cdv A outer s H vs Q E hr quiet h => ?_)
  · obtain ⟨i, v, d, l, fs, rfl, hi, hl, hlen, hh, hv, hq, q⟩ := h
    first | rfl | (rcases h with ⟨_, _, rfl, _⟩ | ⟨_, rfl, _⟩ <;> rfl)
  obtain ⟨i, v, d, l, fs, rfl, hi, hl, hlen, hh, hv, hq, q⟩ := h
  have hur := hu70 hr
  refine ⟨_, (pss_one (ps_ret (pe_callB (cr_all rfl) (by rfl) B.all (by decide +kernel) (pa_cons (pe_lc (own := [("_law_call", 3)]) (g := gName 3) (by rfl) sc_law_are.nd (pi_list (pv 2)) (blkOk_by (own := [("_law_call", 3)]) (N := ["_law_word", "_law_odd", "_law_calls", "_law_call"]) (sc := defScope s_law_are) (by decide +kernel)) (fun _ _ _ _ _ => (pg_name (i := 3) sc_law_are.nd rfl (by first | exact Or.inl rfl | exact Or.inr rfl))) (fun _ _ _ _ _ => pts_nil) (fun _ _ _ _ _ => (pe_cmpR (op_eqDK (K := K) rfl hr.units) (pe_callG O_law_heard hr quiet rfl m_law_heard k_law_heard b_law_heard (pa_cons (pv 3) pa_nil)) (pe_lst (pa_cons (pv 0) (pa_cons (pe_callB (call_repr_qK (K := K) rfl quiet hur) (by rfl) B.repr (by decide +kernel) (pa_cons (pv 1) pa_nil)) (pa_cons pe_bl pa_nil)))) (nomark _)))) pa_nil)))), ?_⟩
  refine ⟨_, rfl, l, rfl, ⟨_, SqL.of hl⟩, fun D nD => ?_⟩
  refine lc_list (K := K) (a := l) (xs := fs.map V.ref) (fun j H' => Same H H' ∧ H' D = some (.lst ((List.replicate j true).map V.bl))) ⟨same_new nD _, upd_same⟩ (fun j H' _ ⟨hS', _⟩ => SqL.of (hS' _ _ hl)) ?_ ?_
  · rintro j y H2 hy ⟨hS2, hD2⟩
    rw [List.getElem?_map] at hy
    obtain ⟨f, hf, rfl⟩ : ∃ f, fs[j]? = some f ∧ y = V.ref f := by
      cases e : fs[j]? with
      | none => rw [e] at hy; cases hy
      | some f => rw [e] at hy; exact ⟨f, rfl, (Option.some.inj hy).symm⟩
    have hj := (List.getElem?_eq_some_iff.mp hf).1
    refine ⟨rfl, _, rfl, f, i, v, d, rfl, hi, (hh f (List.mem_of_getElem? hf)).same hS2, hv.same hS2, hq, fun H3 p hS3 np hp => ?_⟩
    have hS23 := hS2.trans hS3
    refine ⟨_, rfl, _, rfl, v, d, rfl, (hv.same hS23).dq, hq.sh, hq.dep, hq.len, (by show 3 ≤ sizeLine; decide), fun p2 np2 => ?_⟩
    have hS24 := hS23.trans (same_new np2 (.lst [.str (wrd i), .str d.shown, .bl true]))
    refine ⟨_, _, dp_w3 (same_new np2 _ _ _ hp), dp_w3 upd_same, shaped_w3 (wrd_ok i hi) hq.ok, shaped_w3 (wrd_ok i hi) hq.ok, ?_⟩
    rw [eqv_w3 (wrd_ok i hi) hq.ok]
    refine ⟨_, same_new np2 _ _ _ (hS3 _ _ hD2), ?_, same_upd hS24 nD, ?_⟩
    · rw [List.length_map, List.length_replicate]
      exact Nat.lt_of_lt_of_le (by omega : j < 1000) (by decide)
    · rw [upd_same, List.replicate_succ', List.map_append]
      rfl
  · rintro H2 ⟨hS2, hD2⟩
    refine ⟨D, _, rfl, SqL.of hD2, ?_⟩
    rw [show (List.replicate (fs.map V.ref).length true).all id = true by simp]
    exact q H2 hS2
end
end My
set_option maxHeartbeats 8000000
namespace My
open PySem L2 PyProof.Rows
open LamX hiding takes0
def gR {α : Type} : List α → List α → List α | [], ws => ws.reverse | _ :: _, _ => []
theorem gR_inv3 {α : Type} {us ws : List α} (h : (gR us ws).length = 3) : us = [] ∧ ∃ a b c, ws = [a, b, c] := by
  match us, ws, h with
  | [], [a, b, c], _ => exact ⟨rfl, a, b, c, rfl⟩
  | [], [], h => exact absurd h (by simp [gR])
  | [], [_], h => exact absurd h (by simp [gR])
  | [], [_, _], h => exact absurd h (by simp [gR])
  | [], _ :: _ :: _ :: _ :: _, h => exact absurd h (by simp [gR])
  | _ :: _, _, h => exact absurd h (by simp [gR])
theorem relR {vs : List V} {us : List Value} {zs : List V} {ws : List Value} (a : Vals vs us) (b : Vals zs ws) : Vals (gR vs zs) (gR us ws) := by
  cases a with
  | nil => exact paired_rev b
  | cons r a => exact .nil
theorem hears_mk {X : Cx} {XA : Str → Addr} {G : L2.St → Prop} {t : Heap → XK → TE} {S H1 : Hp} {f : Addr} {i : Nat} {v : V} (c : ∀ (b' : Heap) (σ' : L2.St) (H2 : Hp), Rb X σ' b' → KeepL H1 H2 → CallV X.prog X.w X.K X.mg b' 21 f H2 (fun Q E => t b' E σ' H2 Q))
    (h : ∀ (b' : Heap) (σ' : L2.St) (H4 : Hp) (Q : VK) (E : XK), G σ' → Same (noT S) H4 → Rz E (XA (exs.getD i "")) v H4 → t b' E σ' H4 Q) :
    ∀ (b' : Heap) (σ' : L2.St) (H2 : Hp), Rb X σ' b' → KeepL H1 H2 → Same (noT S) H2 → G σ' → Hears X.prog X.w X.K X.mg b' XA H2 f i v :=
  fun b' σ' H2 R k2 s2 g H4 s4 => ⟨_, c b' σ' H4 R (k2.trans (.same s4)), fun Q E hz => h b' σ' H4 Q E g (same_to s2 s4) hz⟩
section
variable {P : Program} {w : World} {K : PySem.W.Frag} {mg : Str → Option Value} {base : Heap} {C CPE cM : Addr} {XA : Str → Addr} {TL : List (Addr × Str)}
def sp_law_webs_right (_ : PySem.W.Frag) (_ : Addr) (_ : Str → Addr) (TL : List (Addr × Str)) : Sp := fun vs H Q _ => vs = [] ∧ Tabs TL H ∧ ∀ H', Q (.bl true) H'
theorem ok_law_webs_right (D : DefC K mg "_law_webs_right" s_law_webs_right [] cM) (TK : TabK mg base TL "_law_webs_right" cM) (B : Bs mg) (Glb : Glo mg) (WK : WebK K mg C) (EXInvalidWeb : ExcF P w K mg base "value" "InvalidWeb" (XA "InvalidWeb")) (EXInvalidPlaces : ExcF P w K mg base "value" "InvalidPlaces" (XA "InvalidPlaces")) (EXInvalidTies : ExcF P w K mg base "value" "InvalidTies" (XA "InvalidTies")) (EXInvalidPlace : ExcF P w K mg base "value" "InvalidPlace" (XA "InvalidPlace")) (EXInvalidWalk : ExcF P w K mg base "value" "InvalidWalk" (XA "InvalidWalk")) (EXInvalidRound : ExcF P w K mg base "value" "InvalidRound" (XA "InvalidRound")) (EXInvalidWithout : ExcF P w K mg base "value" "InvalidWithout" (XA "InvalidWithout")) (EXInvalidPart : ExcF P w K mg base "value" "InvalidPart" (XA "InvalidPart")) (PErr : mg "PieceError" = some (.ref CPE)) (EXM : ExM K XA CPE)
    (h_law_are : ∀ b, GoodG P w K mg b "_law_are" s_law_are ["_law_word", "_law_odd", "_law_calls"] 23 (sp_law_are K C XA P w mg b))
    (his_walk : ∀ b, GoodX P w K mg b "is_walk" sis_walk ["web", "value"] 6 (spis_walk K C XA))
    (his_round : ∀ b, GoodX P w K mg b "is_round" sis_round ["web", "value"] 6 (spis_round K C XA))
    (hleads : ∀ b, GoodX P w K mg b "leads" sleads ["web", "walk"] 8 (spleads K C XA))
    (hcovers : ∀ b, GoodX P w K mg b "covers" scovers ["web", "tour"] 8 (spcovers K C XA))
    (hwalk_in_round : ∀ b, GoodX P w K mg b "walk_in_round" swalk_in_round ["web", "tour", "walk"] 8 (spwalk_in_round K C XA))
    (hback_web : ∀ b, GoodX P w K mg b "back_web" sback_web ["web"] 7 (spback_web K C XA))
    (hreach : ∀ b, GoodX P w K mg b "reach" sreach ["web", "place", "without"] 6 (spreach K C XA))
    (hway : ∀ b, GoodX P w K mg b "way" sway ["web", "near", "far", "without"] 7 (spway K C XA))
    (hparts_of : ∀ b, GoodX P w K mg b "parts_of" sparts_of ["web"] 4 (spparts_of K C XA))
    (hplain_parts : ∀ b, GoodX P w K mg b "plain_parts" splain_parts ["web"] 7 (spplain_parts K C XA))
    (his_close : ∀ b, GoodX P w K mg b "is_close" sis_close ["web"] 5 (spis_close K C XA))
    (his_single_ring : ∀ b, GoodX P w K mg b "is_single_ring" sis_single_ring ["web"] 6 (spis_single_ring K C XA))
    (hpart_web : ∀ b, GoodX P w K mg b "part_web" spart_web ["web", "part"] 7 (sppart_web K C XA)) :
    GoodG P w K mg base "_law_webs_right" s_law_webs_right [] 24 (sp_law_webs_right K C XA TL) := by
  obtain ⟨Pt, TB, hTm, hTu⟩ := TK
  refine D.good fun f fd F hcd => ?_
  obtain ⟨f_law_are, d_law_are, O_law_are, m_law_are, k_law_are, b_law_are, F_law_are⟩ := goodGA h_law_are
  obtain ⟨fis_walk, dis_walk, Ois_walk, mis_walk, kis_walk, bis_walk, Fis_walk⟩ := goodXA his_walk
  obtain ⟨fis_round, dis_round, Ois_round, mis_round, kis_round, bis_round, Fis_round⟩ := goodXA his_round
  obtain ⟨fleads, dleads, Oleads, mleads, kleads, bleads, Fleads⟩ := goodXA hleads
  obtain ⟨fcovers, dcovers, Ocovers, mcovers, kcovers, bcovers, Fcovers⟩ := goodXA hcovers
  obtain ⟨fwalk_in_round, dwalk_in_round, Owalk_in_round, mwalk_in_round, kwalk_in_round, bwalk_in_round, Fwalk_in_round⟩ := goodXA hwalk_in_round
  obtain ⟨fback_web, dback_web, Oback_web, mback_web, kback_web, bback_web, Fback_web⟩ := goodXA hback_web
  obtain ⟨freach, dreach, Oreach, mreach, kreach, breach, Freach⟩ := goodXA hreach
  obtain ⟨fway, dway, Oway, mway, kway, bway, Fway⟩ := goodXA hway
  obtain ⟨fparts_of, dparts_of, Oparts_of, mparts_of, kparts_of, bparts_of, Fparts_of⟩ := goodXA hparts_of
  obtain ⟨fplain_parts, dplain_parts, Oplain_parts, mplain_parts, kplain_parts, bplain_parts, Fplain_parts⟩ := goodXA hplain_parts
  obtain ⟨fis_close, dis_close, Ois_close, mis_close, kis_close, bis_close, Fis_close⟩ := goodXA his_close
  obtain ⟨fis_single_ring, dis_single_ring, Ois_single_ring, mis_single_ring, kis_single_ring, bis_single_ring, Fis_single_ring⟩ := goodXA his_single_ring
  obtain ⟨fpart_web, dpart_web, Opart_web, mpart_web, kpart_web, bpart_web, Fpart_web⟩ := goodXA hpart_web
  have kb_is_close_web : KBinds K dis_close ["web"] ["web"] g1 g1 := fun_kbinds Fis_close g1 g1 rel1 (fun _ _ _ _ _ _ us ws hl => by
    obtain ⟨rfl, a0, rfl⟩ := g1_inv hl
    rfl)
  have kb_is_round_value_web : KBinds K dis_round ["web", "value"] ["value", "web"] g21 g21 := fun_kbinds Fis_round g21 g21 rel21 (fun _ _ _ _ _ _ us ws hl => by
    obtain ⟨rfl, a0, a1, rfl⟩ := g21_inv hl
    rfl)
  have kb_walk_in_round_walk_tour_web : KBinds K dwalk_in_round ["web", "tour", "walk"] ["walk", "tour", "web"] gR gR := fun_kbinds Fwalk_in_round gR gR relR (fun _ _ _ _ _ _ us ws hl => by
    obtain ⟨rfl, a0, a1, a2, rfl⟩ := gR_inv3 hl
    rfl)
  have kb_way_without_far_near_web : KBinds K dway ["web", "near", "far", "without"] ["without", "far", "near", "web"] g4321 g4321 := fun_kbinds Fway g4321 g4321 rel4321 (fun _ _ _ _ _ _ us ws hl => by
    obtain ⟨rfl, a0, a1, a2, a3, rfl⟩ := g4321_inv4 hl
    rfl)
  refine FnG.ofCode F hcd sc_law_webs_right (fun vs H Q E h => ?_) (fun A outer s H vs Q E hr quiet h => ?_)
  · obtain ⟨rfl, hT, q⟩ := h
    first | rfl | (rcases h with ⟨_, _, rfl, _⟩ | ⟨_, rfl, _⟩ <;> rfl)
  obtain ⟨rfl, hT, q⟩ := h
  have hur := hu70 hr
  refine ⟨_, (pss_cons (ps_for PassesOwn.never rfl (pi_list (lit_lst (lits_cons lit_non (lits_cons lit_int (lits_cons lit_bl (lits_cons (lit_str (by decide +kernel)) (lits_cons (lit_lst lits_nil) (lits_cons (lit_tup (lits_cons lit_int (lits_cons (lit_lst lits_nil) lits_nil))) (lits_cons lit_emp lits_nil))))))))) (pg_name (i := 0) sc_law_webs_right.nd rfl (by first | exact Or.inl rfl | exact Or.inr rfl))
    (pss_cons (ps_set (i := 1) sc_law_webs_right.nd rfl (by first | exact Or.inl rfl | exact Or.inr rfl) (pe_lst (pa_cons (pe_lam (k := 20) TB rfl hTm hTu (lamS_by (sc := defScope s_law_webs_right) (by decide +kernel)) rfl (fun _ _ _ _ _ => rfl) (fun b2 H2 f2 c2 A2 outer2 s2 E2 hr => (pe_callS (Ois_walk b2) (hr.mono (by decide)) rfl mis_walk kis_walk bis_walk (fun σ => passAt (takes_of rfl rfl rfl rfl) σ) (pa_cons (pv 0) (pa_cons pe_non pa_nil))))) pa_nil)))
  (pss_cons (ps_expr (pe_bm PySem.F.plainAttrs_list PySem.F.slot_list_append PySem.F.type_list_append mt_append (pv 1) (pa_cons (pe_lam (k := 20) TB rfl hTm hTu (lamS_by (sc := defScope s_law_webs_right) (by decide +kernel)) rfl (fun _ _ _ _ _ => rfl) (fun b2 H2 f2 c2 A2 outer2 s2 E2 hr => (pe_callKS (Ois_round b2) (hr.mono (by decide)) (by rfl) mis_round kis_round kb_is_round_value_web (fun σ => passAt (takes_of rfl rfl rfl rfl) σ) (pk_cons pe_non (pk_cons (pv 0) pk_nil))))) pa_nil)))
  (pss_cons (ps_expr (pe_bm PySem.F.plainAttrs_list PySem.F.slot_list_append PySem.F.type_list_append mt_append (pv 1) (pa_cons (pe_lam (k := 20) TB rfl hTm hTu (lamS_by (sc := defScope s_law_webs_right) (by decide +kernel)) rfl (fun _ _ _ _ _ => rfl) (fun b2 H2 f2 c2 A2 outer2 s2 E2 hr => (pe_callS (Oleads b2) (hr.mono (by decide)) rfl mleads kleads bleads (fun σ => passAt (takes_of rfl rfl rfl rfl) σ) (pa_cons (pv 0) (pa_cons pe_non pa_nil))))) pa_nil)))
  (pss_cons (ps_expr (pe_bm PySem.F.plainAttrs_list PySem.F.slot_list_append PySem.F.type_list_append mt_append (pv 1) (pa_cons (pe_lam (k := 20) TB rfl hTm hTu (lamS_by (sc := defScope s_law_webs_right) (by decide +kernel)) rfl (fun _ _ _ _ _ => rfl) (fun b2 H2 f2 c2 A2 outer2 s2 E2 hr => (pe_callS (Ocovers b2) (hr.mono (by decide)) rfl mcovers kcovers bcovers (fun σ => passAt (takes_of rfl rfl rfl rfl) σ) (pa_cons (pv 0) (pa_cons pe_non pa_nil))))) pa_nil)))
  (pss_cons (ps_expr (pe_bm PySem.F.plainAttrs_list PySem.F.slot_list_append PySem.F.type_list_append mt_append (pv 1) (pa_cons (pe_lam (k := 20) TB rfl hTm hTu (lamS_by (sc := defScope s_law_webs_right) (by decide +kernel)) rfl (fun _ _ _ _ _ => rfl) (fun b2 H2 f2 c2 A2 outer2 s2 E2 hr => (pe_callKS (Owalk_in_round b2) (hr.mono (by decide)) (by rfl) mwalk_in_round kwalk_in_round kb_walk_in_round_walk_tour_web (fun σ => passAt (takes_of rfl rfl rfl rfl) σ) (pk_cons pe_non (pk_cons pe_non (pk_cons (pv 0) pk_nil)))))) pa_nil)))
  (pss_cons (ps_expr (pe_bm PySem.F.plainAttrs_list PySem.F.slot_list_append PySem.F.type_list_append mt_append (pv 1) (pa_cons (pe_lam (k := 20) TB rfl hTm hTu (lamS_by (sc := defScope s_law_webs_right) (by decide +kernel)) rfl (fun _ _ _ _ _ => rfl) (fun b2 H2 f2 c2 A2 outer2 s2 E2 hr => (pe_callS (Oback_web b2) (hr.mono (by decide)) rfl mback_web kback_web bback_web (fun σ => passAt (takes_of rfl rfl rfl rfl) σ) (pa_cons (pv 0) pa_nil)))) pa_nil)))
  (pss_cons (ps_expr (pe_bm PySem.F.plainAttrs_list PySem.F.slot_list_append PySem.F.type_list_append mt_append (pv 1) (pa_cons (pe_lam (k := 20) TB rfl hTm hTu (lamS_by (sc := defScope s_law_webs_right) (by decide +kernel)) rfl (fun _ _ _ _ _ => rfl) (fun b2 H2 f2 c2 A2 outer2 s2 E2 hr => (pe_callS (Oreach b2) (hr.mono (by decide)) rfl mreach kreach breach (fun σ => passAt (takes_of rfl rfl rfl rfl) σ) (pa_cons (pv 0) (pa_cons pe_non (pa_cons pe_non pa_nil)))))) pa_nil)))
  (pss_cons (ps_expr (pe_bm PySem.F.plainAttrs_list PySem.F.slot_list_append PySem.F.type_list_append mt_append (pv 1) (pa_cons (pe_lam (k := 20) TB rfl hTm hTu (lamS_by (sc := defScope s_law_webs_right) (by decide +kernel)) rfl (fun _ _ _ _ _ => rfl) (fun b2 H2 f2 c2 A2 outer2 s2 E2 hr => (pe_callKS (Oway b2) (hr.mono (by decide)) (by rfl) mway kway kb_way_without_far_near_web (fun σ => passAt (takes_of rfl rfl rfl rfl) σ) (pk_cons pe_non (pk_cons pe_non (pk_cons pe_non (pk_cons (pv 0) pk_nil))))))) pa_nil)))
  (pss_cons (ps_expr (pe_bm PySem.F.plainAttrs_list PySem.F.slot_list_append PySem.F.type_list_append mt_append (pv 1) (pa_cons (pe_lam (k := 20) TB rfl hTm hTu (lamS_by (sc := defScope s_law_webs_right) (by decide +kernel)) rfl (fun _ _ _ _ _ => rfl) (fun b2 H2 f2 c2 A2 outer2 s2 E2 hr => (pe_callS (Oparts_of b2) (hr.mono (by decide)) rfl mparts_of kparts_of bparts_of (fun σ => passAt (takes_of rfl rfl rfl rfl) σ) (pa_cons (pv 0) pa_nil)))) pa_nil)))
  (pss_cons (ps_expr (pe_bm PySem.F.plainAttrs_list PySem.F.slot_list_append PySem.F.type_list_append mt_append (pv 1) (pa_cons (pe_lam (k := 20) TB rfl hTm hTu (lamS_by (sc := defScope s_law_webs_right) (by decide +kernel)) rfl (fun _ _ _ _ _ => rfl) (fun b2 H2 f2 c2 A2 outer2 s2 E2 hr => (pe_callS (Oplain_parts b2) (hr.mono (by decide)) rfl mplain_parts kplain_parts bplain_parts (fun σ => passAt (takes_of rfl rfl rfl rfl) σ) (pa_cons (pv 0) pa_nil)))) pa_nil)))
  (pss_cons (ps_expr (pe_bm PySem.F.plainAttrs_list PySem.F.slot_list_append PySem.F.type_list_append mt_append (pv 1) (pa_cons (pe_lam (k := 20) TB rfl hTm hTu (lamS_by (sc := defScope s_law_webs_right) (by decide +kernel)) rfl (fun _ _ _ _ _ => rfl) (fun b2 H2 f2 c2 A2 outer2 s2 E2 hr => (pe_callKS (Ois_close b2) (hr.mono (by decide)) (by rfl) mis_close kis_close kb_is_close_web (fun σ => passAt (takes_of rfl rfl rfl rfl) σ) (pk_cons (pv 0) pk_nil)))) pa_nil)))
  (pss_cons (ps_expr (pe_bm PySem.F.plainAttrs_list PySem.F.slot_list_append PySem.F.type_list_append mt_append (pv 1) (pa_cons (pe_lam (k := 20) TB rfl hTm hTu (lamS_by (sc := defScope s_law_webs_right) (by decide +kernel)) rfl (fun _ _ _ _ _ => rfl) (fun b2 H2 f2 c2 A2 outer2 s2 E2 hr => (pe_callS (Ois_single_ring b2) (hr.mono (by decide)) rfl mis_single_ring kis_single_ring bis_single_ring (fun σ => passAt (takes_of rfl rfl rfl rfl) σ) (pa_cons (pv 0) pa_nil)))) pa_nil)))
  (pss_cons (ps_expr (pe_bm PySem.F.plainAttrs_list PySem.F.slot_list_append PySem.F.type_list_append mt_append (pv 1) (pa_cons (pe_lam (k := 20) TB rfl hTm hTu (lamS_by (sc := defScope s_law_webs_right) (by decide +kernel)) rfl (fun _ _ _ _ _ => rfl) (fun b2 H2 f2 c2 A2 outer2 s2 E2 hr => (pe_callS (Opart_web b2) (hr.mono (by decide)) rfl mpart_web kpart_web bpart_web (fun σ => passAt (takes_of rfl rfl rfl rfl) σ) (pa_cons (pv 0) (pa_cons pe_non pa_nil))))) pa_nil)))
  (pss_one (ps_if (pt_not (pt_val (pe_callRb O_law_are (fun _ => rfl) hr quiet rfl m_law_are k_law_are b_law_are (pa_cons pe_str (pa_cons (pv 0) (pa_cons (pv 1) pa_nil))))))
    (pss_one (ps_ret pe_bl)) pss_nil))))))))))))))))
  (pss_one (ps_ret pe_bl))), ?_⟩
  intro v0 H1 s1 n1 hv1
  cases hv1 with
  | @lst t xs ds ht hk =>
  refine ⟨t, rfl, ⟨_, SqL.of ht⟩, for_list (K := K) (a := t) (xs := xs) (fun i σ H' => Same (noT H1) H' ∧ Tabs TL H' ∧ ∃ v0 v1, σ = [v0, v1]) ⟨noT_same H1, hT.ext s1, none, none, rfl⟩ (fun i σ H' _ ⟨z, _⟩ => SqL.of (z _ _ (noT_at ht (fun ps y => by cases y)))) ?_ ?_⟩
  · rintro i x σ S hx ⟨sS, m0, v0, v1, rfl⟩
    obtain ⟨d, hd, hvd⟩ := hk.at hx
    have hq : Fq d := fq_of (List.all_eq_true.mp (by decide +kernel) d (List.mem_of_getElem? hd))
    have hvS : Vd (noT S) x d := ((hvd.noT.same sS).noT)
    have s0 : Same (noT S) S := noT_same S
    refine ⟨m0, fun f H3 e3 T3 n3 o3 c => ⟨(by show 1 ≤ sizeLine; decide), fun p np => ?_⟩⟩
    have m : Mkg _ S TL (fun y : L2.St => y[0]? = some (some x)) (fun b H f => Hears P w K mg b XA H f 0 x) p 1 _ := Mkg.one s0 e3 T3 np (hears_mk (S := S) (G := fun y : L2.St => y[0]? = some (some x)) c fun b2 σ2 H4 Q2 E2 g s4 hz => by exact ⟨_, g, _, _, rfl, .inl ⟨d, hvS.same s4, hz⟩⟩)
    obtain ⟨fs, hl, _⟩ := m.fs
    refine ⟨_, rfl, .inl ⟨rfl, _, SqL.of hl⟩, m.t, fun f H3 e3 T3 n3 o3 c => ?_⟩
    obtain ⟨xs, g1, g2, m⟩ := m.add e3 T3 (hears_mk (S := S) (G := fun y : L2.St => y[0]? = some (some x)) c fun b2 σ2 H4 Q2 E2 g s4 hz => by exact ⟨_, g, _, _, rfl, .inl ⟨d, hvS.same s4, hz⟩⟩) (by decide)
    refine ⟨p, _, _, rfl, rfl, g1, g2, ?_⟩
    obtain ⟨fs, hl, _⟩ := m.fs
    refine ⟨_, rfl, .inl ⟨rfl, _, SqL.of hl⟩, m.t, fun f H3 e3 T3 n3 o3 c => ?_⟩
    obtain ⟨xs, g1, g2, m⟩ := m.add e3 T3 (hears_mk (S := S) (G := fun y : L2.St => y[0]? = some (some x)) c fun b2 σ2 H4 Q2 E2 g s4 hz => by exact ⟨_, g, _, _, rfl, .inl ⟨d, hvS.same s4, hz⟩⟩) (by decide)
    refine ⟨p, _, _, rfl, rfl, g1, g2, ?_⟩
    obtain ⟨fs, hl, _⟩ := m.fs
    refine ⟨_, rfl, .inl ⟨rfl, _, SqL.of hl⟩, m.t, fun f H3 e3 T3 n3 o3 c => ?_⟩
    obtain ⟨xs, g1, g2, m⟩ := m.add e3 T3 (hears_mk (S := S) (G := fun y : L2.St => y[0]? = some (some x)) c fun b2 σ2 H4 Q2 E2 g s4 hz => by exact ⟨_, g, _, _, rfl, .inl ⟨d, hvS.same s4, hz⟩⟩) (by decide)
    refine ⟨p, _, _, rfl, rfl, g1, g2, ?_⟩
    obtain ⟨fs, hl, _⟩ := m.fs
    refine ⟨_, rfl, .inl ⟨rfl, _, SqL.of hl⟩, m.t, fun f H3 e3 T3 n3 o3 c => ?_⟩
    obtain ⟨xs, g1, g2, m⟩ := m.add e3 T3 (hears_mk (S := S) (G := fun y : L2.St => y[0]? = some (some x)) c fun b2 σ2 H4 Q2 E2 g s4 hz => by exact ⟨_, g, _, _, _, rfl, .inl ⟨d, hvS.same s4, hz⟩⟩) (by decide)
    refine ⟨p, _, _, rfl, rfl, g1, g2, ?_⟩
    obtain ⟨fs, hl, _⟩ := m.fs
    refine ⟨_, rfl, .inl ⟨rfl, _, SqL.of hl⟩, m.t, fun f H3 e3 T3 n3 o3 c => ?_⟩
    obtain ⟨xs, g1, g2, m⟩ := m.add e3 T3 (hears_mk (S := S) (G := fun y : L2.St => y[0]? = some (some x)) c fun b2 σ2 H4 Q2 E2 g s4 hz => by exact ⟨_, g, _, rfl, d, hvS.same s4, hz⟩) (by decide)
    refine ⟨p, _, _, rfl, rfl, g1, g2, ?_⟩
    obtain ⟨fs, hl, _⟩ := m.fs
    refine ⟨_, rfl, .inl ⟨rfl, _, SqL.of hl⟩, m.t, fun f H3 e3 T3 n3 o3 c => ?_⟩
    obtain ⟨xs, g1, g2, m⟩ := m.add e3 T3 (hears_mk (S := S) (G := fun y : L2.St => y[0]? = some (some x)) c fun b2 σ2 H4 Q2 E2 g s4 hz => by exact ⟨_, g, _, _, _, rfl, .inl ⟨d, hvS.same s4, hz⟩⟩) (by decide)
    refine ⟨p, _, _, rfl, rfl, g1, g2, ?_⟩
    obtain ⟨fs, hl, _⟩ := m.fs
    refine ⟨_, rfl, .inl ⟨rfl, _, SqL.of hl⟩, m.t, fun f H3 e3 T3 n3 o3 c => ?_⟩
    obtain ⟨xs, g1, g2, m⟩ := m.add e3 T3 (hears_mk (S := S) (G := fun y : L2.St => y[0]? = some (some x)) c fun b2 σ2 H4 Q2 E2 g s4 hz => by exact ⟨_, g, _, _, _, _, rfl, .inl ⟨d, hvS.same s4, hz⟩⟩) (by decide)
    refine ⟨p, _, _, rfl, rfl, g1, g2, ?_⟩
    obtain ⟨fs, hl, _⟩ := m.fs
    refine ⟨_, rfl, .inl ⟨rfl, _, SqL.of hl⟩, m.t, fun f H3 e3 T3 n3 o3 c => ?_⟩
    obtain ⟨xs, g1, g2, m⟩ := m.add e3 T3 (hears_mk (S := S) (G := fun y : L2.St => y[0]? = some (some x)) c fun b2 σ2 H4 Q2 E2 g s4 hz => by exact ⟨_, g, _, rfl, .inl ⟨d, hvS.same s4, hz⟩⟩) (by decide)
    refine ⟨p, _, _, rfl, rfl, g1, g2, ?_⟩
    obtain ⟨fs, hl, _⟩ := m.fs
    refine ⟨_, rfl, .inl ⟨rfl, _, SqL.of hl⟩, m.t, fun f H3 e3 T3 n3 o3 c => ?_⟩
    obtain ⟨xs, g1, g2, m⟩ := m.add e3 T3 (hears_mk (S := S) (G := fun y : L2.St => y[0]? = some (some x)) c fun b2 σ2 H4 Q2 E2 g s4 hz => by exact ⟨_, g, _, rfl, d, hvS.same s4, hz⟩) (by decide)
    refine ⟨p, _, _, rfl, rfl, g1, g2, ?_⟩
    obtain ⟨fs, hl, _⟩ := m.fs
    refine ⟨_, rfl, .inl ⟨rfl, _, SqL.of hl⟩, m.t, fun f H3 e3 T3 n3 o3 c => ?_⟩
    obtain ⟨xs, g1, g2, m⟩ := m.add e3 T3 (hears_mk (S := S) (G := fun y : L2.St => y[0]? = some (some x)) c fun b2 σ2 H4 Q2 E2 g s4 hz => by exact ⟨_, g, _, rfl, d, hvS.same s4, hz⟩) (by decide)
    refine ⟨p, _, _, rfl, rfl, g1, g2, ?_⟩
    obtain ⟨fs, hl, _⟩ := m.fs
    refine ⟨_, rfl, .inl ⟨rfl, _, SqL.of hl⟩, m.t, fun f H3 e3 T3 n3 o3 c => ?_⟩
    obtain ⟨xs, g1, g2, m⟩ := m.add e3 T3 (hears_mk (S := S) (G := fun y : L2.St => y[0]? = some (some x)) c fun b2 σ2 H4 Q2 E2 g s4 hz => by exact ⟨_, g, _, rfl, d, hvS.same s4, hz⟩) (by decide)
    refine ⟨p, _, _, rfl, rfl, g1, g2, ?_⟩
    obtain ⟨fs, hl, _⟩ := m.fs
    refine ⟨_, rfl, .inl ⟨rfl, _, SqL.of hl⟩, m.t, fun f H3 e3 T3 n3 o3 c => ?_⟩
    obtain ⟨xs, g1, g2, m⟩ := m.add e3 T3 (hears_mk (S := S) (G := fun y : L2.St => y[0]? = some (some x)) c fun b2 σ2 H4 Q2 E2 g s4 hz => by exact ⟨_, g, _, _, rfl, .inl ⟨d, hvS.same s4, hz⟩⟩) (by decide)
    refine ⟨p, _, _, rfl, rfl, g1, g2, ?_⟩
    refine ⟨_, rfl, _, rfl, fun b' R => ?_⟩
    obtain ⟨fs, hl, hlen, hW⟩ := m.fs
    refine ⟨0, x, d, p, fs, rfl, by decide, hl, by omega, fun f hf => hW f hf b' _ _ R (KeepL.refl _) m.s rfl, hvS.same m.s, hq, fun H' sF => ⟨_, rfl, iteF ?_⟩⟩
    exact ⟨fun b u z => sF _ _ (m.s _ _ (noT_at (sS b u z) (noT_of z).2)), m.t.ext sF, _, _, rfl⟩
  · rintro σ H2 ⟨_, _, v0, v1, rfl⟩
    exact q H2
end
end My
set_option maxHeartbeats 8000000
namespace My
open PySem L2 PyProof.Rows
open LamX hiding takes0
theorem sm_two {H : Hp} {x dx : Addr} {o1 o2 : HO} (nx : H x = none) (nd : H dx = none) (ne : dx ≠ x) : Same H (upd (upd H dx o1) x o2) := fun b u z => by rw [upd_ne (ne_of_none z nx), upd_ne (ne_of_none z nd)]; exact z
theorem mk_bad {C : Addr} {XA : Str → Addr} {K : PySem.W.Frag} {H : Hp} {x dx : Addr} {v tv : V} {d dt : PyData} {Q : VK} {E : XK} (h : btwO 1 60 (numD d) = false) (hv : Vd H v d) (ht : Vd H tv dt) (nx : H x = none) (nd : H dx = none) (ne : dx ≠ x) (hz : Rz E (XA "InvalidPlaces") v H) :
    spWeb___init__ K C XA [.ref x, v, tv] (upd (upd H dx (.own x)) x (.ins C dx [])) Q E := by
  have s := sm_two (o1 := .own x) (o2 := .ins C dx []) nx nd ne
  refine ⟨x, dx, v, d, tv, dt, rfl, hv.same s, ht.same s, upd_same, fun _ => hz.same s, fun N e h1 h2 _ => ?_, fun N t ts e _ ho => ?_⟩
  all_goals
    subst e
    exfalso
    have : btwO 1 60 (numD (.int (N : Int))) = true := by
      show (decide ((1 : Int) ≤ (N : Int)) && decide ((N : Int) ≤ 60)) = true
      first
        | rw [decide_eq_true (by omega), decide_eq_true (by omega)]; rfl
        | (have := ho.n0; have := ho.n1; rw [decide_eq_true (by omega), decide_eq_true (by omega)]; rfl)
    rw [this] at h
    cases h
theorem areT_of {H : Hp} {N : Nat} {t : Addr} {ts : List (Nat × Nat)} {d : PyData} (h : TiesS H t ts) (hd : Vd H (.ref t) d) (hm : ts.length ≤ 80) (ok : ∀ e ∈ ts, e.1 < N ∧ e.2 < N) : areT N d = true := by
  obtain ⟨tas, ht, hP⟩ := h
  have go : ∀ {tas : List Addr} {ts : List (Nat × Nat)} {l : List PyData}, Paired (TupAt H) tas ts → VdAll H (tas.map V.ref) l → (∀ e ∈ ts, e.1 < N ∧ e.2 < N) → l.all (tieD N) = true ∧ l.length = ts.length := by
    intro tas ts l hP
    induction hP generalizing l with
    | nil => intro k _; cases k; exact ⟨rfl, rfl⟩
    | @cons p e tas ts hp hr ih =>
      intro k ok
      cases k with
      | @cons _ _ f l h k =>
        obtain ⟨h1, h2⟩ := ih k (fun e he => ok e (List.mem_cons_of_mem _ he))
        obtain ⟨hu, hv⟩ := ok e List.mem_cons_self
        have hp' : H p = some (.tup [.int (e.1 : Int), .int (e.2 : Int)]) := hp
        have hf : f = .tuple [.int (e.1 : Int), .int (e.2 : Int)] := by
          cases h with
          | lst h _ => rw [hp'] at h; cases h
          | emp h => rw [hp'] at h; cases h
          | tup h k => rw [hp'] at h; cases h; cases k with | cons a k => cases a; cases k with | cons b k => cases b; cases k; rfl
        subst hf
        refine ⟨?_, by simp [h2]⟩
        rw [List.all_cons, h1, Bool.and_true]
        show (inR N (some (e.1 : Int)) && inR N (some (e.2 : Int))) = true
        rw [inR_lt hu, inR_lt hv]
        rfl
  have fin : ∀ l, lsD d = some l → VdAll H (tas.map V.ref) l → areT N d = true := fun l e k => by
    obtain ⟨h1, h2⟩ := go hP k ok
    unfold areT
    rw [e]
    show (decide (l.length ≤ 80) && l.all (tieD N)) = true
    rw [h1, decide_eq_true (by omega)]
    rfl
  cases hd with
  | lst h k => rcases ht with ht | ht <;> rw [ht] at h <;> cases h; exact fin _ rfl k
  | tup h k => rcases ht with ht | ht <;> rw [ht] at h <;> cases h; exact fin _ rfl k
  | emp h => rcases ht with ht | ht <;> rw [ht] at h <;> cases h
theorem mk_badT {C : Addr} {XA : Str → Addr} {K : PySem.W.Frag} {H : Hp} {x dx : Addr} {tv : V} {dt : PyData} {Q : VK} {E : XK} (h : areT 2 dt = false) (ht : Vd H tv dt) (nx : H x = none) (nd : H dx = none) (ne : dx ≠ x) (hz : Rz E (XA "InvalidTies") tv H) :
    spWeb___init__ K C XA [.ref x, .int 2, tv] (upd (upd H dx (.own x)) x (.ins C dx [])) Q E := by
  have s := sm_two (o1 := .own x) (o2 := .ins C dx []) nx nd ne
  refine ⟨x, dx, .int 2, .int 2, tv, dt, rfl, .int 2, ht.same s, upd_same, (fun z => nomatch z), fun N e h1 h2 _ => hz.same s, fun N t ts e e2 ho hT => ?_⟩
  exfalso
  have eN : N = 2 := by injection e with e; omega
  subst eN
  subst e2
  rw [areT_of hT (ht.same s) ho.m ho.ok] at h
  cases h
theorem ties_data {H : Hp} {t : Addr} {ts : List (Nat × Nat)} {d : PyData} (h : TiesS H t ts) (hd : Vd H (.ref t) d) : lsD d = some (ts.map fun e => PyData.tuple [.int (e.1 : Int), .int (e.2 : Int)]) := by
  obtain ⟨tas, ht, hP⟩ := h
  have go : ∀ {tas : List Addr} {ts : List (Nat × Nat)} {l : List PyData}, Paired (TupAt H) tas ts → VdAll H (tas.map V.ref) l → l = ts.map fun e => PyData.tuple [.int (e.1 : Int), .int (e.2 : Int)] := by
    intro tas ts l hP
    induction hP generalizing l with
    | nil => intro k; cases k; rfl
    | @cons p e tas ts hp hr ih =>
      intro k
      cases k with
      | @cons _ _ f l h k =>
        have h1 := ih k
        have hp' : H p = some (.tup [.int (e.1 : Int), .int (e.2 : Int)]) := hp
        have hf : f = .tuple [.int (e.1 : Int), .int (e.2 : Int)] := by
          cases h with
          | lst h _ => rw [hp'] at h; cases h
          | emp h => rw [hp'] at h; cases h
          | tup h k => rw [hp'] at h; cases h; cases k with | cons a k => cases a; cases k with | cons b k => cases b; cases k; rfl
        rw [h1, hf]
        rfl
  cases hd with
  | lst h k => rcases ht with ht | ht <;> rw [ht] at h <;> cases h; exact congrArg some (go hP k)
  | tup h k => rcases ht with ht | ht <;> rw [ht] at h <;> cases h; exact congrArg some (go hP k)
  | emp h => rcases ht with ht | ht <;> rw [ht] at h <;> cases h
theorem cutV_to {xs : List V} {k : Nat} : cutV xs none (some (k : Int)) = xs.take k := by
  unfold cutV
  rw [HT.sIx_nat, HT.sIx_none, List.drop_zero, Nat.sub_zero]
  rcases Nat.le_total k xs.length with h | h
  · rw [Nat.min_eq_left h]
  · rw [Nat.min_eq_right h, List.take_of_length_le h, List.take_of_length_le (Nat.le_refl _)]
theorem VdAll.take {H : Hp} : ∀ {vs : List V} {ds : List PyData}, VdAll H vs ds → ∀ n : Nat, VdAll H (vs.take n) (ds.take n)
  | _, _, .nil, n => by simp; exact .nil
  | _, _, .cons h k, 0 => .nil
  | _, _, .cons h k, n + 1 => .cons h (VdAll.take k n)
section
variable {P : Program} {w : World} {K : PySem.W.Frag} {mg : Str → Option Value} {base : Heap} {C CPE cM : Addr} {XA : Str → Addr} {TL : List (Addr × Str)}
def sp_law_made_right (_ : PySem.W.Frag) (_ : Addr) (_ : Str → Addr) (TL : List (Addr × Str)) : Sp := fun vs H Q _ => vs = [] ∧ Tabs TL H ∧ ∀ H', Q (.bl true) H'
theorem ok_law_made_right (D : DefC K mg "_law_made_right" s_law_made_right [] cM) (TK : TabK mg base TL "_law_made_right" cM) (B : Bs mg) (Glb : Glo mg) (WK : WebK K mg C) (EXInvalidWeb : ExcF P w K mg base "value" "InvalidWeb" (XA "InvalidWeb")) (EXInvalidPlaces : ExcF P w K mg base "value" "InvalidPlaces" (XA "InvalidPlaces")) (EXInvalidTies : ExcF P w K mg base "value" "InvalidTies" (XA "InvalidTies")) (EXInvalidPlace : ExcF P w K mg base "value" "InvalidPlace" (XA "InvalidPlace")) (EXInvalidWalk : ExcF P w K mg base "value" "InvalidWalk" (XA "InvalidWalk")) (EXInvalidRound : ExcF P w K mg base "value" "InvalidRound" (XA "InvalidRound")) (EXInvalidWithout : ExcF P w K mg base "value" "InvalidWithout" (XA "InvalidWithout")) (EXInvalidPart : ExcF P w K mg base "value" "InvalidPart" (XA "InvalidPart")) (PErr : mg "PieceError" = some (.ref CPE)) (EXM : ExM K XA CPE)
    (h_law_are : ∀ b, GoodG P w K mg b "_law_are" s_law_are ["_law_word", "_law_odd", "_law_calls"] 23 (sp_law_are K C XA P w mg b))
    (hWeb_many : GoodP P w K mg base C "many" "Web.many" sWeb_many ["self"] 1 (spWeb_many K C XA))
    (hWeb___init__ : ∀ b, GoodJX P w K mg b C "__init__" "Web.__init__" sWeb___init__ ["self", "places", "ties"] 5 (spWeb___init__ K C XA))
    (hWeb_ties : GoodM P w K mg base C "ties" "Web.ties" sWeb_ties ["self"] 1 (spWeb_ties K C XA)) :
    GoodG P w K mg base "_law_made_right" s_law_made_right [] 24 (sp_law_made_right K C XA TL) := by
  obtain ⟨Pt, TB, hTm, hTu⟩ := TK
  refine D.good fun f fd F hcd => ?_
  obtain ⟨f_law_are, d_law_are, O_law_are, m_law_are, k_law_are, b_law_are, F_law_are⟩ := goodGA h_law_are
  obtain ⟨qWeb_many, fWeb_many, dWeb_many, OWeb_many, pWeb_many, bWeb_many⟩ := hWeb_many
  obtain ⟨fWeb___init__, dWeb___init__, OWeb___init__, MK, bWeb___init__, FWeb___init__⟩ := goodJXA hWeb___init__
  obtain ⟨fWeb_ties, dWeb_ties, OWeb_ties, tWeb_ties, bWeb_ties, FWeb_ties⟩ := hWeb_ties
  have kn_Web_ties_places : KBn K dWeb___init__ ["self", "places", "ties"] 1 ["ties", "places"] gm21 gm21 := fun_kbn2r FWeb___init__ (fun _ _ _ _ _ _ _ _ _ => rfl)
  refine FnG.ofCode F hcd sc_law_made_right (fun vs H Q E h => ?_) (fun A outer s H vs Q E hr quiet h => ?_)
  · obtain ⟨rfl, hT, q⟩ := h
    first | rfl | (rcases h with ⟨_, _, rfl, _⟩ | ⟨_, rfl, _⟩ <;> rfl)
  obtain ⟨rfl, hT, q⟩ := h
  have hur := hu70 hr
  refine ⟨_, (pss_cons (ps_for PassesOwn.never rfl (pi_list (lit_lst (lits_cons lit_non (lits_cons lit_int (lits_cons lit_int (lits_cons lit_neg (lits_cons lit_bl (lits_cons (lit_str (by decide +kernel)) (lits_cons (lit_lst (lits_cons lit_int lits_nil)) (lits_cons (lit_tup (lits_cons lit_int lits_nil)) lits_nil)))))))))) (pg_name (i := 0) sc_law_made_right.nd rfl (by first | exact Or.inl rfl | exact Or.inr rfl))
    (pss_cons (ps_set (i := 1) sc_law_made_right.nd rfl (by first | exact Or.inl rfl | exact Or.inr rfl) (pe_lst (pa_cons (pe_lam (k := 20) TB rfl hTm hTu (lamS_by (sc := defScope s_law_made_right) (by decide +kernel)) rfl (fun _ _ _ _ _ => rfl) (fun b2 H2 f2 c2 A2 outer2 s2 E2 hr => (pe_make MK (OWeb___init__ b2) (hr.mono (by decide)) rfl WK.mgC bWeb___init__ .nil (passes_call (takes_of rfl rfl rfl rfl) (fun _ _ _ _ h => h)) (pa_cons (pv 0) (pa_cons pe_non pa_nil))))) pa_nil)))
  (pss_cons (ps_expr (pe_bm PySem.F.plainAttrs_list PySem.F.slot_list_append PySem.F.type_list_append mt_append (pv 1) (pa_cons (pe_lam (k := 20) TB rfl hTm hTu (lamS_by (sc := defScope s_law_made_right) (by decide +kernel)) rfl (fun _ _ _ _ _ => rfl) (fun b2 H2 f2 c2 A2 outer2 s2 E2 hr => (pe_makeKS MK (OWeb___init__ b2) (hr.mono (by decide)) rfl WK.mgC kn_Web_ties_places (fun σ => passAt (takes_of rfl rfl rfl rfl) σ) (pk_cons (lit_lst lits_nil) (pk_cons (pv 0) pk_nil))))) pa_nil)))
  (pss_one (ps_if (pt_not (pt_val (pe_callRb O_law_are (fun _ => rfl) hr quiet rfl m_law_are k_law_are b_law_are (pa_cons pe_str (pa_cons (pv 0) (pa_cons (pv 1) pa_nil))))))
    (pss_one (ps_ret pe_bl)) pss_nil)))))
  (pss_cons (ps_set (i := 2) sc_law_made_right.nd rfl (by first | exact Or.inl rfl | exact Or.inr rfl) (lit_rep (lit_lst (lits_cons (lit_tup (lits_cons lit_int (lits_cons lit_int lits_nil))) lits_nil)) (by decide) (by decide +kernel)))
  (pss_cons (ps_set (i := 3) sc_law_made_right.nd rfl (by first | exact Or.inl rfl | exact Or.inr rfl) (lit_lst (lits_cons lit_non (lits_cons lit_int (lits_cons lit_bl (lits_cons (lit_str (by decide +kernel)) (lits_cons lit_emp (lits_cons (lit_lst (lits_cons lit_non lits_nil)) (lits_cons (lit_lst (lits_cons (lit_lst (lits_cons lit_int (lits_cons lit_int lits_nil))) lits_nil)) (lits_cons (lit_lst (lits_cons (lit_tup (lits_cons lit_int lits_nil)) lits_nil)) (lits_cons (lit_lst (lits_cons (lit_tup (lits_cons lit_int (lits_cons lit_int (lits_cons lit_int lits_nil)))) lits_nil)) (lits_cons (lit_lst (lits_cons (lit_tup (lits_cons lit_int (lits_cons lit_int lits_nil))) lits_nil)) (lits_cons (lit_lst (lits_cons (lit_tup (lits_cons lit_neg (lits_cons lit_int lits_nil))) lits_nil)) lits_nil)))))))))))))
  (pss_cons (ps_for PassesOwn.never rfl (pi_list (pe_op op_cat (pv 3) (pe_lst (pa_cons (lit_lst (lits_cons (lit_tup (lits_cons lit_bl (lits_cons lit_int lits_nil))) lits_nil)) (pa_cons (lit_lst (lits_cons (lit_tup (lits_cons lit_int (lits_cons lit_non lits_nil))) lits_nil)) (pa_cons (lit_tup (lits_cons (lit_tup (lits_cons lit_int (lits_cons lit_int lits_nil))) (lits_cons (lit_tup (lits_cons lit_int (lits_cons lit_int lits_nil))) lits_nil))) (pa_cons (pv 2) pa_nil))))))) (pg_name (i := 0) sc_law_made_right.nd rfl (by first | exact Or.inl rfl | exact Or.inr rfl))
    (pss_cons (ps_set (i := 1) sc_law_made_right.nd rfl (by first | exact Or.inl rfl | exact Or.inr rfl) (pe_lst (pa_cons (pe_lam (k := 20) TB rfl hTm hTu (lamS_by (sc := defScope s_law_made_right) (by decide +kernel)) rfl (fun _ _ _ _ _ => rfl) (fun b2 H2 f2 c2 A2 outer2 s2 E2 hr => (pe_make MK (OWeb___init__ b2) (hr.mono (by decide)) rfl WK.mgC bWeb___init__ .nil (passes_call (takes_of rfl rfl rfl rfl) (fun _ _ _ _ h => h)) (pa_cons pe_int (pa_cons (pv 0) pa_nil))))) pa_nil)))
  (pss_cons (ps_expr (pe_bm PySem.F.plainAttrs_list PySem.F.slot_list_append PySem.F.type_list_append mt_append (pv 1) (pa_cons (pe_lam (k := 20) TB rfl hTm hTu (lamS_by (sc := defScope s_law_made_right) (by decide +kernel)) rfl (fun _ _ _ _ _ => rfl) (fun b2 H2 f2 c2 A2 outer2 s2 E2 hr => (pe_makeKS MK (OWeb___init__ b2) (hr.mono (by decide)) rfl WK.mgC kn_Web_ties_places (fun σ => passAt (takes_of rfl rfl rfl rfl) σ) (pk_cons (pv 0) (pk_cons pe_int pk_nil))))) pa_nil)))
  (pss_one (ps_if (pt_not (pt_val (pe_callRb O_law_are (fun _ => rfl) hr quiet rfl m_law_are k_law_are b_law_are (pa_cons pe_str (pa_cons (pv 0) (pa_cons (pv 1) pa_nil))))))
    (pss_one (ps_ret pe_bl)) pss_nil)))))
  (pss_one (ps_ret (pe_and (pe_cmpR op_eq (pe_prop (pe_make MK (OWeb___init__ _) (hr.mono (by decide)) rfl WK.mgC bWeb___init__ .nil (passes_call takes0 (fun _ _ _ _ h => h)) (pa_cons pe_int (pa_cons (pe_slice sl_list (pv 2) po_none (po_some pe_int)) pa_nil))) WK.cl pWeb_many OWeb_many (hr.mono (by decide)) bWeb_many .nil pass0 (by rfl)) pe_int (nomark _)) (pe_one (pe_cmpR (op_eqD hr.units) (pe_meth0 (pe_make MK (OWeb___init__ _) (hr.mono (by decide)) rfl WK.mgC bWeb___init__ .nil (passes_call takes0 (fun _ _ _ _ h => h)) (pa_cons pe_int (pa_cons (lit_tup (lits_cons (lit_tup (lits_cons lit_int (lits_cons lit_int lits_nil))) lits_nil)) pa_nil))) WK.cl tWeb_ties OWeb_ties (hr.mono (by decide)) bWeb_ties .nil pass0) (lit_lst (lits_cons (lit_tup (lits_cons lit_int (lits_cons lit_int lits_nil))) lits_nil)) (nomark _)))))))))), ?_⟩
  intro v0 H1 s1 n1 hv1
  cases hv1 with
  | @lst t xs ds ht hk =>
  refine ⟨t, rfl, ⟨_, SqL.of ht⟩, for_list (K := K) (a := t) (xs := xs) (fun i σ H' => Same (noT H1) H' ∧ Tabs TL H' ∧ ∃ v0 v1, σ = [v0, v1, none, none]) ⟨noT_same H1, hT.ext s1, none, none, rfl⟩ (fun i σ H' _ ⟨z, _⟩ => SqL.of (z _ _ (noT_at ht (fun ps y => by cases y)))) ?_ ?_⟩
  · rintro i x σ S hx ⟨sS, m0, v0, v1, rfl⟩
    obtain ⟨d, hd, hvd⟩ := hk.at hx
    have hq : Fq d := fq_of (List.all_eq_true.mp (by decide +kernel) d (List.mem_of_getElem? hd))
    have hd0 : btwO 1 60 (numD d) = false := by
      have h := List.all_eq_true (p := fun d => !btwO 1 60 (numD d)).mp (by decide +kernel) d (List.mem_of_getElem? hd)
      simpa using h
    have hvS : Vd (noT S) x d := ((hvd.noT.same sS).noT)
    have s0 : Same (noT S) S := noT_same S
    refine ⟨m0, fun f H3 e3 T3 n3 o3 c => ⟨(by show 1 ≤ sizeLine; decide), fun p np => ?_⟩⟩
    have m : Mkg _ S TL (fun y : L2.St => y[0]? = some (some x)) (fun b H f => Hears P w K mg b XA H f 1 x) p 1 _ := Mkg.one s0 e3 T3 np (hears_mk (S := S) (G := fun y : L2.St => y[0]? = some (some x)) c fun b2 σ2 H4 Q2 E2 g s4 hz => by exact ⟨_, g, fun xx dx nx nd ne => mk_bad hd0 (hvS.same s4) .non nx nd ne hz⟩)
    obtain ⟨fs, hl, _⟩ := m.fs
    refine ⟨_, rfl, .inl ⟨rfl, _, SqL.of hl⟩, m.t, fun f H3 e3 T3 n3 o3 c => ?_⟩
    obtain ⟨xs, g1, g2, m⟩ := m.add e3 T3 (hears_mk (S := S) (G := fun y : L2.St => y[0]? = some (some x)) c fun b2 σ2 H4 Q2 E2 g s4 hz => by exact fun tv H5 s5 n5 ht5 => ⟨_, g, rfl, fun xx dx nx nd ne => mk_bad hd0 ((hvS.same s4).same s5) ht5 nx nd ne (hz.same s5)⟩) (by decide)
    refine ⟨p, _, _, rfl, rfl, g1, g2, ?_⟩
    have GG : ([some x, some (.ref p), none, none] : L2.St)[0]? = some (some x) := rfl
    refine ⟨_, rfl, _, rfl, fun b1 R => ?_⟩
    obtain ⟨fs, hl, hlen, hW⟩ := m.fs
    refine ⟨1, x, d, p, fs, rfl, by decide, hl, by omega, fun f hf => hW f hf b1 _ _ R (KeepL.refl _) m.s GG, hvS.same m.s, hq, fun H1 sF => ⟨_, rfl, iteF ?_⟩⟩
    exact ⟨fun b u z => sF _ _ (m.s _ _ (noT_at (sS b u z) (noT_of z).2)), m.t.ext sF, _, _, rfl⟩
  · rintro σ H2 ⟨s2, t2, v0, v1, rfl⟩
    refine fun vl H3 s3 n3 hvl => ?_
    refine fun vo H4 s4 n4 hvo => ?_
    cases hvo with
    | @lst lo xo _ ho ko =>
    refine ⟨_, rfl, fun a1 Ha sa na ha a2 Hb sb nb hb a3 Hc sc nc hc => ⟨_, rfl, (by show 4 ≤ sizeLine; decide), fun p2 np2 => ?_⟩⟩
    refine ⟨lo, p2, _, _, rfl, rfl, same_new np2 _ _ _ (sc _ _ (sb _ _ (sa _ _ ho))), upd_same, ?_, fun p3 np3 => ?_⟩
    · rw [ko.len]
      show 11 + 4 ≤ sizeLine
      decide
    have s5 : Same Hc (upd (upd Hc p2 (.lst [a1, a2, a3, vl])) p3 (.lst (xo ++ [a1, a2, a3, vl]))) := fun b u z => same_new np3 _ _ _ (same_new np2 _ _ _ z)
    have h5 : upd (upd Hc p2 (.lst [a1, a2, a3, vl])) p3 (.lst (xo ++ [a1, a2, a3, vl])) p3 = some (.lst (xo ++ [a1, a2, a3, vl])) := upd_same
    generalize upd (upd Hc p2 (.lst [a1, a2, a3, vl])) p3 (.lst (xo ++ [a1, a2, a3, vl])) = H5 at s5 h5
    have sb5 : Same Hb H5 := fun b u z => s5 _ _ (sc _ _ z)
    have sa5 : Same Ha H5 := fun b u z => sb5 _ _ (sb _ _ z)
    have s45 : Same H4 H5 := fun b u z => sa5 _ _ (sa _ _ z)
    have s35 : Same H3 H5 := fun b u z => s45 _ _ (s4 _ _ z)
    have t5 : Tabs TL H5 := (t2.ext s3).ext s35
    have hk5 := (ko.same s45).app (.cons (ha.same sa5) (.cons (hb.same sb5) (.cons (hc.same s5) (.cons (hvl.same s35) .nil))))
    have hvl5 := hvl.same s35
    refine ⟨p3, rfl, ⟨_, SqL.of h5⟩, for_list (K := K) (a := p3) (xs := xo ++ [a1, a2, a3, vl]) (fun i σ H' => Same (noT H5) H' ∧ Tabs TL H' ∧ ∃ v0 v1, σ = [v0, v1, some vl, some (.ref lo)]) ⟨noT_same H5, t5, v0, v1, rfl⟩ (fun i σ H' _ ⟨z, _⟩ => SqL.of (z _ _ (noT_at h5 (fun ps y => by cases y)))) ?_ ?_⟩
    · rintro i x σ S hx ⟨sS, m0, v0, v1, rfl⟩
      obtain ⟨d, hd, hvd⟩ := hk5.at hx
      have hq : Fq d := fq_of (List.all_eq_true.mp (by decide +kernel) d (List.mem_of_getElem? hd))
      have hd0 : areT 2 d = false := by
        have h := List.all_eq_true (p := fun d => !areT 2 d).mp (by decide +kernel) d (List.mem_of_getElem? hd)
        simpa using h
      have hvS : Vd (noT S) x d := ((hvd.noT.same sS).noT)
      have s0 : Same (noT S) S := noT_same S
      refine ⟨m0, fun f H3 e3 T3 n3 o3 c => ⟨(by show 1 ≤ sizeLine; decide), fun p np => ?_⟩⟩
      have m : Mkg _ S TL (fun y : L2.St => y[0]? = some (some x)) (fun b H f => Hears P w K mg b XA H f 2 x) p 1 _ := Mkg.one s0 e3 T3 np (hears_mk (S := S) (G := fun y : L2.St => y[0]? = some (some x)) c fun b2 σ2 H4 Q2 E2 g s4 hz => by exact ⟨_, g, fun xx dx nx nd ne => mk_badT hd0 (hvS.same s4) nx nd ne hz⟩)
      obtain ⟨fs, hl, _⟩ := m.fs
      refine ⟨_, rfl, .inl ⟨rfl, _, SqL.of hl⟩, m.t, fun f H3 e3 T3 n3 o3 c => ?_⟩
      obtain ⟨xs, g1, g2, m⟩ := m.add e3 T3 (hears_mk (S := S) (G := fun y : L2.St => y[0]? = some (some x)) c fun b2 σ2 H4 Q2 E2 g s4 hz => by exact ⟨_, g, rfl, fun xx dx nx nd ne => mk_badT hd0 (hvS.same s4) nx nd ne hz⟩) (by decide)
      refine ⟨p, _, _, rfl, rfl, g1, g2, ?_⟩
      have GG : ([some x, some (.ref p), some vl, some (.ref lo)] : L2.St)[0]? = some (some x) := rfl
      refine ⟨_, rfl, _, rfl, fun b1 R => ?_⟩
      obtain ⟨fs, hl, hlen, hW⟩ := m.fs
      refine ⟨2, x, d, p, fs, rfl, by decide, hl, by omega, fun f hf => hW f hf b1 _ _ R (KeepL.refl _) m.s GG, hvS.same m.s, hq, fun H1 sF => ⟨_, rfl, iteF ?_⟩⟩
      exact ⟨fun b u z => sF _ _ (m.s _ _ (noT_at (sS b u z) (noT_of z).2)), m.t.ext sF, _, _, rfl⟩
    · rintro σ H6 ⟨s6, t6, v0, v1, rfl⟩
      have hvl6 := hvl5.noT.same s6
      cases hvl6 with
      | @lst ll xl _ hl kl =>
      refine ⟨_, rfl, _, rfl, ll, _, rfl, SqL.of hl, fun p np => ?_⟩
      have ecut : cutV xl none (some 80) = xl.take 80 := cutV_to (k := 80)
      rw [ecut]
      have hp := Vd.lst (H := upd H6 p (.lst (xl.take 80))) upd_same ((kl.take 80).same (sm_new np (.lst (xl.take 80))))
      have hT6 : Tabs TL (upd H6 p (.lst (xl.take 80))) := t6.ext (sm_new np _)
      have hlen : (xl.take 80).length = 80 := by rw [List.length_take, kl.len]; rfl
      refine fun xx dx nx nd ne => ⟨xx, dx, .int 2, .int 2, .ref p, _, rfl, .int 2, hp.same (sm_two nx nd ne), upd_same, (fun z => nomatch z), fun N e h1 h2 hbad => ?_, fun N t ts e e2 ho hT H7 hk7 hw7 => ?_⟩
      · exfalso
        have eN : N = 2 := by injection e with e; omega
        subst eN
        exact absurd hbad (by decide +kernel)
      have eN : N = 2 := by injection e with e; omega
      subst eN
      cases e2
      have ets : ts.length = 80 := by
        obtain ⟨tas, h1, h2⟩ := hT
        have hpx := (sm_two (o1 := .own xx) (o2 := .ins C dx []) nx nd ne) _ _ (upd_same (H := H6) (a := p) (o := .lst (xl.take 80)))
        rw [hpx] at h1
        rw [← paired_len h2]
        rcases h1 with h1 | h1
        · have e3 : xl.take 80 = tas.map V.ref := by injection h1 with h1; injection h1
          rw [e3, List.length_map] at hlen
          exact hlen
        · cases h1
      have hw := hw7.same Sub.same
      obtain ⟨dy, tl, fl, ol, g1, _⟩ := id hw
      refine ⟨rfl, xx, dy, _, rfl, g1, xx, 2, ts, rfl, hw, rfl, ?_⟩
      refine ⟨_, rfl, iteYes (by rw [ets]; rfl) ?_⟩
      refine fun tv H8 s8 n8 ht8 xx2 dx2 nx2 nd2 ne2 => ⟨xx2, dx2, .int 60, .int 60, tv, _, rfl, .int 60, ht8.same (sm_two nx2 nd2 ne2), upd_same, (fun z => nomatch z), fun N e h1 h2 hbad => ?_, fun N t us e e2 ho2 hT2 H9 hk9 hw9 => ?_⟩
      · exfalso
        have eN : N = 60 := by injection e with e; omega
        subst eN
        exact absurd hbad (by decide +kernel)
      have eN : N = 60 := by injection e with e; omega
      subst eN
      subst e2
      have eus := ties_data hT2 (ht8.same (sm_two nx2 nd2 ne2))
      have eus2 : us = [(59, 0)] := by
        match us, eus with
        | [(a, b)], eus =>
          have := Option.some.inj eus
          simp only [List.map_cons, List.map_nil, List.cons.injEq, PyData.tuple.injEq, PyData.int.injEq, and_true] at this
          obtain ⟨h1, h2⟩ := this
          rw [show a = 59 by omega, show b = 0 by omega]
        | [], eus => cases eus
        | _ :: _ :: _, eus => simp [lsD] at eus
      subst eus2
      have hw2 := hw9.same Sub.same
      obtain ⟨dy2, tl2, fl2, ol2, g2, _⟩ := id hw2
      refine ⟨rfl, xx2, dy2, _, rfl, g2, wf_no _ _ _ _ (by decide +kernel) (by decide +kernel) (by decide +kernel) (by decide +kernel), xx2, 60, _, rfl, hw2, fun H10 l nl hS10 hT10 => ?_⟩
      refine fun v2 H11 s11 n11 hv11 => ?_
      cases hv11 with
      | @lst l2 ys _ hl2 hk2 =>
      cases hk2 with
      | @cons y0 _ _ _ hy hk3 =>
      cases hk3
      cases hy with
      | @tup py vs2 _ hpy hkv =>
      cases hkv with
      | @cons z0 _ _ _ hz0 hk4 =>
      cases hz0
      cases hk4 with
      | @cons z1 _ _ _ hz1 hk5 =>
      cases hz1
      cases hk5
      refine ⟨_, tz [(59, 0)], dp_tz (hT10.same s11), .lst (SqL.of hl2) (.cons (.tup (SqT.of hpy) (.cons (.int 59) (.cons (.int 0) .nil))) .nil), shaped_tz _, shaped_tz _, ?_⟩
      rw [SeqAt.eqv_refl _ (SeqAt.canLay_of_shaped (shaped_tz _))]
      exact q _
end
end My
set_option maxHeartbeats 8000000
namespace My
open PySem L2 PyProof.Rows
open LamX hiding takes0
abbrev tsE : List (Nat × Nat) := [(0, 1), (1, 0), (0, 2), (2, 0)]
theorem WebAt.noT {C a : Addr} {N : Nat} {ts : List (Nat × Nat)} {H : Hp} (h : WebAt C a N ts H) : WebAt C a N ts (noT H) := by
  obtain ⟨dx, tl, fl, ol, h1, ⟨tas, t1, t2⟩, ⟨fas, f1, f2, f3⟩, ⟨os, o1, o2, o3⟩⟩ := h
  have n : ∀ {b : Addr} {o : HO}, H b = some o → (∀ ps, o ≠ .tbl ps) → My.noT H b = some o := fun h k => noT_at h k
  exact ⟨dx, tl, fl, ol, n h1 (fun ps z => by cases z), ⟨tas, n t1 (fun ps z => by cases z), paired_mono (fun p e hp => n hp (fun ps z => by cases z)) t2⟩, ⟨fas, n f1 (fun ps z => by cases z), f2, fun j x e => n (f3 j x e) (fun ps z => by cases z)⟩, ⟨os, n o1 (fun ps z => by cases z), o2, fun j x e => n (o3 j x e) (fun ps z => by cases z)⟩⟩
def lenB (d : PyData) : Bool := match lsD d with | some l => decide (l.length ≤ 1000) | none => true
theorem len_val {d : PyData} (h : lenB d = true) : ∀ os, valD d = some os → os.length ≤ 1000 := by
  intro os e
  unfold valD at e
  unfold lenB at h
  cases hl : lsD d with
  | none => rw [hl] at e; cases e
  | some l =>
    rw [hl] at e h
    cases e
    rw [List.length_map]
    exact of_decide_eq_true h
theorem len_ls {d : PyData} (h : lenB d = true) : ∀ l, lsD d = some l → l.length ≤ 1000 := by
  intro l e
  unfold lenB at h
  rw [e] at h
  exact of_decide_eq_true h
theorem len_of {o : Option (List (Option Int))} {R : List Nat} (e : o = some (nz R)) (h : R.length ≤ 400) : LenO o 400 := by
  intro os e2
  rw [e] at e2
  cases e2
  rw [len_nz]
  omega
def onB (ts : List (Nat × Nat)) (R : List Nat) : Bool := (List.range (R.length - 1)).all fun i => (ts.getD (R.getD (i + 1) 0) (0, 0)).1 == (ts.getD (R.getD i 0) (0, 0)).2
def natsO (os : List (Option Int)) : List Nat := os.map fun o => (o.getD 0).toNat
theorem natsO_nz (R : List Nat) : natsO (nz R) = R := by
  unfold natsO nz
  rw [List.map_map]
  conv => rhs; rw [← List.map_id R]
  exact List.map_congr_left fun n _ => by simp
/-- what a walk's list must fulfil -/
def walkB (ts : List (Nat × Nat)) (o : Option (List (Option Int))) : Bool := match o with
  | none => false
  | some os => decide (0 < os.length) && os.all (inR ts.length) && onB ts (natsO os)
theorem walk_b {ts : List (Nat × Nat)} {o : Option (List (Option Int))} (h : IsWalk ts o) : walkB ts o = true := by
  obtain ⟨R, rfl, hc⟩ := h
  show (decide (0 < (nz R).length) && (nz R).all (inR ts.length) && onB ts (natsO (nz R))) = true
  rw [natsO_nz, len_nz, decide_eq_true hc.n0, Bool.true_and, Bool.and_eq_true]
  refine ⟨?_, ?_⟩
  · rw [List.all_eq_true]
    intro o ho
    obtain ⟨n, hn, rfl⟩ := List.mem_map.mp ho
    exact inR_lt (hc.num n hn)
  · unfold onB
    rw [List.all_eq_true]
    intro i hi
    have hi := List.mem_range.mp hi
    obtain ⟨x, y, e, f, h1, h2, h3, h4, h5⟩ := hc.on i (by omega)
    rw [List.getD_eq_getElem?_getD, List.getD_eq_getElem?_getD, List.getD_eq_getElem?_getD, List.getD_eq_getElem?_getD, h1, h2]
    simp only [Option.getD_some]
    rw [h3, h4]
    simp [h5]
def roundB (ts : List (Nat × Nat)) (o : Option (List (Option Int))) : Bool := walkB ts o && (match o with
  | none => false
  | some os => (ts.getD ((natsO os).getD 0 0) (0, 0)).1 == (ts.getD ((natsO os).getD ((natsO os).length - 1) 0) (0, 0)).2)
theorem round_b {ts : List (Nat × Nat)} {o : Option (List (Option Int))} (h : IsRound ts o) : roundB ts o = true := by
  obtain ⟨R, rfl, hc, x, y, e, f, h1, h2, h3, h4, h5⟩ := h
  unfold roundB
  rw [walk_b ⟨R, rfl, hc⟩, Bool.true_and]
  show ((ts.getD ((natsO (nz R)).getD 0 0) (0, 0)).1 == (ts.getD ((natsO (nz R)).getD ((natsO (nz R)).length - 1) 0) (0, 0)).2) = true
  rw [natsO_nz, List.getD_eq_getElem?_getD, List.getD_eq_getElem?_getD, List.getD_eq_getElem?_getD, List.getD_eq_getElem?_getD, h1, h2]
  simp only [Option.getD_some]
  rw [h3, h4]
  simp [h5]
theorem round01 : IsRound tsE (some (nz [0, 1])) := by
  refine ⟨[0, 1], rfl, ⟨by decide, by decide, fun i hi => ?_⟩, 0, 1, (0, 1), (1, 0), rfl, rfl, rfl, rfl, rfl⟩
  have : i = 0 := by simp at hi; omega
  subst this
  exact ⟨0, 1, (0, 1), (1, 0), rfl, rfl, rfl, rfl, rfl⟩
def natsD : List PyData → Option (List Nat)
  | [] => some []
  | .int i :: r => if 0 ≤ i then (natsD r).map (i.toNat :: ·) else none
  | _ :: _ => none
theorem natsD_map : ∀ R : List Nat, natsD (R.map fun n : Nat => PyData.int (n : Int)) = some R
  | [] => rfl
  | n :: r => by
    show (if 0 ≤ (n : Int) then (natsD (r.map fun n : Nat => PyData.int (n : Int))).map ((n : Int).toNat :: ·) else none) = _
    rw [if_pos (by omega), natsD_map r]
    rfl
def riseB : List Nat → Bool
  | a :: b :: r => decide (a < b) && riseB (b :: r)
  | _ => true
theorem rise_b : ∀ {R : List Nat}, R.Pairwise (· < ·) → riseB R = true
  | [], _ => rfl
  | [_], _ => rfl
  | a :: b :: r, h => by
    have h1 := List.pairwise_cons.mp h
    show (decide (a < b) && riseB (b :: r)) = true
    rw [decide_eq_true (h1.1 b List.mem_cons_self), rise_b h1.2]
    rfl
/-- a part of the eight has all three places, rising -/
def partB (d : PyData) : Bool := match lsD d with
  | none => false
  | some l => match natsD l with
    | none => false
    | some R => decide (0 ∈ R) && decide (1 ∈ R) && decide (2 ∈ R) && riseB R
theorem part_b {R : List Nat} (h : R ∈ partsL (Ed tsE) 3) : 0 ∈ R ∧ 1 ∈ R ∧ 2 ∈ R ∧ R.Pairwise (· < ·) := by
  obtain ⟨p, hp, rfl⟩ := List.mem_map.mp h
  have e01 : Rch (Ed tsE) 0 1 := rch_one ⟨0, rfl, by simp⟩
  have e10 : Rch (Ed tsE) 1 0 := rch_one ⟨1, rfl, by simp⟩
  have e02 : Rch (Ed tsE) 0 2 := rch_one ⟨2, rfl, by simp⟩
  have e20 : Rch (Ed tsE) 2 0 := rch_one ⟨3, rfl, by simp⟩
  have hp3 := (headsL_mem.mp hp).1
  have to0 : ∀ p, p < 3 → Rch (Ed tsE) p 0 ∧ Rch (Ed tsE) 0 p := fun p h => by
    match p, h with
    | 0, _ => exact ⟨rch_refl 0, rch_refl 0⟩
    | 1, _ => exact ⟨e10, e01⟩
    | 2, _ => exact ⟨e20, e02⟩
  have all : ∀ x, x < 3 → x ∈ clsL (Ed tsE) 3 p := fun x hx => clsL_mem.mpr ⟨hx, rch_trans (to0 p hp3).1 (to0 x hx).2, rch_trans (to0 x hx).1 (to0 p hp3).2⟩
  exact ⟨all 0 (by decide), all 1 (by decide), all 2 (by decide), clsL_rising⟩
theorem no_part {d : PyData} (h : partB d = false) : ∀ R : List Nat, lsD d = some (R.map fun n : Nat => PyData.int (n : Int)) → R ∉ partsL (Ed tsE) 3 := by
  intro R e hR
  obtain ⟨h0, h1, h2, hr⟩ := part_b hR
  unfold partB at h
  rw [e] at h
  simp only [natsD_map] at h
  rw [decide_eq_true h0, decide_eq_true h1, decide_eq_true h2, rise_b hr] at h
  cases h
theorem chain_rep (n : Nat) (h : 0 < n) : Chain [(0, 0)] (List.replicate n 0) := by
  refine ⟨by simpa using h, fun x hx => by rw [List.eq_of_mem_replicate hx]; decide, fun i hi => ⟨0, 0, (0, 0), (0, 0), ?_, ?_, rfl, rfl, rfl⟩⟩
  · rw [List.getElem?_replicate, if_pos (by simp at hi; omega)]
  · rw [List.getElem?_replicate, if_pos (by simpa using hi)]
theorem back_rep (n : Nat) (h : 0 < n) : BackAt [(0, 0)] (List.replicate n 0) := by
  refine ⟨0, 0, (0, 0), (0, 0), ?_, ?_, rfl, rfl, rfl⟩
  · rw [List.getElem?_replicate, if_pos h]
  · rw [List.getElem?_replicate, List.length_replicate, if_pos (by omega)]
theorem rep_one (n : Nat) (d : PyData) : (List.replicate n [d]).flatten = List.replicate n d := by
  induction n with
  | zero => rfl
  | succ n ih => rw [List.replicate_succ, List.flatten_cons, ih, List.replicate_succ]; rfl
theorem val_rep (n : Nat) : valD (.list (List.replicate n (PyData.int 0))) = some (nz (List.replicate n 0)) := by
  show some ((List.replicate n (PyData.int 0)).map numD) = _
  unfold nz
  rw [List.map_replicate, List.map_replicate]
  rfl
theorem vds_rep {H : Hp} : ∀ {xs : List V} {n : Nat}, VdAll H xs (List.replicate n (PyData.int 0)) → xs = iv (List.replicate n 0)
  | [], 0, _ => rfl
  | [], n + 1, h => by rw [List.replicate_succ] at h; cases h
  | _ :: _, 0, h => by cases h
  | x :: xs, n + 1, h => by
    rw [List.replicate_succ] at h
    cases h with
    | cons h k =>
      cases h
      rw [vds_rep k, List.replicate_succ]
      rfl
section
variable {P : Program} {w : World} {K : PySem.W.Frag} {mg : Str → Option Value} {base : Heap} {C CPE cM : Addr} {XA : Str → Addr} {TL : List (Addr × Str)}
def sp_law_others_right (_ : PySem.W.Frag) (C : Addr) (_ : Str → Addr) (TL : List (Addr × Str)) : Sp := fun vs H Q _ => ∃ a b, vs = [.ref a, .ref b] ∧ WebAt C a 3 tsE H ∧ WebAt C b 1 [(0, 0)] H ∧ OkWeb 3 tsE ∧ Tabs TL H ∧ ∀ H', Q (.bl true) H'
theorem ok_law_others_right (D : DefC K mg "_law_others_right" s_law_others_right ["_law_web", "_law_loop"] cM) (TK : TabK mg base TL "_law_others_right" cM) (B : Bs mg) (Glb : Glo mg) (WK : WebK K mg C) (EXInvalidWeb : ExcF P w K mg base "value" "InvalidWeb" (XA "InvalidWeb")) (EXInvalidPlaces : ExcF P w K mg base "value" "InvalidPlaces" (XA "InvalidPlaces")) (EXInvalidTies : ExcF P w K mg base "value" "InvalidTies" (XA "InvalidTies")) (EXInvalidPlace : ExcF P w K mg base "value" "InvalidPlace" (XA "InvalidPlace")) (EXInvalidWalk : ExcF P w K mg base "value" "InvalidWalk" (XA "InvalidWalk")) (EXInvalidRound : ExcF P w K mg base "value" "InvalidRound" (XA "InvalidRound")) (EXInvalidWithout : ExcF P w K mg base "value" "InvalidWithout" (XA "InvalidWithout")) (EXInvalidPart : ExcF P w K mg base "value" "InvalidPart" (XA "InvalidPart")) (PErr : mg "PieceError" = some (.ref CPE)) (EXM : ExM K XA CPE)
    (h_law_are : ∀ b, GoodG P w K mg b "_law_are" s_law_are ["_law_word", "_law_odd", "_law_calls"] 23 (sp_law_are K C XA P w mg b))
    (hleads : ∀ b, GoodX P w K mg b "leads" sleads ["web", "walk"] 8 (spleads K C XA))
    (hcovers : ∀ b, GoodX P w K mg b "covers" scovers ["web", "tour"] 8 (spcovers K C XA))
    (hreach : ∀ b, GoodX P w K mg b "reach" sreach ["web", "place", "without"] 6 (spreach K C XA))
    (hway : ∀ b, GoodX P w K mg b "way" sway ["web", "near", "far", "without"] 7 (spway K C XA))
    (hwalk_in_round : ∀ b, GoodX P w K mg b "walk_in_round" swalk_in_round ["web", "tour", "walk"] 8 (spwalk_in_round K C XA))
    (his_walk : ∀ b, GoodX P w K mg b "is_walk" sis_walk ["web", "value"] 6 (spis_walk K C XA))
    (his_round : ∀ b, GoodX P w K mg b "is_round" sis_round ["web", "value"] 6 (spis_round K C XA))
    (hpart_web : ∀ b, GoodX P w K mg b "part_web" spart_web ["web", "part"] 7 (sppart_web K C XA))
    (hWeb_ties_from : ∀ b, GoodMX P w K mg b C "ties_from" "Web.ties_from" sWeb_ties_from ["self", "place"] 5 (spWeb_ties_from K C XA))
    (hWeb_ties_to : ∀ b, GoodMX P w K mg b C "ties_to" "Web.ties_to" sWeb_ties_to ["self", "place"] 5 (spWeb_ties_to K C XA)) :
    GoodG P w K mg base "_law_others_right" s_law_others_right ["_law_web", "_law_loop"] 24 (sp_law_others_right K C XA TL) := by
  obtain ⟨Pt, TB, hTm, hTu⟩ := TK
  refine D.good fun f fd F hcd => ?_
  obtain ⟨f_law_are, d_law_are, O_law_are, m_law_are, k_law_are, b_law_are, F_law_are⟩ := goodGA h_law_are
  obtain ⟨fleads, dleads, Oleads, mleads, kleads, bleads, Fleads⟩ := goodXA hleads
  obtain ⟨fcovers, dcovers, Ocovers, mcovers, kcovers, bcovers, Fcovers⟩ := goodXA hcovers
  obtain ⟨freach, dreach, Oreach, mreach, kreach, breach, Freach⟩ := goodXA hreach
  obtain ⟨fway, dway, Oway, mway, kway, bway, Fway⟩ := goodXA hway
  obtain ⟨fwalk_in_round, dwalk_in_round, Owalk_in_round, mwalk_in_round, kwalk_in_round, bwalk_in_round, Fwalk_in_round⟩ := goodXA hwalk_in_round
  obtain ⟨fis_walk, dis_walk, Ois_walk, mis_walk, kis_walk, bis_walk, Fis_walk⟩ := goodXA his_walk
  obtain ⟨fis_round, dis_round, Ois_round, mis_round, kis_round, bis_round, Fis_round⟩ := goodXA his_round
  obtain ⟨fpart_web, dpart_web, Opart_web, mpart_web, kpart_web, bpart_web, Fpart_web⟩ := goodXA hpart_web
  obtain ⟨fWeb_ties_from, dWeb_ties_from, OWeb_ties_from, tWeb_ties_from, bWeb_ties_from, FWeb_ties_from⟩ := goodMXA hWeb_ties_from
  obtain ⟨fWeb_ties_to, dWeb_ties_to, OWeb_ties_to, tWeb_ties_to, bWeb_ties_to, FWeb_ties_to⟩ := goodMXA hWeb_ties_to
  have kb_covers_tour_web : KBinds K dcovers ["web", "tour"] ["tour", "web"] g21 g21 := fun_kbinds Fcovers g21 g21 rel21 (fun _ _ _ _ _ _ us ws hl => by
    obtain ⟨rfl, a0, a1, rfl⟩ := g21_inv hl
    rfl)
  have kb_reach_without_place_web : KBinds K dreach ["web", "place", "without"] ["without", "place", "web"] gR gR := fun_kbinds Freach gR gR relR (fun _ _ _ _ _ _ us ws hl => by
    obtain ⟨rfl, a0, a1, a2, rfl⟩ := gR_inv3 hl
    rfl)
  have kb_walk_in_round_walk_tour_web : KBinds K dwalk_in_round ["web", "tour", "walk"] ["walk", "tour", "web"] gR gR := fun_kbinds Fwalk_in_round gR gR relR (fun _ _ _ _ _ _ us ws hl => by
    obtain ⟨rfl, a0, a1, a2, rfl⟩ := gR_inv3 hl
    rfl)
  have kb_Web_ties_to_place : KBinds K dWeb_ties_to ["self", "place"] ["place"] gm1 gm1 := fun_kbinds FWeb_ties_to gm1 gm1 relm1 (fun _ _ _ _ _ _ us ws hl => by
    obtain ⟨a0, a1, rfl, rfl⟩ := gm1_inv hl
    rfl)
  refine FnG.ofCode F hcd sc_law_others_right (fun vs H Q E h => ?_) (fun A outer s H vs Q E hr quiet h => ?_)
  · obtain ⟨a, b, rfl, hwE, hwL, hoE, hT, q⟩ := h
    first | rfl | (rcases h with ⟨_, _, rfl, _⟩ | ⟨_, rfl, _⟩ <;> rfl)
  obtain ⟨a, b, rfl, hwE, hwL, hoE, hT, q⟩ := h
  have hur := hu70 hr
  refine ⟨_, (pss_cons (ps_for PassesOwn.never rfl (pi_list (lit_lst (lits_cons lit_non (lits_cons lit_neg (lits_cons lit_int (lits_cons lit_bl (lits_cons (lit_str (by decide +kernel)) (lits_cons (lit_lst (lits_cons lit_int lits_nil)) lits_nil)))))))) (pg_name (i := 2) sc_law_others_right.nd rfl (by first | exact Or.inl rfl | exact Or.inr rfl))
    (pss_cons (ps_set (i := 3) sc_law_others_right.nd rfl (by first | exact Or.inl rfl | exact Or.inr rfl) (pe_lst (pa_cons (pe_lam (k := 20) TB rfl hTm hTu (lamS_by (sc := defScope s_law_others_right) (by decide +kernel)) rfl (fun _ _ _ _ _ => rfl) (fun b2 H2 f2 c2 A2 outer2 s2 E2 hr => (pe_meth (pv 0) WK.cl tWeb_ties_from (OWeb_ties_from b2) (hr.mono (by decide)) bWeb_ties_from .nil (passes_call (takes_of rfl rfl rfl rfl) (fun _ _ _ _ h => h)) (pa_cons (pv 2) pa_nil)))) pa_nil)))
  (pss_cons (ps_expr (pe_bm PySem.F.plainAttrs_list PySem.F.slot_list_append PySem.F.type_list_append mt_append (pv 3) (pa_cons (pe_lam (k := 20) TB rfl hTm hTu (lamS_by (sc := defScope s_law_others_right) (by decide +kernel)) rfl (fun _ _ _ _ _ => rfl) (fun b2 H2 f2 c2 A2 outer2 s2 E2 hr => (pe_methKK (pv 0) WK.cl tWeb_ties_to (OWeb_ties_to b2) (hr.mono (by decide)) kb_Web_ties_to_place (passes_call (takes_of rfl rfl rfl rfl) (fun _ _ _ _ h => h)) (pk_cons (pv 2) pk_nil)))) pa_nil)))
  (pss_cons (ps_expr (pe_bm PySem.F.plainAttrs_list PySem.F.slot_list_append PySem.F.type_list_append mt_append (pv 3) (pa_cons (pe_lam (k := 20) TB rfl hTm hTu (lamS_by (sc := defScope s_law_others_right) (by decide +kernel)) rfl (fun _ _ _ _ _ => rfl) (fun b2 H2 f2 c2 A2 outer2 s2 E2 hr => (pe_callS (Oreach b2) (hr.mono (by decide)) rfl mreach kreach breach (fun σ => passAt (takes_of rfl rfl rfl rfl) σ) (pa_cons (pv 0) (pa_cons (pv 2) (pa_cons pe_non pa_nil)))))) pa_nil)))
  (pss_cons (ps_expr (pe_bm PySem.F.plainAttrs_list PySem.F.slot_list_append PySem.F.type_list_append mt_append (pv 3) (pa_cons (pe_lam (k := 20) TB rfl hTm hTu (lamS_by (sc := defScope s_law_others_right) (by decide +kernel)) rfl (fun _ _ _ _ _ => rfl) (fun b2 H2 f2 c2 A2 outer2 s2 E2 hr => (pe_callS (Oway b2) (hr.mono (by decide)) rfl mway kway bway (fun σ => passAt (takes_of rfl rfl rfl rfl) σ) (pa_cons (pv 0) (pa_cons (pv 2) (pa_cons pe_non (pa_cons pe_non pa_nil))))))) pa_nil)))
  (pss_cons (ps_expr (pe_bm PySem.F.plainAttrs_list PySem.F.slot_list_append PySem.F.type_list_append mt_append (pv 3) (pa_cons (pe_lam (k := 20) TB rfl hTm hTu (lamS_by (sc := defScope s_law_others_right) (by decide +kernel)) rfl (fun _ _ _ _ _ => rfl) (fun b2 H2 f2 c2 A2 outer2 s2 E2 hr => (pe_callS (Oway b2) (hr.mono (by decide)) rfl mway kway bway (fun σ => passAt (takes_of rfl rfl rfl rfl) σ) (pa_cons (pv 0) (pa_cons pe_int (pa_cons (pv 2) (pa_cons pe_non pa_nil))))))) pa_nil)))
  (pss_one (ps_if (pt_not (pt_val (pe_callRb O_law_are (fun _ => rfl) hr quiet rfl m_law_are k_law_are b_law_are (pa_cons pe_str (pa_cons (pv 2) (pa_cons (pv 3) pa_nil))))))
    (pss_one (ps_ret pe_bl)) pss_nil))))))))
  (pss_cons (ps_for PassesOwn.never rfl (pi_list (lit_lst (lits_cons lit_non (lits_cons lit_int (lits_cons lit_bl (lits_cons (lit_str (by decide +kernel)) (lits_cons (lit_lst lits_nil) (lits_cons (lit_tup lits_nil) (lits_cons (lit_lst (lits_cons lit_int lits_nil)) (lits_cons (lit_lst (lits_cons lit_neg lits_nil)) (lits_cons (lit_lst (lits_cons lit_bl lits_nil)) (lits_cons (lit_lst (lits_cons (lit_str (by decide +kernel)) lits_nil)) (lits_cons (lit_lst (lits_cons lit_int (lits_cons lit_int lits_nil))) (lits_cons (lit_lst (lits_cons (lit_lst (lits_cons lit_int lits_nil)) lits_nil)) (lits_cons lit_emp lits_nil))))))))))))))) (pg_name (i := 2) sc_law_others_right.nd rfl (by first | exact Or.inl rfl | exact Or.inr rfl))
    (pss_cons (ps_set (i := 3) sc_law_others_right.nd rfl (by first | exact Or.inl rfl | exact Or.inr rfl) (pe_lst (pa_cons (pe_lam (k := 20) TB rfl hTm hTu (lamS_by (sc := defScope s_law_others_right) (by decide +kernel)) rfl (fun _ _ _ _ _ => rfl) (fun b2 H2 f2 c2 A2 outer2 s2 E2 hr => (pe_callS (Oleads b2) (hr.mono (by decide)) rfl mleads kleads bleads (fun σ => passAt (takes_of rfl rfl rfl rfl) σ) (pa_cons (pv 0) (pa_cons (pv 2) pa_nil))))) pa_nil)))
  (pss_cons (ps_expr (pe_bm PySem.F.plainAttrs_list PySem.F.slot_list_append PySem.F.type_list_append mt_append (pv 3) (pa_cons (pe_lam (k := 20) TB rfl hTm hTu (lamS_by (sc := defScope s_law_others_right) (by decide +kernel)) rfl (fun _ _ _ _ _ => rfl) (fun b2 H2 f2 c2 A2 outer2 s2 E2 hr => (pe_callKS (Owalk_in_round b2) (hr.mono (by decide)) (by rfl) mwalk_in_round kwalk_in_round kb_walk_in_round_walk_tour_web (fun σ => passAt (takes_of rfl rfl rfl rfl) σ) (pk_cons (pv 2) (pk_cons (lit_lst (lits_cons lit_int (lits_cons lit_int lits_nil))) (pk_cons (pv 0) pk_nil)))))) pa_nil)))
  (pss_one (ps_if (pt_not (pt_val (pe_callRb O_law_are (fun _ => rfl) hr quiet rfl m_law_are k_law_are b_law_are (pa_cons pe_str (pa_cons (pv 2) (pa_cons (pv 3) pa_nil))))))
    (pss_one (ps_ret pe_bl)) pss_nil)))))
  (pss_cons (ps_for PassesOwn.never rfl (pi_list (lit_lst (lits_cons lit_non (lits_cons lit_int (lits_cons lit_bl (lits_cons (lit_str (by decide +kernel)) (lits_cons (lit_lst lits_nil) (lits_cons (lit_tup lits_nil) (lits_cons (lit_lst (lits_cons lit_int lits_nil)) (lits_cons (lit_lst (lits_cons lit_int lits_nil)) (lits_cons (lit_lst (lits_cons lit_int (lits_cons lit_int (lits_cons lit_int lits_nil)))) (lits_cons (lit_lst (lits_cons lit_bl (lits_cons lit_int lits_nil))) (lits_cons lit_emp lits_nil))))))))))))) (pg_name (i := 2) sc_law_others_right.nd rfl (by first | exact Or.inl rfl | exact Or.inr rfl))
    (pss_cons (ps_set (i := 3) sc_law_others_right.nd rfl (by first | exact Or.inl rfl | exact Or.inr rfl) (pe_lst (pa_cons (pe_lam (k := 20) TB rfl hTm hTu (lamS_by (sc := defScope s_law_others_right) (by decide +kernel)) rfl (fun _ _ _ _ _ => rfl) (fun b2 H2 f2 c2 A2 outer2 s2 E2 hr => (pe_callKS (Ocovers b2) (hr.mono (by decide)) (by rfl) mcovers kcovers kb_covers_tour_web (fun σ => passAt (takes_of rfl rfl rfl rfl) σ) (pk_cons (pv 2) (pk_cons (pv 0) pk_nil))))) pa_nil)))
  (pss_cons (ps_expr (pe_bm PySem.F.plainAttrs_list PySem.F.slot_list_append PySem.F.type_list_append mt_append (pv 3) (pa_cons (pe_lam (k := 20) TB rfl hTm hTu (lamS_by (sc := defScope s_law_others_right) (by decide +kernel)) rfl (fun _ _ _ _ _ => rfl) (fun b2 H2 f2 c2 A2 outer2 s2 E2 hr => (pe_callS (Owalk_in_round b2) (hr.mono (by decide)) rfl mwalk_in_round kwalk_in_round bwalk_in_round (fun σ => passAt (takes_of rfl rfl rfl rfl) σ) (pa_cons (pv 0) (pa_cons (pv 2) (pa_cons pe_non pa_nil)))))) pa_nil)))
  (pss_one (ps_if (pt_not (pt_val (pe_callRb O_law_are (fun _ => rfl) hr quiet rfl m_law_are k_law_are b_law_are (pa_cons pe_str (pa_cons (pv 2) (pa_cons (pv 3) pa_nil))))))
    (pss_one (ps_ret pe_bl)) pss_nil)))))
  (pss_cons (ps_for PassesOwn.never rfl (pi_list (lit_lst (lits_cons lit_non (lits_cons lit_int (lits_cons lit_bl (lits_cons (lit_str (by decide +kernel)) (lits_cons lit_emp (lits_cons (lit_lst (lits_cons lit_int lits_nil)) (lits_cons (lit_lst (lits_cons lit_neg lits_nil)) (lits_cons (lit_lst (lits_cons lit_bl lits_nil)) (lits_cons (lit_lst (lits_cons (lit_str (by decide +kernel)) lits_nil)) (lits_cons (lit_lst (lits_cons lit_non lits_nil)) (lits_cons (lit_lst (lits_cons (lit_lst (lits_cons lit_int lits_nil)) lits_nil)) lits_nil))))))))))))) (pg_name (i := 2) sc_law_others_right.nd rfl (by first | exact Or.inl rfl | exact Or.inr rfl))
    (pss_cons (ps_set (i := 3) sc_law_others_right.nd rfl (by first | exact Or.inl rfl | exact Or.inr rfl) (pe_lst (pa_cons (pe_lam (k := 20) TB rfl hTm hTu (lamS_by (sc := defScope s_law_others_right) (by decide +kernel)) rfl (fun _ _ _ _ _ => rfl) (fun b2 H2 f2 c2 A2 outer2 s2 E2 hr => (pe_callKS (Oreach b2) (hr.mono (by decide)) (by rfl) mreach kreach kb_reach_without_place_web (fun σ => passAt (takes_of rfl rfl rfl rfl) σ) (pk_cons (pv 2) (pk_cons pe_int (pk_cons (pv 0) pk_nil)))))) pa_nil)))
  (pss_cons (ps_expr (pe_bm PySem.F.plainAttrs_list PySem.F.slot_list_append PySem.F.type_list_append mt_append (pv 3) (pa_cons (pe_lam (k := 20) TB rfl hTm hTu (lamS_by (sc := defScope s_law_others_right) (by decide +kernel)) rfl (fun _ _ _ _ _ => rfl) (fun b2 H2 f2 c2 A2 outer2 s2 E2 hr => (pe_callS (Oway b2) (hr.mono (by decide)) rfl mway kway bway (fun σ => passAt (takes_of rfl rfl rfl rfl) σ) (pa_cons (pv 0) (pa_cons pe_int (pa_cons pe_int (pa_cons (pv 2) pa_nil))))))) pa_nil)))
  (pss_one (ps_if (pt_not (pt_val (pe_callRb O_law_are (fun _ => rfl) hr quiet rfl m_law_are k_law_are b_law_are (pa_cons pe_str (pa_cons (pv 2) (pa_cons (pv 3) pa_nil))))))
    (pss_one (ps_ret pe_bl)) pss_nil)))))
  (pss_cons (ps_for PassesOwn.never rfl (pi_list (lit_lst (lits_cons lit_non (lits_cons lit_int (lits_cons lit_bl (lits_cons (lit_str (by decide +kernel)) (lits_cons lit_emp (lits_cons (lit_lst lits_nil) (lits_cons (lit_lst (lits_cons lit_int lits_nil)) (lits_cons (lit_lst (lits_cons lit_int (lits_cons lit_int (lits_cons lit_int lits_nil)))) (lits_cons (lit_lst (lits_cons lit_int (lits_cons lit_int lits_nil))) (lits_cons (lit_lst (lits_cons (lit_lst (lits_cons lit_int (lits_cons lit_int (lits_cons lit_int lits_nil)))) lits_nil)) (lits_cons (lit_lst (lits_cons lit_int (lits_cons lit_int (lits_cons lit_bl lits_nil)))) lits_nil))))))))))))) (pg_name (i := 2) sc_law_others_right.nd rfl (by first | exact Or.inl rfl | exact Or.inr rfl))
    (pss_one (ps_if (pt_not (pt_val (pe_callRb O_law_are (fun _ => rfl) hr quiet rfl m_law_are k_law_are b_law_are (pa_cons pe_str (pa_cons (pv 2) (pa_cons (pe_lst (pa_cons (pe_lam (k := 20) TB rfl hTm hTu (lamS_by (sc := defScope s_law_others_right) (by decide +kernel)) rfl (fun _ _ _ _ _ => rfl) (fun b2 H2 f2 c2 A2 outer2 s2 E2 hr => (pe_callS (Opart_web b2) (hr.mono (by decide)) rfl mpart_web kpart_web bpart_web (fun σ => passAt (takes_of rfl rfl rfl rfl) σ) (pa_cons (pv 0) (pa_cons (pv 2) pa_nil))))) pa_nil)) pa_nil))))))
    (pss_one (ps_ret pe_bl)) pss_nil)))
  (pss_cons (ps_set (i := 4) sc_law_others_right.nd rfl (by first | exact Or.inl rfl | exact Or.inr rfl) (lit_rep (lit_lst (lits_cons lit_int lits_nil)) (by decide) (by decide +kernel)))
  (pss_cons (ps_if (pt_not (pt_val (pe_callRb O_law_are (fun _ => rfl) hr quiet rfl m_law_are k_law_are b_law_are (pa_cons pe_str (pa_cons (pv 4) (pa_cons (pe_lst (pa_cons (pe_lam (k := 20) TB rfl hTm hTu (lamS_by (sc := defScope s_law_others_right) (by decide +kernel)) rfl (fun _ _ _ _ _ => rfl) (fun b2 H2 f2 c2 A2 outer2 s2 E2 hr => (pe_callS (Oleads b2) (hr.mono (by decide)) rfl mleads kleads bleads (fun σ => passAt (takes_of rfl rfl rfl rfl) σ) (pa_cons (pv 1) (pa_cons (pv 4) pa_nil))))) pa_nil)) pa_nil))))))
    (pss_one (ps_ret pe_bl)) pss_nil)
  (pss_cons (ps_if (PW.pt (pw_or (pt_cmpR (op_neD hr.units) (pe_callS (Oleads _) (hr.mono (by decide)) rfl mleads kleads bleads (fun σ => passAt takes0 σ) (pa_cons (pv 1) (pa_cons (pe_slice sl_list (pv 4) po_none (po_some pe_int)) pa_nil))) (lit_tup (lits_cons lit_int (lits_cons lit_int lits_nil))) (nomark _)) (pw_or1 (pt_cmpR op_notBl (pe_callS (Ocovers _) (hr.mono (by decide)) rfl mcovers kcovers bcovers (fun σ => passAt takes0 σ) (pa_cons (pv 1) (pa_cons (pv 4) pa_nil))) pe_bl (nomark _)))))
    (pss_one (ps_ret pe_bl)) pss_nil)
  (pss_one (ps_ret (pe_cmpR op_eq (pe_callB (call_repr_q quiet hur) (by rfl) B.repr (by decide +kernel) (pa_cons (pe_lst (pa_cons (pe_callS (Ois_walk _) (hr.mono (by decide)) rfl mis_walk kis_walk bis_walk (fun σ => passAt takes0 σ) (pa_cons (pv 1) (pa_cons (pv 4) pa_nil))) (pa_cons (pe_callS (Ois_round _) (hr.mono (by decide)) rfl mis_round kis_round bis_round (fun σ => passAt takes0 σ) (pa_cons (pv 1) (pa_cons (pv 4) pa_nil))) pa_nil))) pa_nil)) pe_str (nomark _)))))))))))), ?_⟩
  refine fun v1 H1 s1 n1 hv1 => ?_
  cases hv1 with
  | @lst t1 xs1 ds ht1 hk1 =>
  have t1T : Tabs TL H1 := hT.ext s1
  have s1S : Same (noT H) H1 := same_to (noT_same H) s1
  refine ⟨t1, rfl, ⟨_, SqL.of ht1⟩, for_list (K := K) (a := t1) (xs := xs1) (fun i σ H' => Same (noT H1) H' ∧ Tabs TL H' ∧ ∃ v2 v3, σ = [some (.ref a), some (.ref b), v2, v3, none]) ⟨noT_same _, t1T, _, _, rfl⟩ (fun i σ H' _ ⟨z, _⟩ => SqL.of (z _ _ (noT_at ht1 (fun ps y => by cases y)))) ?_ ?_⟩
  · rintro i x σ S hx ⟨sS, m0, v2, v3, rfl⟩
    obtain ⟨d, hd, hvd⟩ := hk1.at hx
    have hmem := List.mem_of_getElem? hd
    have hq : Fq d := fq_of (List.all_eq_true.mp (by decide +kernel) d hmem)
    have h := List.all_eq_true (p := fun d => !inR 3 (numD d)).mp (by decide +kernel) d hmem
    have hd0 : inR 3 (numD d) = false := by simpa using h
    have hvS : Vd (noT S) x d := ((hvd.noT.same sS).noT)
    have sHS : Same (noT H) S := fun b u z => sS _ _ (noT_at (s1S b u z) (noT_of z).2)
    have hwa : WebAt C a 3 tsE (noT S) := (hwE.noT.same sHS).noT
    have s0 : Same (noT S) S := noT_same S
    refine ⟨m0, fun f H3 e3 T3 n3 o3 c => ⟨(by show 1 ≤ sizeLine; decide), fun p np => ?_⟩⟩
    have m : Mkg _ S TL (fun y : L2.St => y[0]? = some (some (.ref a)) ∧ y[2]? = some (some x)) (fun b H f => Hears P w K mg b XA H f 3 x) p 1 _ := Mkg.one s0 e3 T3 np (hears_mk (S := S) (G := fun y : L2.St => y[0]? = some (some (.ref a)) ∧ y[2]? = some (some x)) c fun b2 σ2 H4 Q2 E2 g s4 hz => by obtain ⟨dx, tl, fl, ol, h1, _⟩ := id (hwa.same s4); exact ⟨_, g.1, a, dx, _, rfl, h1, (wf_no _ _ _ _ (by decide +kernel) (by decide +kernel) (by decide +kernel) (by decide +kernel)), _, g.2, a, 3, tsE, x, numD d, rfl, hwa.same s4, (hvS.same s4).num, hd0, hz⟩)
    obtain ⟨fs, hl, _⟩ := m.fs
    refine ⟨_, rfl, .inl ⟨rfl, _, SqL.of hl⟩, m.t, fun f H3 e3 T3 n3 o3 c => ?_⟩
    obtain ⟨xs, g1, g2, m⟩ := m.add e3 T3 (hears_mk (S := S) (G := fun y : L2.St => y[0]? = some (some (.ref a)) ∧ y[2]? = some (some x)) c fun b2 σ2 H4 Q2 E2 g s4 hz => by obtain ⟨dx, tl, fl, ol, h1, _⟩ := id (hwa.same s4); exact ⟨_, g.1, a, dx, _, rfl, h1, (wf_no _ _ _ _ (by decide +kernel) (by decide +kernel) (by decide +kernel) (by decide +kernel)), _, g.2, a, 3, tsE, x, numD d, rfl, hwa.same s4, (hvS.same s4).num, hd0, hz⟩) (by decide)
    refine ⟨p, _, _, rfl, rfl, g1, g2, ?_⟩
    obtain ⟨fs, hl, _⟩ := m.fs
    refine ⟨_, rfl, .inl ⟨rfl, _, SqL.of hl⟩, m.t, fun f H3 e3 T3 n3 o3 c => ?_⟩
    obtain ⟨xs, g1, g2, m⟩ := m.add e3 T3 (hears_mk (S := S) (G := fun y : L2.St => y[0]? = some (some (.ref a)) ∧ y[2]? = some (some x)) c fun b2 σ2 H4 Q2 E2 g s4 hz => by exact ⟨_, g.1, _, g.2, _, _, _, rfl, .inr ⟨a, 3, tsE, numD d, rfl, hwa.same s4, (hvS.same s4).num, .inl ⟨hd0, hz⟩⟩⟩) (by decide)
    refine ⟨p, _, _, rfl, rfl, g1, g2, ?_⟩
    obtain ⟨fs, hl, _⟩ := m.fs
    refine ⟨_, rfl, .inl ⟨rfl, _, SqL.of hl⟩, m.t, fun f H3 e3 T3 n3 o3 c => ?_⟩
    obtain ⟨xs, g1, g2, m⟩ := m.add e3 T3 (hears_mk (S := S) (G := fun y : L2.St => y[0]? = some (some (.ref a)) ∧ y[2]? = some (some x)) c fun b2 σ2 H4 Q2 E2 g s4 hz => by exact ⟨_, g.1, _, g.2, _, _, _, _, rfl, .inr ⟨a, 3, tsE, numD d, rfl, hwa.same s4, (hvS.same s4).num, .inl ⟨hd0, hz⟩⟩⟩) (by decide)
    refine ⟨p, _, _, rfl, rfl, g1, g2, ?_⟩
    obtain ⟨fs, hl, _⟩ := m.fs
    refine ⟨_, rfl, .inl ⟨rfl, _, SqL.of hl⟩, m.t, fun f H3 e3 T3 n3 o3 c => ?_⟩
    obtain ⟨xs, g1, g2, m⟩ := m.add e3 T3 (hears_mk (S := S) (G := fun y : L2.St => y[0]? = some (some (.ref a)) ∧ y[2]? = some (some x)) c fun b2 σ2 H4 Q2 E2 g s4 hz => by exact ⟨_, g.1, _, g.2, _, _, _, _, rfl, .inr ⟨a, 3, tsE, some 0, rfl, hwa.same s4, .int 0, .inr ⟨numD d, rfl, (hvS.same s4).num, .inl ⟨hd0, hz⟩⟩⟩⟩) (by decide)
    refine ⟨p, _, _, rfl, rfl, g1, g2, ?_⟩
    have GG : (fun y : L2.St => y[0]? = some (some (.ref a)) ∧ y[2]? = some (some x)) [some (.ref a), some (.ref b), some x, some (.ref p), none] := ⟨rfl, rfl⟩
    refine ⟨_, rfl, _, rfl, fun b1 R => ?_⟩
    obtain ⟨fs, hl, hlen, hW⟩ := m.fs
    refine ⟨3, x, d, p, fs, rfl, by decide, hl, by omega, fun f hf => hW f hf b1 _ _ R (KeepL.refl _) m.s GG, hvS.same m.s, hq, fun H1 sF => ⟨_, rfl, iteF ?_⟩⟩
    exact ⟨fun b u z => sF _ _ (m.s _ _ (noT_at (sS b u z) (noT_of z).2)), m.t.ext sF, _, _, rfl⟩
  rintro σ2 HH1 ⟨q1, tt1, v2, v3, rfl⟩
  have ss1 : Same (noT H) HH1 := fun b u z => q1 _ _ (noT_at (s1S b u z) (noT_of z).2)
  refine fun v2 H2 s2 n2 hv2 => ?_
  cases hv2 with
  | @lst t2 xs2 ds ht2 hk2 =>
  have t2T : Tabs TL H2 := tt1.ext s2
  have s2S : Same (noT H) H2 := same_to ss1 s2
  refine ⟨t2, rfl, ⟨_, SqL.of ht2⟩, for_list (K := K) (a := t2) (xs := xs2) (fun i σ H' => Same (noT H2) H' ∧ Tabs TL H' ∧ ∃ v2 v3, σ = [some (.ref a), some (.ref b), v2, v3, none]) ⟨noT_same _, t2T, _, _, rfl⟩ (fun i σ H' _ ⟨z, _⟩ => SqL.of (z _ _ (noT_at ht2 (fun ps y => by cases y)))) ?_ ?_⟩
  · rintro i x σ S hx ⟨sS, m0, v2, v3, rfl⟩
    obtain ⟨d, hd, hvd⟩ := hk2.at hx
    have hmem := List.mem_of_getElem? hd
    have hq : Fq d := fq_of (List.all_eq_true.mp (by decide +kernel) d hmem)
    have hm : ∀ os, valD d = some os → os.length ≤ 1000 := len_val (List.all_eq_true (p := lenB).mp (by decide +kernel) d hmem)
    have h := List.all_eq_true (p := fun d => !walkB tsE (valD d)).mp (by decide +kernel) d hmem
    have hd0 : ¬ (IsWalk tsE (valD d) ∧ LenO (valD d) 400) := fun z => by rw [walk_b z.1] at h; cases h
    have hvS : Vd (noT S) x d := ((hvd.noT.same sS).noT)
    have sHS : Same (noT H) S := fun b u z => sS _ _ (noT_at (s2S b u z) (noT_of z).2)
    have hwa : WebAt C a 3 tsE (noT S) := (hwE.noT.same sHS).noT
    have s0 : Same (noT S) S := noT_same S
    refine ⟨m0, fun f H3 e3 T3 n3 o3 c => ⟨(by show 1 ≤ sizeLine; decide), fun p np => ?_⟩⟩
    have m : Mkg _ S TL (fun y : L2.St => y[0]? = some (some (.ref a)) ∧ y[2]? = some (some x)) (fun b H f => Hears P w K mg b XA H f 4 x) p 1 _ := Mkg.one s0 e3 T3 np (hears_mk (S := S) (G := fun y : L2.St => y[0]? = some (some (.ref a)) ∧ y[2]? = some (some x)) c fun b2 σ2 H4 Q2 E2 g s4 hz => by exact ⟨_, g.1, _, g.2, _, _, rfl, .inr ⟨a, 3, tsE, valD d, rfl, hwa.same s4, (hvS.same s4).val, hm, fun _ => hz, fun R e hc h4 => absurd ⟨⟨R, e, hc⟩, len_of e h4⟩ hd0⟩⟩)
    obtain ⟨fs, hl, _⟩ := m.fs
    refine ⟨_, rfl, .inl ⟨rfl, _, SqL.of hl⟩, m.t, fun f H3 e3 T3 n3 o3 c => ?_⟩
    obtain ⟨xs, g1, g2, m⟩ := m.add e3 T3 (hears_mk (S := S) (G := fun y : L2.St => y[0]? = some (some (.ref a)) ∧ y[2]? = some (some x)) c fun b2 σ2 H4 Q2 E2 g s4 hz => by exact ⟨_, g.2, fun tv H5 s5 n5 ht5 => ⟨_, g.1, _, _, _, rfl, .inr ⟨a, 3, tsE, some (nz [0, 1]), rfl, (hwa.same s4).same s5, ht5.val, (fun os e => by cases e; decide), .inr ⟨valD d, round01, ((hvS.same s4).same s5).val, hm, hd0, hz.same s5⟩⟩⟩⟩) (by decide)
    refine ⟨p, _, _, rfl, rfl, g1, g2, ?_⟩
    have GG : (fun y : L2.St => y[0]? = some (some (.ref a)) ∧ y[2]? = some (some x)) [some (.ref a), some (.ref b), some x, some (.ref p), none] := ⟨rfl, rfl⟩
    refine ⟨_, rfl, _, rfl, fun b1 R => ?_⟩
    obtain ⟨fs, hl, hlen, hW⟩ := m.fs
    refine ⟨4, x, d, p, fs, rfl, by decide, hl, by omega, fun f hf => hW f hf b1 _ _ R (KeepL.refl _) m.s GG, hvS.same m.s, hq, fun H1 sF => ⟨_, rfl, iteF ?_⟩⟩
    exact ⟨fun b u z => sF _ _ (m.s _ _ (noT_at (sS b u z) (noT_of z).2)), m.t.ext sF, _, _, rfl⟩
  rintro σ2 HH2 ⟨q2, tt2, v2, v3, rfl⟩
  have ss2 : Same (noT H) HH2 := fun b u z => q2 _ _ (noT_at (s2S b u z) (noT_of z).2)
  refine fun v3 H3 s3 n3 hv3 => ?_
  cases hv3 with
  | @lst t3 xs3 ds ht3 hk3 =>
  have t3T : Tabs TL H3 := tt2.ext s3
  have s3S : Same (noT H) H3 := same_to ss2 s3
  refine ⟨t3, rfl, ⟨_, SqL.of ht3⟩, for_list (K := K) (a := t3) (xs := xs3) (fun i σ H' => Same (noT H3) H' ∧ Tabs TL H' ∧ ∃ v2 v3, σ = [some (.ref a), some (.ref b), v2, v3, none]) ⟨noT_same _, t3T, _, _, rfl⟩ (fun i σ H' _ ⟨z, _⟩ => SqL.of (z _ _ (noT_at ht3 (fun ps y => by cases y)))) ?_ ?_⟩
  · rintro i x σ S hx ⟨sS, m0, v2, v3, rfl⟩
    obtain ⟨d, hd, hvd⟩ := hk3.at hx
    have hmem := List.mem_of_getElem? hd
    have hq : Fq d := fq_of (List.all_eq_true.mp (by decide +kernel) d hmem)
    have hm : ∀ os, valD d = some os → os.length ≤ 1000 := len_val (List.all_eq_true (p := lenB).mp (by decide +kernel) d hmem)
    have h := List.all_eq_true (p := fun d => !roundB tsE (valD d)).mp (by decide +kernel) d hmem
    have hd0 : ¬ IsRound tsE (valD d) := fun z => by rw [round_b z] at h; cases h
    have hvS : Vd (noT S) x d := ((hvd.noT.same sS).noT)
    have sHS : Same (noT H) S := fun b u z => sS _ _ (noT_at (s3S b u z) (noT_of z).2)
    have hwa : WebAt C a 3 tsE (noT S) := (hwE.noT.same sHS).noT
    have s0 : Same (noT S) S := noT_same S
    refine ⟨m0, fun f H3 e3 T3 n3 o3 c => ⟨(by show 1 ≤ sizeLine; decide), fun p np => ?_⟩⟩
    have m : Mkg _ S TL (fun y : L2.St => y[0]? = some (some (.ref a)) ∧ y[2]? = some (some x)) (fun b H f => Hears P w K mg b XA H f 5 x) p 1 _ := Mkg.one s0 e3 T3 np (hears_mk (S := S) (G := fun y : L2.St => y[0]? = some (some (.ref a)) ∧ y[2]? = some (some x)) c fun b2 σ2 H4 Q2 E2 g s4 hz => by exact ⟨_, g.2, _, g.1, _, _, rfl, .inr ⟨a, 3, tsE, valD d, rfl, hwa.same s4, (hvS.same s4).val, hm, fun _ => hz, fun R e hc hb => absurd ⟨R, e, hc, hb⟩ hd0⟩⟩)
    obtain ⟨fs, hl, _⟩ := m.fs
    refine ⟨_, rfl, .inl ⟨rfl, _, SqL.of hl⟩, m.t, fun f H3 e3 T3 n3 o3 c => ?_⟩
    obtain ⟨xs, g1, g2, m⟩ := m.add e3 T3 (hears_mk (S := S) (G := fun y : L2.St => y[0]? = some (some (.ref a)) ∧ y[2]? = some (some x)) c fun b2 σ2 H4 Q2 E2 g s4 hz => by exact ⟨_, g.1, _, g.2, _, _, _, rfl, .inr ⟨a, 3, tsE, valD d, rfl, hwa.same s4, (hvS.same s4).val, hm, .inl ⟨hd0, hz⟩⟩⟩) (by decide)
    refine ⟨p, _, _, rfl, rfl, g1, g2, ?_⟩
    have GG : (fun y : L2.St => y[0]? = some (some (.ref a)) ∧ y[2]? = some (some x)) [some (.ref a), some (.ref b), some x, some (.ref p), none] := ⟨rfl, rfl⟩
    refine ⟨_, rfl, _, rfl, fun b1 R => ?_⟩
    obtain ⟨fs, hl, hlen, hW⟩ := m.fs
    refine ⟨5, x, d, p, fs, rfl, by decide, hl, by omega, fun f hf => hW f hf b1 _ _ R (KeepL.refl _) m.s GG, hvS.same m.s, hq, fun H1 sF => ⟨_, rfl, iteF ?_⟩⟩
    exact ⟨fun b u z => sF _ _ (m.s _ _ (noT_at (sS b u z) (noT_of z).2)), m.t.ext sF, _, _, rfl⟩
  rintro σ2 HH3 ⟨q3, tt3, v2, v3, rfl⟩
  have ss3 : Same (noT H) HH3 := fun b u z => q3 _ _ (noT_at (s3S b u z) (noT_of z).2)
  refine fun v4 H4 s4 n4 hv4 => ?_
  cases hv4 with
  | @lst t4 xs4 ds ht4 hk4 =>
  have t4T : Tabs TL H4 := tt3.ext s4
  have s4S : Same (noT H) H4 := same_to ss3 s4
  refine ⟨t4, rfl, ⟨_, SqL.of ht4⟩, for_list (K := K) (a := t4) (xs := xs4) (fun i σ H' => Same (noT H4) H' ∧ Tabs TL H' ∧ ∃ v2 v3, σ = [some (.ref a), some (.ref b), v2, v3, none]) ⟨noT_same _, t4T, _, _, rfl⟩ (fun i σ H' _ ⟨z, _⟩ => SqL.of (z _ _ (noT_at ht4 (fun ps y => by cases y)))) ?_ ?_⟩
  · rintro i x σ S hx ⟨sS, m0, v2, v3, rfl⟩
    obtain ⟨d, hd, hvd⟩ := hk4.at hx
    have hmem := List.mem_of_getElem? hd
    have hq : Fq d := fq_of (List.all_eq_true.mp (by decide +kernel) d hmem)
    have h := List.all_eq_true (p := fun d => !NumS 4 (valD d)).mp (by decide +kernel) d hmem
    have hd0 : NumS tsE.length (valD d) = false := by simpa using h
    have hvS : Vd (noT S) x d := ((hvd.noT.same sS).noT)
    have sHS : Same (noT H) S := fun b u z => sS _ _ (noT_at (s4S b u z) (noT_of z).2)
    have hwa : WebAt C a 3 tsE (noT S) := (hwE.noT.same sHS).noT
    have s0 : Same (noT S) S := noT_same S
    refine ⟨m0, fun f H3 e3 T3 n3 o3 c => ⟨(by show 1 ≤ sizeLine; decide), fun p np => ?_⟩⟩
    have m : Mkg _ S TL (fun y : L2.St => y[0]? = some (some (.ref a)) ∧ y[2]? = some (some x)) (fun b H f => Hears P w K mg b XA H f 6 x) p 1 _ := Mkg.one s0 e3 T3 np (hears_mk (S := S) (G := fun y : L2.St => y[0]? = some (some (.ref a)) ∧ y[2]? = some (some x)) c fun b2 σ2 H4 Q2 E2 g s4 hz => by exact ⟨_, g.2, _, g.1, _, _, _, rfl, .inr ⟨a, 3, tsE, some 0, rfl, hwa.same s4, .int 0, .inr ⟨valD d, rfl, (hvS.same s4).val, hd0, hz⟩⟩⟩)
    obtain ⟨fs, hl, _⟩ := m.fs
    refine ⟨_, rfl, .inl ⟨rfl, _, SqL.of hl⟩, m.t, fun f H3 e3 T3 n3 o3 c => ?_⟩
    obtain ⟨xs, g1, g2, m⟩ := m.add e3 T3 (hears_mk (S := S) (G := fun y : L2.St => y[0]? = some (some (.ref a)) ∧ y[2]? = some (some x)) c fun b2 σ2 H4 Q2 E2 g s4 hz => by exact ⟨_, g.1, _, g.2, _, _, _, _, rfl, .inr ⟨a, 3, tsE, some 0, rfl, hwa.same s4, .int 0, .inr ⟨some 0, rfl, .int 0, .inr ⟨valD d, rfl, (hvS.same s4).val, hd0, hz⟩⟩⟩⟩) (by decide)
    refine ⟨p, _, _, rfl, rfl, g1, g2, ?_⟩
    have GG : (fun y : L2.St => y[0]? = some (some (.ref a)) ∧ y[2]? = some (some x)) [some (.ref a), some (.ref b), some x, some (.ref p), none] := ⟨rfl, rfl⟩
    refine ⟨_, rfl, _, rfl, fun b1 R => ?_⟩
    obtain ⟨fs, hl, hlen, hW⟩ := m.fs
    refine ⟨6, x, d, p, fs, rfl, by decide, hl, by omega, fun f hf => hW f hf b1 _ _ R (KeepL.refl _) m.s GG, hvS.same m.s, hq, fun H1 sF => ⟨_, rfl, iteF ?_⟩⟩
    exact ⟨fun b u z => sF _ _ (m.s _ _ (noT_at (sS b u z) (noT_of z).2)), m.t.ext sF, _, _, rfl⟩
  rintro σ2 HH4 ⟨q4, tt4, v2, v3, rfl⟩
  have ss4 : Same (noT H) HH4 := fun b u z => q4 _ _ (noT_at (s4S b u z) (noT_of z).2)
  refine fun v5 H5 s5 n5 hv5 => ?_
  cases hv5 with
  | @lst t5 xs5 ds ht5 hk5 =>
  have t5T : Tabs TL H5 := tt4.ext s5
  have s5S : Same (noT H) H5 := same_to ss4 s5
  refine ⟨t5, rfl, ⟨_, SqL.of ht5⟩, for_list (K := K) (a := t5) (xs := xs5) (fun i σ H' => Same (noT H5) H' ∧ Tabs TL H' ∧ ∃ v2 v3, σ = [some (.ref a), some (.ref b), v2, v3, none]) ⟨noT_same _, t5T, _, _, rfl⟩ (fun i σ H' _ ⟨z, _⟩ => SqL.of (z _ _ (noT_at ht5 (fun ps y => by cases y)))) ?_ ?_⟩
  · rintro i x σ S hx ⟨sS, m0, v2, v3, rfl⟩
    obtain ⟨d, hd, hvd⟩ := hk5.at hx
    have hmem := List.mem_of_getElem? hd
    have hq : Fq d := fq_of (List.all_eq_true.mp (by decide +kernel) d hmem)
    have hm : ∀ l, lsD d = some l → l.length ≤ 1000 := len_ls (List.all_eq_true (p := lenB).mp (by decide +kernel) d hmem)
    have h := List.all_eq_true (p := fun d => !partB d).mp (by decide +kernel) d hmem
    have hd0 := no_part (by simpa using h : partB d = false)
    have hvS : Vd (noT S) x d := ((hvd.noT.same sS).noT)
    have sHS : Same (noT H) S := fun b u z => sS _ _ (noT_at (s5S b u z) (noT_of z).2)
    have hwa : WebAt C a 3 tsE (noT S) := (hwE.noT.same sHS).noT
    have s0 : Same (noT S) S := noT_same S
    refine ⟨_, rfl, m0, fun f H3 e3 T3 n3 o3 c => ⟨(by show 1 ≤ sizeLine; decide), fun p np => fun b1 R => ?_⟩⟩
    have m : Mkg _ S TL (fun y : L2.St => y[0]? = some (some (.ref a)) ∧ y[2]? = some (some x)) (fun b H f => Hears P w K mg b XA H f 7 x) p 1 _ := Mkg.one s0 e3 T3 np (hears_mk (S := S) (G := fun y : L2.St => y[0]? = some (some (.ref a)) ∧ y[2]? = some (some x)) c fun b2 σ2 H4 Q2 E2 g s4 hz => by exact ⟨_, g.1, _, g.2, _, _, rfl, .inr ⟨a, 3, tsE, d, rfl, hwa.same s4, hoE, hvS.same s4, hm, hd0, hz⟩⟩)
    have GG : (fun y : L2.St => y[0]? = some (some (.ref a)) ∧ y[2]? = some (some x)) [some (.ref a), some (.ref b), some x, v3, none] := ⟨rfl, rfl⟩
    obtain ⟨fs, hl, hlen, hW⟩ := m.fs
    refine ⟨7, x, d, p, fs, rfl, by decide, hl, by omega, fun f hf => hW f hf b1 _ _ R (KeepL.refl _) m.s GG, hvS.same m.s, hq, fun H1 sF => ⟨_, rfl, iteF ?_⟩⟩
    exact ⟨fun b u z => sF _ _ (m.s _ _ (noT_at (sS b u z) (noT_of z).2)), m.t.ext sF, _, _, rfl⟩
  rintro σ2 HH5 ⟨q5, tt5, v2, v3, rfl⟩
  have ss5 : Same (noT H) HH5 := fun b u z => q5 _ _ (noT_at (s5S b u z) (noT_of z).2)
  refine fun vl S s6 n6 hvl => ?_
  rw [rep_one] at hvl
  have hvS := hvl.noT
  have t6 : Tabs TL S := tt5.ext s6
  have s0 : Same (noT S) S := noT_same S
  have sHS : Same (noT H) S := same_to ss5 s6
  have hwb : WebAt C b 1 [(0, 0)] (noT S) := (hwL.noT.same sHS).noT
  have hq : Fq (.list (List.replicate 401 (PyData.int 0))) := fq_of (by decide +kernel)
  refine ⟨_, rfl, t6, fun f H3 e3 T3 n3 o3 c => ⟨(by show 1 ≤ sizeLine; decide), fun p np => fun b1 R => ?_⟩⟩
  have m : Mkg _ S TL (fun y : L2.St => y[1]? = some (some (.ref b)) ∧ y[4]? = some (some vl)) (fun b H f => Hears P w K mg b XA H f 4 vl) p 1 _ := Mkg.one s0 e3 T3 np (hears_mk (S := S) (G := fun y : L2.St => y[1]? = some (some (.ref b)) ∧ y[4]? = some (some vl)) c fun b2 σ2 H4 Q2 E2 g s4 hz => by
    refine ⟨_, g.1, _, g.2, _, _, rfl, .inr ⟨b, 1, [(0, 0)], _, rfl, hwb.same s4, (hvS.same s4).val, ?_, fun _ => hz, fun R e hc h4 => ?_⟩⟩
    · rw [val_rep]
      intro os e
      cases e
      rw [len_nz, List.length_replicate]
      decide
    · exfalso
      rw [val_rep] at e
      have := nz_inj (Option.some.inj e)
      rw [← this, List.length_replicate] at h4
      exact absurd h4 (by decide))
  obtain ⟨fs, hl, hlen, hW⟩ := m.fs
  refine ⟨4, vl, _, p, fs, rfl, by decide, hl, by omega, fun f hf => hW f hf b1 _ _ R (KeepL.refl _) m.s ⟨rfl, rfl⟩, hvS.same m.s, hq, fun H1 sF => ⟨_, rfl, iteF ?_⟩⟩
  have s1 : Same (noT S) H1 := same_to m.s sF
  have hw1 := hwb.same s1
  have hv1 := hvS.same s1
  cases hv1 with
  | @lst ll xl _ hll kl =>
  have exl := vds_rep kl
  subst exl
  refine ⟨_, rfl, _, rfl, _, rfl, ll, _, rfl, SqL.of hll, fun p2 np2 => ?_⟩
  have ecut : cutV (iv (List.replicate 401 0)) none (some 400) = iv (List.replicate 400 0) := by
    refine (cutV_to (k := 400) : cutV (iv (List.replicate 401 0)) none (some 400) = _).trans ?_
    unfold iv
    rw [← List.map_take, List.take_replicate]
    rfl
  rw [ecut]
  have s2 : Same H1 (upd H1 p2 (.lst (iv (List.replicate 400 0)))) := same_new np2 _
  have hp2 : upd H1 p2 (.lst (iv (List.replicate 400 0))) p2 = some (.lst (iv (List.replicate 400 0))) := upd_same
  generalize upd H1 p2 (.lst (iv (List.replicate 400 0))) = H2 at s2 hp2
  have hw2 := hw1.same s2
  refine ⟨_, _, rfl, .inr ⟨b, 1, [(0, 0)], _, rfl, hw2, SeqAt.val (.inl hp2), (fun os e => by cases e; rw [len_nz, List.length_replicate]; decide), fun h => absurd ⟨⟨_, rfl, chain_rep 400 (by decide)⟩, fun os e => by cases e; rw [len_nz, List.length_replicate]; decide⟩ h, fun R e hc h4 H3 t x y e1 f1 k1 k2 k3 k4 s3 nt ht => ?_⟩⟩
  have he1 : e1 = (0, 0) := List.mem_singleton.mp (List.mem_of_getElem? k3)
  have hf1 : f1 = (0, 0) := List.mem_singleton.mp (List.mem_of_getElem? k4)
  subst he1
  subst hf1
  refine fun v3 H4 s4 n4 hv4 => ?_
  cases hv4 with
  | @tup py vs2 _ hpy hkv =>
  cases hkv with
  | @cons z0 _ _ _ hz0 hk4 =>
  cases hz0
  cases hk4 with
  | @cons z1 _ _ _ hz1 hk5 =>
  cases hz1
  cases hk5
  refine ⟨.tuple [.int 0, .int 0], .tuple [.int 0, .int 0], .tup (SqT.of (s4 _ _ ht)) (.cons (.int 0) (.cons (.int 0) .nil)), .tup (SqT.of hpy) (.cons (.int 0) (.cons (.int 0) .nil)), (by decide +kernel), (by decide +kernel), ?_⟩
  rw [SeqAt.eqv_refl (.tuple [.int 0, .int 0]) (SeqAt.canLay_of_shaped (by decide +kernel))]
  refine ⟨_, rfl, iteF ?_⟩
  have s14 : Same H1 H4 := fun b u z => s4 _ _ (s3 _ _ (s2 _ _ z))
  have hll4 := s14 _ _ hll
  have hm401 : ∀ os, some (nz (List.replicate 401 0)) = some os → os.length ≤ 1000 := fun os e => by cases e; rw [len_nz, List.length_replicate]; decide
  refine ⟨_, rfl, _, rfl, _, _, rfl, .inr ⟨b, 1, [(0, 0)], some (nz (List.replicate 401 0)), rfl, hw1.same s14, SeqAt.val (.inl hll4), hm401, fun h => absurd ⟨_, rfl, chain_rep 401 (by decide), back_rep 401 (by decide)⟩ h, fun R e hc hb => ?_⟩⟩
  have eR := nz_inj (Option.some.inj e)
  subst eR
  refine ⟨ll, rfl, hll4, fun b1 H5 hb1 s5 => ?_⟩
  have eb : b1 = true := hb1.mpr fun x hx => by
    have : x = 0 := by simp at hx; exact hx
    rw [this]
    exact List.mem_replicate.mpr ⟨by decide, rfl⟩
  subst eb
  refine ⟨true, true, rfl, rfl, _, rfl, iteF ?_⟩
  have s15 : Same H1 H5 := fun b u z => s5 _ _ (s14 _ _ z)
  have hll5 := s15 _ _ hll
  refine ⟨_, rfl, _, rfl, _, _, rfl, .inr ⟨b, 1, [(0, 0)], some (nz (List.replicate 401 0)), rfl, hw1.same s15, SeqAt.val (.inl hll5), hm401, fun bw H6 hbw s6 => ?_⟩⟩
  have ew : bw = false := by
    cases bw with
    | false => rfl
    | true =>
      have h := (hbw.mp rfl).2 _ rfl
      rw [len_nz, List.length_replicate] at h
      exact absurd h (by decide)
  subst ew
  have s16 : Same H1 H6 := fun b u z => s6 _ _ (s15 _ _ z)
  refine ⟨_, rfl, _, rfl, _, _, rfl, .inr ⟨b, 1, [(0, 0)], some (nz (List.replicate 401 0)), rfl, hw1.same s16, SeqAt.val (.inl (s16 _ _ hll)), hm401, fun br H7 hbr s7 => ?_⟩⟩
  have er : br = true := hbr.mpr ⟨_, rfl, chain_rep 401 (by decide), back_rep 401 (by decide)⟩
  subst er
  refine ⟨(by show 2 ≤ sizeLine; decide), fun p3 np3 => ?_⟩
  refine ⟨_, .list [.bool false, .bool true], rfl, .lst (SqL.of upd_same) (.cons (.bl false) (.cons (.bl true) .nil)), (by decide +kernel), (by decide +kernel), (by decide +kernel), rfl, ?_⟩
  rw [show PyData.shown (.list [.bool false, .bool true]) = Str.ofString "[False, True]" by decide +kernel, decide_eq_true rfl]
  exact q _
end
end My
set_option maxHeartbeats 8000000
namespace My
open PySem L2 PyProof.Rows
open LamX hiding takes0
theorem tabs_kept {TL : List (Addr × Str)} {H H' : Hp} {a : Addr} (t : Tabs TL H) (hp : PotAt H a) (k : Kept a H H') : Tabs TL H' := by
  obtain ⟨x, y, e, _⟩ := hp
  intro q hq
  obtain ⟨ps, h1, h2, h3⟩ := t q hq
  refine ⟨ps, k _ _ h1 (ne_of h1 e (fun z => by cases z)), h2, fun pos cv hc => ?_⟩
  obtain ⟨c, e1, e2⟩ := h3 pos cv hc
  exact ⟨c, e1, k _ _ e2 (ne_of e2 e (fun z => by unfold CodeO at z; cases z))⟩
theorem tie_inj : ∀ {ts us : List (Nat × Nat)}, (ts.map fun e => PyData.tuple [.int (e.1 : Int), .int (e.2 : Int)]) = (us.map fun e => PyData.tuple [.int (e.1 : Int), .int (e.2 : Int)]) → ts = us
  | [], [], _ => rfl
  | [], _ :: _, h => by cases h
  | _ :: _, [], h => by cases h
  | (a, b) :: ts, (c, d) :: us, h => by
    simp only [List.map_cons, List.cons.injEq, PyData.tuple.injEq, PyData.int.injEq, and_true] at h
    obtain ⟨⟨h1, h2⟩, h3⟩ := h
    rw [tie_inj h3, show a = c by omega, show b = d by omega]
theorem mk_good {C : Addr} {XA : Str → Addr} {K : PySem.W.Frag} {H : Hp} {x dx : Addr} {N : Nat} {tv : V} {dt : PyData} {ts : List (Nat × Nat)} {Q : VK} {E : XK} (hN : btwO 1 60 (some (N : Int)) = true) (hA : areT N dt = true) (hd : lsD dt = some (ts.map fun e => PyData.tuple [.int (e.1 : Int), .int (e.2 : Int)])) (ht : Vd H tv dt)
    (nx : H x = none) (nd : H dx = none) (ne : dx ≠ x) (q : ∀ H', Same H H' → WebAt C x N ts H' → Q .non H') : spWeb___init__ K C XA [.ref x, .int (N : Int), tv] (upd (upd H dx (.own x)) x (.ins C dx [])) Q E := by
  have s := sm_two (o1 := .own x) (o2 := .ins C dx []) nx nd ne
  refine ⟨x, dx, .int (N : Int), .int (N : Int), tv, dt, rfl, .int _, ht.same s, upd_same, (fun z => ?_), fun M e h1 h2 hbad => ?_, fun M t us e e2 ho hT H7 hk7 hw7 => ?_⟩
  · rw [show numD (.int (N : Int)) = some (N : Int) from rfl, hN] at z
    cases z
  · have eN : M = N := by injection e with e; omega
    subst eN
    rw [hA] at hbad
    cases hbad
  · have eN : M = N := by injection e with e; omega
    subst eN
    subst e2
    have eus := ties_data hT (ht.same s)
    rw [hd] at eus
    have := tie_inj (Option.some.inj eus)
    subst this
    exact q H7 (fun b u z => hk7 _ _ (s _ _ z) (ne_of_none z nx)) (hw7.same Sub.same)
section
variable {P : Program} {w : World} {K : PySem.W.Frag} {mg : Str → Option Value} {base : Heap} {C CPE cM : Addr} {XA : Str → Addr} {TL : List (Addr × Str)}
def sp_law_right (_ : PySem.W.Frag) (_ : Addr) (_ : Str → Addr) (TL : List (Addr × Str)) : Sp := fun vs H Q _ => ∃ a, vs = [.ref a] ∧ PotAt H a ∧ Tabs TL H ∧ ∀ H', Q (.bl true) H'
theorem ok_law_right (D : Def K mg "_law_right" s_law_right ["_law_pot_here"]) (B : Bs mg) (Glb : Glo mg) (WK : WebK K mg C) (EXInvalidWeb : ExcF P w K mg base "value" "InvalidWeb" (XA "InvalidWeb")) (EXInvalidPlaces : ExcF P w K mg base "value" "InvalidPlaces" (XA "InvalidPlaces")) (EXInvalidTies : ExcF P w K mg base "value" "InvalidTies" (XA "InvalidTies")) (EXInvalidPlace : ExcF P w K mg base "value" "InvalidPlace" (XA "InvalidPlace")) (EXInvalidWalk : ExcF P w K mg base "value" "InvalidWalk" (XA "InvalidWalk")) (EXInvalidRound : ExcF P w K mg base "value" "InvalidRound" (XA "InvalidRound")) (EXInvalidWithout : ExcF P w K mg base "value" "InvalidWithout" (XA "InvalidWithout")) (EXInvalidPart : ExcF P w K mg base "value" "InvalidPart" (XA "InvalidPart")) (PErr : mg "PieceError" = some (.ref CPE)) (EXM : ExM K XA CPE)
    (h_law_draw : Good P w K mg base "_law_draw" s_law_draw ["_law_pot_here", "_law_many"] 1 (sp_law_draw K C XA))
    (h_law_others_right : GoodG P w K mg base "_law_others_right" s_law_others_right ["_law_web", "_law_loop"] 24 (sp_law_others_right K C XA TL))
    (h_law_made_right : GoodG P w K mg base "_law_made_right" s_law_made_right [] 24 (sp_law_made_right K C XA TL))
    (h_law_webs_right : GoodG P w K mg base "_law_webs_right" s_law_webs_right [] 24 (sp_law_webs_right K C XA TL))
    (hWeb___init__ : GoodJX P w K mg base C "__init__" "Web.__init__" sWeb___init__ ["self", "places", "ties"] 5 (spWeb___init__ K C XA)) :
    GoodG P w K mg base "_law_right" s_law_right ["_law_pot_here"] 25 (sp_law_right K C XA TL) := by
  refine D.goodG fun f fd F => ?_
  obtain ⟨f_law_draw, d_law_draw, O_law_draw, m_law_draw, k_law_draw, b_law_draw, F_law_draw⟩ := h_law_draw
  obtain ⟨f_law_others_right, d_law_others_right, O_law_others_right, m_law_others_right, k_law_others_right, b_law_others_right, F_law_others_right⟩ := h_law_others_right
  obtain ⟨f_law_made_right, d_law_made_right, O_law_made_right, m_law_made_right, k_law_made_right, b_law_made_right, F_law_made_right⟩ := h_law_made_right
  obtain ⟨f_law_webs_right, d_law_webs_right, O_law_webs_right, m_law_webs_right, k_law_webs_right, b_law_webs_right, F_law_webs_right⟩ := h_law_webs_right
  obtain ⟨fWeb___init__, dWeb___init__, OWeb___init__, MK, bWeb___init__, FWeb___init__⟩ := hWeb___init__
  refine FnG.ofBody F sc_law_right (fun vs H Q E h => ?_) (fun cdv A outer s H vs Q E hr quiet h => ?_)
  · obtain ⟨a, rfl, hp, hT, q⟩ := h
    first | rfl | (rcases h with ⟨_, _, rfl, _⟩ | ⟨_, rfl, _⟩ <;> rfl)
  obtain ⟨a, rfl, hp, hT, q⟩ := h
  have hur := hu70 hr
  refine ⟨_, (pss_cons (ps_set (i := 1) sc_law_right.nd rfl (by first | exact Or.inl rfl | exact Or.inr rfl) (pe_call O_law_draw (hr.mono (by decide)) rfl m_law_draw k_law_draw b_law_draw .nil pass0 (pa_cons (pv 0) (pa_cons pe_int pa_nil))))
  (pss_cons (ps_if (pt_cmpR op_eq (pv 1) pe_int (nomark _))
    (pss_one (ps_ret (pe_callG0 O_law_made_right hr quiet rfl m_law_made_right k_law_made_right b_law_made_right))) pss_nil)
  (pss_cons (ps_if (pt_cmpR op_eq (pv 1) pe_int (nomark _))
    (pss_one (ps_ret (pe_callG0 O_law_webs_right hr quiet rfl m_law_webs_right k_law_webs_right b_law_webs_right))) pss_nil)
  (pss_one (ps_ret (pe_callG O_law_others_right hr quiet rfl m_law_others_right k_law_others_right b_law_others_right (pa_cons (pe_make MK OWeb___init__ (hr.mono (by decide)) rfl WK.mgC bWeb___init__ .nil (passes_call takes0 (fun _ _ _ _ h => h)) (pa_cons pe_int (pa_cons (lit_lst (lits_cons (lit_tup (lits_cons lit_int (lits_cons lit_int lits_nil))) (lits_cons (lit_tup (lits_cons lit_int (lits_cons lit_int lits_nil))) (lits_cons (lit_tup (lits_cons lit_int (lits_cons lit_int lits_nil))) (lits_cons (lit_tup (lits_cons lit_int (lits_cons lit_int lits_nil))) lits_nil))))) pa_nil))) (pa_cons (pe_make MK OWeb___init__ (hr.mono (by decide)) rfl WK.mgC bWeb___init__ .nil (passes_call takes0 (fun _ _ _ _ h => h)) (pa_cons pe_int (pa_cons (lit_lst (lits_cons (lit_tup (lits_cons lit_int (lits_cons lit_int lits_nil))) lits_nil)) pa_nil))) pa_nil)))))))), ?_⟩
  refine ⟨_, rfl, a, 3, rfl, hp, by decide, by decide, fun d H1 hd hk hp1 => ?_⟩
  have hT1 : Tabs TL H1 := tabs_kept hT hp hk
  refine ⟨_, rfl, rfl, _, rfl, ?_⟩
  refine ite2 (fun c0 => ⟨rfl, hT1, q⟩) (fun c0 => ?_)
  refine ⟨_, rfl, rfl, _, rfl, ?_⟩
  refine ite2 (fun c1 => ⟨rfl, hT1, q⟩) (fun c1 => ?_)
  refine fun tv H2 s2 n2 ht xx dx nx nd ne => mk_good (N := 3) (ts := tsE) (by decide +kernel) (by decide +kernel) rfl ht nx nd ne fun H3 s3 hw3 => ⟨rfl, ?_⟩
  refine fun uv H4 s4 n4 hu yy dy ny nd2 ne2 => mk_good (N := 1) (ts := [(0, 0)]) (by decide +kernel) (by decide +kernel) rfl hu ny nd2 ne2 fun H5 s5 hw5 => ⟨rfl, ?_⟩
  exact ⟨xx, yy, rfl, (hw3.same s4).same s5, hw5, ⟨by decide, by decide, by decide, by decide⟩, (((hT1.ext s2).ext s3).ext s4).ext s5, q⟩
def splaw (K : PySem.W.Frag) (_ : Addr) (_ : Str → Addr) (TL : List (Addr × Str)) : Sp := fun vs H Q _ => ∃ a, ∃ ns : List Int, vs = [.ref a] ∧ SqL K H a (ns.map V.int) ∧ ns.length ≤ 63 ∧ Tabs TL H ∧ ∀ H', Q (.bl true) H'
theorem oklaw (D : Def K mg "law" slaw ["_law_script"]) (B : Bs mg) (Glb : Glo mg) (WK : WebK K mg C) (EXInvalidWeb : ExcF P w K mg base "value" "InvalidWeb" (XA "InvalidWeb")) (EXInvalidPlaces : ExcF P w K mg base "value" "InvalidPlaces" (XA "InvalidPlaces")) (EXInvalidTies : ExcF P w K mg base "value" "InvalidTies" (XA "InvalidTies")) (EXInvalidPlace : ExcF P w K mg base "value" "InvalidPlace" (XA "InvalidPlace")) (EXInvalidWalk : ExcF P w K mg base "value" "InvalidWalk" (XA "InvalidWalk")) (EXInvalidRound : ExcF P w K mg base "value" "InvalidRound" (XA "InvalidRound")) (EXInvalidWithout : ExcF P w K mg base "value" "InvalidWithout" (XA "InvalidWithout")) (EXInvalidPart : ExcF P w K mg base "value" "InvalidPart" (XA "InvalidPart")) (PErr : mg "PieceError" = some (.ref CPE)) (EXM : ExM K XA CPE)
    (h_law_right : GoodG P w K mg base "_law_right" s_law_right ["_law_pot_here"] 25 (sp_law_right K C XA TL))
    (h_law_pot : Good P w K mg base "_law_pot" s_law_pot ["_law_script", "_law_k"] 1 (sp_law_pot K C XA)) :
    GoodG P w K mg base "law" slaw ["_law_script"] 26 (splaw K C XA TL) := by
  refine D.goodG fun f fd F => ?_
  obtain ⟨f_law_right, d_law_right, O_law_right, m_law_right, k_law_right, b_law_right, F_law_right⟩ := h_law_right
  obtain ⟨f_law_pot, d_law_pot, O_law_pot, m_law_pot, k_law_pot, b_law_pot, F_law_pot⟩ := h_law_pot
  refine FnG.ofBody F sclaw (fun vs H Q E h => ?_) (fun cdv A outer s H vs Q E hr quiet h => ?_)
  · obtain ⟨sa, ns, rfl, hs, h63, hT, q⟩ := h
    first | rfl | (rcases h with ⟨_, _, rfl, _⟩ | ⟨_, rfl, _⟩ <;> rfl)
  obtain ⟨sa, ns, rfl, hs, h63, hT, q⟩ := h
  have hur := hu70 hr
  refine ⟨_, (pss_one (ps_ret (pe_callG O_law_right hr quiet rfl m_law_right k_law_right b_law_right (pa_cons (pe_call O_law_pot (hr.mono (by decide)) rfl m_law_pot k_law_pot b_law_pot .nil pass0 (pa_cons (pv 0) (pa_cons pe_int pa_nil))) pa_nil)))), ?_⟩
  exact ⟨_, rfl, sa, ns, rfl, hs, fun p H1 hp1 hS1 np => ⟨p, rfl, hp1, hT.ext hS1, q⟩⟩
end
end My
set_option maxHeartbeats 2000000
/-! the end of a law that makes lambdas, called where nothing is being shown -/
namespace My
open PySem PySem.Spec PyProof.Rows L2 LamX
abbrev tab0 : Obj := { cls := .none, data := .fields #[] }
theorem law_tabs {P : Program} {w : World} {K : PySem.W.Frag} {mg mb : Str → Option Value} {k : Nat} {fa a : Addr} {cs : List (Addr × Addr)} {fd : FuncData} {x : Str} {sp : Sp} {s₁ : Shared} {vs : List Value} {ns : List Int}
    (inK : K.In s₁.heap) (main : s₁.heap.Ns mainGlobals mg) (bui : s₁.heap.Ns builtinsNs mb) (same : ∀ x : Str, x ≠ "__name__" → mb x = bootBuiltins x) (lim : s₁.heap.NoLimit) (gens : s₁.gens = #[])
    (tabs : ∀ p ∈ cs, s₁.heap.get? p.2 = some tab0) (notK : ∀ p ∈ cs, K.lookup p.2 = none) (codes : ∀ p ∈ cs, PySem.W.CodeHd s₁.heap p.1 p.2)
    (bmain : ∃ (bm : Addr) (ob : Obj), mg "__builtins__" = some (.ref bm) ∧ bm ≠ builtinsNs ∧ s₁.heap.get? bm = some ob ∧ ob.cls = .type "module" ∧ ob.dict = some builtinsNs ∧ ob.data = .plain)
    (at_a : s₁.heap.get? a = some { cls := .type "list", data := .seq vs.toArray }) (hints : IntsAre vs ns) (short : ns.length ≤ sizeLine) (room : Room k callerA)
    (F : ∀ base : Heap, K.In base → base.Ns mainGlobals mg → (∀ p ∈ cs, TabB base mg p.1 p.2) → FnG P w K mg base k fa fd [x] sp) (bound : ∀ (s : Shared) (u : Value), BindsTo s fd ⟨[u], []⟩ [(x, u)])
    (want : ∀ H : Hp, (∀ p ∈ cs, H p.2 = some (.tbl #[])) → SqL K H a (ns.map V.int) → sp [.ref a] H (fun v _ => v = .bl true) fun _ _ _ => False) :
    codeAny (model P w) callerA (.call (.ref fa) ⟨[.ref a], []⟩) (fun r s' => r = .ok (.ret (.bool true)) ∧ OldK s₁.heap s'.heap ∧ s'.os = s₁.os ∧ AllBare s'.gens) s₁ := by
  have rel := vals_ints hints
  have many := hints.length
  obtain ⟨scr, hscr⟩ : ∃ scr : Option HO, scr = if (K.lookup a).isSome then none else some (.frz { cls := .type "list", data := .seq vs.toArray } (.lst (ns.map V.int))) := ⟨_, rfl⟩
  obtain ⟨H, eH⟩ : ∃ H : Hp, H = fun b => if b = a then scr else if b ∈ cs.map (·.2) then some (.tbl #[]) else none := ⟨_, rfl⟩
  have isTab : ∀ b, b ∈ cs.map (·.2) → s₁.heap.get? b = some tab0 := by
    intro b hb
    obtain ⟨p, hp, rfl⟩ := List.mem_map.mp hb
    exact tabs p hp
  have notTab : a ∉ cs.map (·.2) := by
    intro z
    have q := isTab a z
    rw [at_a] at q
    cases q
  have Ha : H a = scr := by rw [eH]; exact if_pos rfl
  have Ht : ∀ b, b ∈ cs.map (·.2) → H b = some (.tbl #[]) := by
    intro b hb
    have ne : b ≠ a := fun z => notTab (z ▸ hb)
    rw [eH]
    show (if b = a then scr else _) = _
    rw [if_neg ne, if_pos hb]
  have He : ∀ b, b ≠ a → b ∉ cs.map (·.2) → H b = none := by
    intro b h1 h2
    rw [eH]
    show (if b = a then scr else _) = _
    rw [if_neg h1, if_neg h2]
  have mem2 : ∀ p ∈ cs, p.2 ∈ cs.map (·.2) := fun p hp => List.mem_map.mpr ⟨p, hp, rfl⟩
  -- what is told is the script, or a table
  have told : ∀ {b : Addr} {o : Obj}, s₁.heap.get? b = some o → (∀ vs n, o.data ≠ .seq vs n) → o.data ≠ .fields #[] → H b = none := by
    intro b o e h1 h2
    refine He b (fun z => ?_) (fun z => ?_)
    · subst z
      rw [at_a] at e
      cases e
      exact h1 _ _ rfl
    · rw [isTab b z] at e
      cases e
      exact h2 rfl
  have shown : ∀ {b : Addr} {o : Obj}, s₁.heap.get? b = some o → H b = none → (hidT s₁.heap H).get? b = some o := fun e n => hidT_get e n
  have names : ∀ {b : Addr} {m : Str → Option Value}, s₁.heap.Ns b m → (hidT s₁.heap H).Ns b m := by
    rintro b m ⟨o, es, ep, e, d, r⟩
    refine ⟨o, es, ep, shown e (told e (fun vs n z => ?_) (fun z => ?_)), d, r⟩
    · rw [d] at z; cases z
    · rw [d] at z; cases z
  have inHid : K.In (hidT s₁.heap H) := by
    intro b o e
    refine shown (inK b o e) ?_
    by_cases h1 : b = a
    · subst h1
      rw [Ha, hscr, e]
      rfl
    · refine He b h1 (fun h2 => ?_)
      obtain ⟨p, hp, rfl⟩ := List.mem_map.mp h2
      rw [notK p hp] at e
      cases e
  have nG : ∀ p ∈ cs, mainGlobals ≠ p.2 := by
    intro p hp z
    obtain ⟨o, es, ep, e, hd, _⟩ := main
    rw [z, tabs p hp] at e
    cases e
    cases hd
  have TB : ∀ p ∈ cs, TabB (hidT s₁.heap H) mg p.1 p.2 := by
    intro p hp
    refine ⟨?_, ?_, nG p hp⟩
    · obtain ⟨o, us, f1, f2, f3, f4, f5, f6, f7, e1, r1, r2, r3, rest⟩ := codes p hp
      refine ⟨o, us, f1, f2, f3, f4, f5, f6, f7, shown e1 (told e1 (fun vs n z => ?_) (fun z => ?_)), r1, r2, r3, rest⟩
      · rw [r2] at z; cases z
      · rw [r2] at z
        cases z
        simp at r3
    · obtain ⟨bm, ob, b1, b2, b3, b4, b5, b6⟩ := bmain
      refine ⟨bm, ob, b1, b2, fun q => ?_, fun q => ?_, shown b3 (told b3 (fun vs n z => ?_) (fun z => ?_)), b4, b5, b6⟩
      · obtain ⟨o, es, ep, e, hd, _⟩ := main
        rw [q, e] at b3
        cases b3
        rw [hd] at b6
        cases b6
      · rw [q, tabs p hp] at b3
        cases b3
        cases b6
      · rw [b6] at z; cases z
      · rw [b6] at z; cases z
  have hok : HOk P w H s₁.heap := by
    intro b u z
    by_cases h1 : b = a
    · subst h1
      rw [Ha, hscr] at z
      split at z
      · cases z
      · cases z
        exact ⟨at_a, by rw [List.length_map]; exact short, vs, _, rel, at_a⟩
    · by_cases h2 : b ∈ cs.map (·.2)
      · rw [Ht b h2] at z
        cases z
        exact isTab b h2
      · rw [He b h1 h2] at z
        cases z
  obtain ⟨mc, l1, l2⟩ := lim
  have env : Env0 P w K mg (hidT s₁.heap H) callerA [] s₁ H := {
    frames := rfl
    mod := ⟨inHid, names main, ⟨mb, names bui, same⟩, ⟨mc, names l1, l2⟩⟩
    bs := fun _ _ e => of_hidT e
    bsz := Nat.le_of_eq (hidT_size _ _)
    funs := trivial
    frf := fun b hb => nomatch (show b ∈ ([] : List Addr) from hb)
    hok := hok
    bare := .of_eq gens }
  have sq : SqL K H a (ns.map V.int) := by
    cases hk : K.lookup a with
    | none => exact .inl (.inr ⟨_, by rw [Ha, hscr, hk]; rfl⟩)
    | some o =>
      have e := inK a o hk
      rw [at_a] at e
      cases e
      refine .inr ⟨_, vs.toArray, _, hk, rfl, rfl, rfl, ?_, ?_⟩
      · rw [List.size_toArray, many]
        exact short
      · simpa using rel
  refine codeAny_mono ((F _ inHid (names main) TB).run callerA [] s₁ H ⟨[.ref a], []⟩ [.ref a] [.ref a] _ _ room quiet_caller env (bound s₁ (.ref a)) (.cons rfl .nil) (want H (fun p hp => Ht _ (mem2 p hp)) sq)) ?_
  rintro (e | fl) s' h
  · exact False.elim h
  cases fl with
  | next | brk | cont => exact False.elim h
  | ret u =>
    obtain ⟨v, H', os, bare, un, hok', r, q⟩ := h
    cases (show v = .bl true from q)
    cases (show u = Value.bool true from r)
    have stays : ∀ b o, b ∉ cs.map (·.2) → s₁.heap.get? b = some o → s'.heap.get? b = some o := by
      intro b o nb e
      by_cases h1 : b = a
      · subst h1
        cases hz : H b with
        | none => exact un.keep b o e hz (fun m => nomatch (show b ∈ ([] : List Addr) from m)) (fun m => nomatch m)
        | some u =>
          have z := hz
          rw [Ha, hscr] at z
          split at z
          · cases z
          · cases z
            have e2 := (hok' b _ (un.frzs b _ _ hz)).1
            rw [at_a] at e
            cases e
            exact e2
      · exact un.keep b o e (He b h1 nb) (fun m => nomatch (show b ∈ ([] : List Addr) from m)) (fun m => nomatch m)
    have grown : ∀ p ∈ cs, ∃ more : Array Value, s'.heap.get? p.2 = some { cls := .none, data := .fields more } := by
      intro p hp
      obtain ⟨more, z⟩ := un.tbls p.2 #[] (Ht _ (mem2 p hp))
      exact ⟨_, hok' p.2 _ z⟩
    refine ⟨rfl, ⟨?_, ?_⟩, os, bare⟩
    · intro b o e
      by_cases hb : b ∈ cs.map (·.2)
      · obtain ⟨p, hp, rfl⟩ := List.mem_map.mp hb
        obtain ⟨more, hm⟩ := grown p hp
        rw [tabs p hp] at e
        cases e
        refine .inr (.inl ⟨((codes p hp).tab (tabs p hp)).isCodeTable, rfl, #[], more, rfl, ?_⟩)
        rw [Array.empty_append]
        exact hm
      · exact .inl (stays b o hb e)
    · intro b o e
      by_cases hb : b ∈ cs.map (·.2)
      · obtain ⟨p, hp, rfl⟩ := List.mem_map.mp hb
        obtain ⟨more, hm⟩ := grown p hp
        exact ⟨_, hm⟩
      · exact ⟨o, stays b o hb e⟩
/-- the law's own row, the tables of the defs MK being empty -/
theorem walk_ofGT {l : PySem.W.OpenLaw} {n k : Nat} {q : Program} {loose : List Str} {XP : (Str → Option Value) → Heap → Prop} {YP : World → Heap → Prop} {d : DefRec} {K : Params → PySem.W.Frag} {x : Str} {MK : List Str}
    (hn : l.most = some n) (hn2 : n ≤ sizeLine) (hdf : d.params.defaults = []) (room : Room k callerA) (recs : ∀ x ∈ MK, ((recsOf q).find? fun e => e.name == x).isSome = true) (hY : ∀ (w : World) (h : Heap), YP w h → (K w.params).In h)
    (F : ∀ (w : World) (mg : Str → Option Value) (fa : Addr) (h : Heap), (K w.params).In h → h.Ns mainGlobals mg → mg d.name = some (.ref fa) → (∀ x ∈ MK, ∀ c P, PySem.W.tabIn (K w.params) x = some (c, P) → PySem.W.CodeHd h c P ∧ h.get? P = some tab0) →
      ∃ (fd : FuncData) (cs : List (Addr × Addr)) (sp : Sp), (∀ p ∈ cs, h.get? p.2 = some tab0) ∧ (∀ p ∈ cs, (K w.params).lookup p.2 = none) ∧ (∀ p ∈ cs, PySem.W.CodeHd h p.1 p.2) ∧ (∀ (s : Shared) (u : Value), BindsTo s fd ⟨[u], []⟩ [(x, u)]) ∧
        (∀ (H : Hp) (a : Addr) (ns : List Int), ns.length ≤ n → (∀ p ∈ cs, H p.2 = some (.tbl #[])) → SqL (K w.params) H a (ns.map V.int) → sp [.ref a] H (fun v _ => v = .bl true) fun _ _ _ => False) ∧
        ∀ base : Heap, (K w.params).In base → base.Ns mainGlobals mg → (∀ p ∈ cs, TabB base mg p.1 p.2) → FnG l.prog w (K w.params) mg base k fa fd [x] sp) :
    PySem.W.WalkO q loose XP YP l.row.toRowW d [] (fun f vs => PySem.call f vs) := by
  apply Att.attach_call hn hdf
  intro w s₀ s₁ mg mb fa o pm cd doc a vs ns G Y ho hd hcd hmg hobj hints hlen hg
  have inK := hY w _ Y
  obtain ⟨fd, cs, sp, h1, h2, h3, bound, want, hF⟩ := F w mg fa _ inK G.T.g hmg (fun x hx c P ht => by
    obtain ⟨r, hr⟩ := Option.isSome_iff_exists.mp (recs x hx)
    exact PySem.W.tab_of G.T inK hr ht)
  exact law_tabs inK G.T.g G.T.b G.T.builtins G.T.nolimit hg h1 h2 h3 G.T.bmain hobj hints (Nat.le_trans hlen hn2) room hF bound (fun H hH hS => want H a ns hlen hH hS)
end My
namespace My
open PySem L2 PyProof.Rows
open LamX hiding takes0
/-! ### the end -/
theorem kit_no {K : PySem.W.Frag} {C : Addr} {t : String} (h1 : PySem.W.isClsIn K C = true) (h2 : PySem.W.typeIn K (.ref C) = some (.type "type")) (h3 : PySem.W.subIn K (.type t) (.ref C) = some false) : PySem.W.kitOne K (.type t) (.ref C) = some false := by
  unfold PySem.W.kitOne
  rw [if_neg (by simp)]
  show (if ((PySem.W.clsIn K C).isSome && PySem.W.typeIn K (.ref C) == some (.type "type")) = true then PySem.W.subIn K (.type t) (.ref C) else none) = some false
  have h1' : (PySem.W.clsIn K C).isSome = true := h1
  rw [h1', h2, if_pos (by simp)]
  exact h3
theorem fd_is {K : PySem.W.Frag} {x : Str} {st : Stmt} {f : Addr} {fd fe : FuncData} {oc : Value} {od : Option Addr} {sl : Array (Option Value)} (F : Fun K x x st f fd) (l : K.lookup f = some ⟨oc, od, .func fe, sl⟩) : fd = fe := by
  obtain ⟨oc2, od2, kV, doc, pm, an, cdv, ct, osl, e, lk, c⟩ := F.ex
  rw [lk] at l
  have := Option.some.inj l
  injection this with _ _ h3 _
  injection h3
def pairs8 : List (Nat × Nat) := (List.range 8).flatMap fun i => (List.range (i + 1)).map fun j => (i, j)
theorem below8 : ∀ i j : Nat, i < 8 → j ≤ i → (i, j) ∈ pairs8 := by
  intro i j hi hj
  unfold pairs8
  rw [List.mem_flatMap]
  exact ⟨i, List.mem_range.mpr hi, List.mem_map.mpr ⟨j, List.mem_range.mpr (Nat.lt_succ_of_le hj), rfl⟩⟩
theorem tab_is {K : PySem.W.Frag} {x : Str} {f c P : Addr} {oc : Value} {od : Option Addr} {fd : FuncData} {sl : Array (Option Value)} {oc2 : Value} {od2 : Option Addr} {vs : Array Value} {sl2 : Array (Option Value)} (a : PySem.W.nsIn K mainGlobals x = some (some (.ref f))) (l : K.lookup f = some ⟨oc, od, .func fd, sl⟩) (hc : fd.code = .ref c) (l2 : K.lookup c = some ⟨oc2, od2, .fields vs, sl2⟩) (h : vs[11]? = some (.ref P)) : PySem.W.tabIn K x = some (c, P) := by
  unfold PySem.W.tabIn
  simp only [a, l, hc, l2, h]
theorem under8 : ∀ i : Nat, i < 8 → i ∈ [0, 1, 2, 3, 4, 5, 6, 7] := by
  intro i hi
  have h : ∀ i < 8, i ∈ [0, 1, 2, 3, 4, 5, 6, 7] := by decide
  exact h i hi
def pickX (l : List (Str × Addr)) (x : Str) : Addr := match l with
  | [] => 0
  | (y, a) :: r => if x = y then a else pickX r x
abbrev sxInvalidWeb : Stmt := inClass (topS 2) 0
theorem sc_xInvalidWeb : FnScope ["self", "value"] ["self", "value"] (defScope sxInvalidWeb) := ⟨rfl, rfl, rfl, by decide +kernel, rfl, by decide +kernel, by decide +kernel⟩
abbrev sxInvalidPlaces : Stmt := inClass (topS 7) 0
theorem sc_xInvalidPlaces : FnScope ["self", "value"] ["self", "value"] (defScope sxInvalidPlaces) := ⟨rfl, rfl, rfl, by decide +kernel, rfl, by decide +kernel, by decide +kernel⟩
abbrev sxInvalidTies : Stmt := inClass (topS 8) 0
theorem sc_xInvalidTies : FnScope ["self", "value"] ["self", "value"] (defScope sxInvalidTies) := ⟨rfl, rfl, rfl, by decide +kernel, rfl, by decide +kernel, by decide +kernel⟩
abbrev sxInvalidPlace : Stmt := inClass (topS 3) 0
theorem sc_xInvalidPlace : FnScope ["self", "value"] ["self", "value"] (defScope sxInvalidPlace) := ⟨rfl, rfl, rfl, by decide +kernel, rfl, by decide +kernel, by decide +kernel⟩
abbrev sxInvalidWalk : Stmt := inClass (topS 4) 0
theorem sc_xInvalidWalk : FnScope ["self", "value"] ["self", "value"] (defScope sxInvalidWalk) := ⟨rfl, rfl, rfl, by decide +kernel, rfl, by decide +kernel, by decide +kernel⟩
abbrev sxInvalidRound : Stmt := inClass (topS 5) 0
theorem sc_xInvalidRound : FnScope ["self", "value"] ["self", "value"] (defScope sxInvalidRound) := ⟨rfl, rfl, rfl, by decide +kernel, rfl, by decide +kernel, by decide +kernel⟩
abbrev sxInvalidWithout : Stmt := inClass (topS 9) 0
theorem sc_xInvalidWithout : FnScope ["self", "value"] ["self", "value"] (defScope sxInvalidWithout) := ⟨rfl, rfl, rfl, by decide +kernel, rfl, by decide +kernel, by decide +kernel⟩
abbrev sxInvalidPart : Stmt := inClass (topS 6) 0
theorem sc_xInvalidPart : FnScope ["self", "value"] ["self", "value"] (defScope sxInvalidPart) := ⟨rfl, rfl, rfl, by decide +kernel, rfl, by decide +kernel, by decide +kernel⟩
set_option maxHeartbeats 16000000 in
theorem all_mk {l : PySem.W.OpenLaw} {w : World} {K : PySem.W.Frag} {h : Heap} {mg : Str → Option Value} {fa C : Addr} (X : K.In h) (G : h.Ns mainGlobals mg) (hfa : mg "law" = some (.ref fa))
    (T0 : ∀ x ∈ (["_law_made_right", "_law_webs_right", "_law_others_right"] : List Str), ∀ c P, PySem.W.tabIn K x = some (c, P) → PySem.W.CodeHd h c P ∧ h.get? P = some tab0)
    {fM0 : Addr} {odM0 anM0 : Option Addr} {slM0 : Array (Option Value)} {ocM0 kVM0 dcM0 pmM0 cdM0 ctM0 : Value} {fM1 : Addr} {odM1 anM1 : Option Addr} {slM1 : Array (Option Value)} {ocM1 kVM1 dcM1 pmM1 cdM1 ctM1 : Value} {pM1 : Addr} {rsM1 : List Value} {fM2 : Addr} {odM2 anM2 : Option Addr} {slM2 : Array (Option Value)} {ocM2 kVM2 dcM2 pmM2 cdM2 ctM2 : Value} {pM2 : Addr} {rsM2 : List Value} {fM3 : Addr} {odM3 anM3 : Option Addr} {slM3 : Array (Option Value)} {ocM3 kVM3 dcM3 pmM3 cdM3 ctM3 : Value} {fM4 : Addr} {odM4 anM4 : Option Addr} {slM4 : Array (Option Value)} {ocM4 kVM4 dcM4 pmM4 cdM4 ctM4 : Value} {fM5 : Addr} {odM5 anM5 : Option Addr} {slM5 : Array (Option Value)} {ocM5 kVM5 dcM5 pmM5 cdM5 ctM5 : Value} {f0 : Addr} {od0 an0 : Option Addr} {sl0 : Array (Option Value)} {oc0 kV0 dc0 pm0 cd0 ct0 : Value} {f1 : Addr} {od1 an1 : Option Addr} {sl1 : Array (Option Value)} {oc1 kV1 dc1 pm1 cd1 ct1 : Value} {f2 : Addr} {od2 an2 : Option Addr} {sl2 : Array (Option Value)} {oc2 kV2 dc2 pm2 cd2 ct2 : Value} {f3 : Addr} {od3 an3 : Option Addr} {sl3 : Array (Option Value)} {oc3 kV3 dc3 pm3 cd3 ct3 : Value} {f4 : Addr} {od4 an4 : Option Addr} {sl4 : Array (Option Value)} {oc4 kV4 dc4 pm4 cd4 ct4 : Value} {f5 : Addr} {od5 an5 : Option Addr} {sl5 : Array (Option Value)} {oc5 kV5 dc5 pm5 cd5 ct5 : Value} {f6 : Addr} {od6 an6 : Option Addr} {sl6 : Array (Option Value)} {oc6 kV6 dc6 pm6 cd6 ct6 : Value} {f7 : Addr} {od7 an7 : Option Addr} {sl7 : Array (Option Value)} {oc7 kV7 dc7 pm7 cd7 ct7 : Value} {f8 : Addr} {od8 an8 : Option Addr} {sl8 : Array (Option Value)} {oc8 kV8 dc8 pm8 cd8 ct8 : Value} {f9 : Addr} {od9 an9 : Option Addr} {sl9 : Array (Option Value)} {oc9 kV9 dc9 pm9 cd9 ct9 : Value} {f10 : Addr} {od10 an10 : Option Addr} {sl10 : Array (Option Value)} {oc10 kV10 dc10 pm10 cd10 ct10 : Value} {f11 : Addr} {od11 an11 : Option Addr} {sl11 : Array (Option Value)} {oc11 kV11 dc11 pm11 cd11 ct11 : Value} {f12 : Addr} {od12 an12 : Option Addr} {sl12 : Array (Option Value)} {oc12 kV12 dc12 pm12 cd12 ct12 : Value} {f13 : Addr} {od13 an13 : Option Addr} {sl13 : Array (Option Value)} {oc13 kV13 dc13 pm13 cd13 ct13 : Value} {f14 : Addr} {od14 an14 : Option Addr} {sl14 : Array (Option Value)} {oc14 kV14 dc14 pm14 cd14 ct14 : Value} {f15 : Addr} {od15 an15 : Option Addr} {sl15 : Array (Option Value)} {oc15 kV15 dc15 pm15 cd15 ct15 : Value} {f16 : Addr} {od16 an16 : Option Addr} {sl16 : Array (Option Value)} {oc16 kV16 dc16 pm16 cd16 ct16 : Value} {f17 : Addr} {od17 an17 : Option Addr} {sl17 : Array (Option Value)} {oc17 kV17 dc17 pm17 cd17 ct17 : Value} {f18 : Addr} {od18 an18 : Option Addr} {sl18 : Array (Option Value)} {oc18 kV18 dc18 pm18 cd18 ct18 : Value} {f19 : Addr} {od19 an19 : Option Addr} {sl19 : Array (Option Value)} {oc19 kV19 dc19 pm19 cd19 ct19 : Value} {f20 : Addr} {od20 an20 : Option Addr} {sl20 : Array (Option Value)} {oc20 kV20 dc20 pm20 cd20 ct20 : Value} {f21 : Addr} {od21 an21 : Option Addr} {sl21 : Array (Option Value)} {oc21 kV21 dc21 pm21 cd21 ct21 : Value} {f22 : Addr} {od22 an22 : Option Addr} {sl22 : Array (Option Value)} {oc22 kV22 dc22 pm22 cd22 ct22 : Value} {f23 : Addr} {od23 an23 : Option Addr} {sl23 : Array (Option Value)} {oc23 kV23 dc23 pm23 cd23 ct23 : Value} {f24 : Addr} {od24 an24 : Option Addr} {sl24 : Array (Option Value)} {oc24 kV24 dc24 pm24 cd24 ct24 : Value} {f25 : Addr} {od25 an25 : Option Addr} {sl25 : Array (Option Value)} {oc25 kV25 dc25 pm25 cd25 ct25 : Value} {f26 : Addr} {od26 an26 : Option Addr} {sl26 : Array (Option Value)} {oc26 kV26 dc26 pm26 cd26 ct26 : Value} {f27 : Addr} {od27 an27 : Option Addr} {sl27 : Array (Option Value)} {oc27 kV27 dc27 pm27 cd27 ct27 : Value} {f28 : Addr} {od28 an28 : Option Addr} {sl28 : Array (Option Value)} {oc28 kV28 dc28 pm28 cd28 ct28 : Value} {f29 : Addr} {od29 an29 : Option Addr} {sl29 : Array (Option Value)} {oc29 kV29 dc29 pm29 cd29 ct29 : Value} {f30 : Addr} {od30 an30 : Option Addr} {sl30 : Array (Option Value)} {oc30 kV30 dc30 pm30 cd30 ct30 : Value} {f31 : Addr} {od31 an31 : Option Addr} {sl31 : Array (Option Value)} {oc31 kV31 dc31 pm31 cd31 ct31 : Value} {f32 : Addr} {od32 an32 : Option Addr} {sl32 : Array (Option Value)} {oc32 kV32 dc32 pm32 cd32 ct32 : Value} {f33 : Addr} {od33 an33 : Option Addr} {sl33 : Array (Option Value)} {oc33 kV33 dc33 pm33 cd33 ct33 : Value} {f34 : Addr} {od34 an34 : Option Addr} {sl34 : Array (Option Value)} {oc34 kV34 dc34 pm34 cd34 ct34 : Value} {f35 : Addr} {od35 an35 : Option Addr} {sl35 : Array (Option Value)} {oc35 kV35 dc35 pm35 cd35 ct35 : Value} {f36 : Addr} {od36 an36 : Option Addr} {sl36 : Array (Option Value)} {oc36 kV36 dc36 pm36 cd36 ct36 : Value} {f37 : Addr} {od37 an37 : Option Addr} {sl37 : Array (Option Value)} {oc37 kV37 dc37 pm37 ct37 : Value} {cN37 PN37 : Addr} {ocN37 : Value} {odN37 : Option Addr} {vsN37 : Array Value} {slN37 : Array (Option Value)} {f38 : Addr} {od38 an38 : Option Addr} {sl38 : Array (Option Value)} {oc38 kV38 dc38 pm38 ct38 : Value} {cN38 PN38 : Addr} {ocN38 : Value} {odN38 : Option Addr} {vsN38 : Array Value} {slN38 : Array (Option Value)} {f39 : Addr} {od39 an39 : Option Addr} {sl39 : Array (Option Value)} {oc39 kV39 dc39 pm39 ct39 : Value} {cN39 PN39 : Addr} {ocN39 : Value} {odN39 : Option Addr} {vsN39 : Array Value} {slN39 : Array (Option Value)} {f40 : Addr} {od40 an40 : Option Addr} {sl40 : Array (Option Value)} {oc40 kV40 dc40 pm40 cd40 ct40 : Value} {f41 : Addr} {od41 an41 : Option Addr} {sl41 : Array (Option Value)} {oc41 kV41 dc41 pm41 cd41 ct41 : Value} {CPE : Addr} {CE0 : Addr} {fE0 : Addr} {odE0 anE0 : Option Addr} {slE0 : Array (Option Value)} {ocE0 kVE0 dcE0 pmE0 cdE0 ctE0 : Value} {nmE0 qnE0 : Str} {NE0 : Addr} {bsE0 bmE0 : List Value} {snE0 : List Str} {subE0 : List Value} {abE0 : Bool} {colE0 : Option Bool} {ddE0 : Option Addr} {k0E0 k1E0 k2E0 k3E0 k5E0 : Option Value} {CE1 : Addr} {fE1 : Addr} {odE1 anE1 : Option Addr} {slE1 : Array (Option Value)} {ocE1 kVE1 dcE1 pmE1 cdE1 ctE1 : Value} {nmE1 qnE1 : Str} {NE1 : Addr} {bsE1 bmE1 : List Value} {snE1 : List Str} {subE1 : List Value} {abE1 : Bool} {colE1 : Option Bool} {ddE1 : Option Addr} {k0E1 k1E1 k2E1 k3E1 k5E1 : Option Value} {CE2 : Addr} {fE2 : Addr} {odE2 anE2 : Option Addr} {slE2 : Array (Option Value)} {ocE2 kVE2 dcE2 pmE2 cdE2 ctE2 : Value} {nmE2 qnE2 : Str} {NE2 : Addr} {bsE2 bmE2 : List Value} {snE2 : List Str} {subE2 : List Value} {abE2 : Bool} {colE2 : Option Bool} {ddE2 : Option Addr} {k0E2 k1E2 k2E2 k3E2 k5E2 : Option Value} {CE3 : Addr} {fE3 : Addr} {odE3 anE3 : Option Addr} {slE3 : Array (Option Value)} {ocE3 kVE3 dcE3 pmE3 cdE3 ctE3 : Value} {nmE3 qnE3 : Str} {NE3 : Addr} {bsE3 bmE3 : List Value} {snE3 : List Str} {subE3 : List Value} {abE3 : Bool} {colE3 : Option Bool} {ddE3 : Option Addr} {k0E3 k1E3 k2E3 k3E3 k5E3 : Option Value} {CE4 : Addr} {fE4 : Addr} {odE4 anE4 : Option Addr} {slE4 : Array (Option Value)} {ocE4 kVE4 dcE4 pmE4 cdE4 ctE4 : Value} {nmE4 qnE4 : Str} {NE4 : Addr} {bsE4 bmE4 : List Value} {snE4 : List Str} {subE4 : List Value} {abE4 : Bool} {colE4 : Option Bool} {ddE4 : Option Addr} {k0E4 k1E4 k2E4 k3E4 k5E4 : Option Value} {CE5 : Addr} {fE5 : Addr} {odE5 anE5 : Option Addr} {slE5 : Array (Option Value)} {ocE5 kVE5 dcE5 pmE5 cdE5 ctE5 : Value} {nmE5 qnE5 : Str} {NE5 : Addr} {bsE5 bmE5 : List Value} {snE5 : List Str} {subE5 : List Value} {abE5 : Bool} {colE5 : Option Bool} {ddE5 : Option Addr} {k0E5 k1E5 k2E5 k3E5 k5E5 : Option Value} {CE6 : Addr} {fE6 : Addr} {odE6 anE6 : Option Addr} {slE6 : Array (Option Value)} {ocE6 kVE6 dcE6 pmE6 cdE6 ctE6 : Value} {nmE6 qnE6 : Str} {NE6 : Addr} {bsE6 bmE6 : List Value} {snE6 : List Str} {subE6 : List Value} {abE6 : Bool} {colE6 : Option Bool} {ddE6 : Option Addr} {k0E6 k1E6 k2E6 k3E6 k5E6 : Option Value} {CE7 : Addr} {fE7 : Addr} {odE7 anE7 : Option Addr} {slE7 : Array (Option Value)} {ocE7 kVE7 dcE7 pmE7 cdE7 ctE7 : Value} {nmE7 qnE7 : Str} {NE7 : Addr} {bsE7 bmE7 : List Value} {snE7 : List Str} {subE7 : List Value} {abE7 : Bool} {colE7 : Option Bool} {ddE7 : Option Addr} {k0E7 k1E7 k2E7 k3E7 k5E7 : Option Value} {t0 : Tok} {t1 : Tok} {t2 : Tok} {t3 : Tok}
    (aC : PySem.W.nsIn K mainGlobals "Web" = some (some (.ref C)))
    (aM0 : PySem.W.findIn K (.ref C) "__init__" = some (some (.ref fM0))) (iM0 : PySem.W.isFn K (.ref fM0) = true) (lM0 : K.lookup fM0 = some ⟨ocM0, odM0, .func (PySem.W.fnOf "__init__" "Web.__init__" (defArgs sWeb___init__) (defBody sWeb___init__) (defScope sWeb___init__) .none kVM0 dcM0 pmM0 anM0 cdM0 ctM0), slM0⟩) (cM0 : PySem.W.codeIn K cdM0 "Web.__init__" = true) (kM0 : PySem.W.keepIn K (.ref fM0) = true)
    (aM1 : PySem.W.findIn K (.ref C) "places" = some (some (.ref pM1))) (gM1 : PySem.W.specialIn K (.ref pM1) "__get__" = some (some (.builtin "property.__get__"))) (tM1 : PySem.W.takesIn K (.ref pM1) = some true) (rM1 : PySem.W.recIn K pM1 "property" = some (.ref fM1 :: rsM1)) (lM1 : K.lookup fM1 = some ⟨ocM1, odM1, .func (PySem.W.fnOf "places" "Web.places" (defArgs sWeb_places) (defBody sWeb_places) (defScope sWeb_places) .none kVM1 dcM1 pmM1 anM1 cdM1 ctM1), slM1⟩) (cM1 : PySem.W.codeIn K cdM1 "Web.places" = true) (kM1 : PySem.W.keepIn K (.ref fM1) = true)
    (aM2 : PySem.W.findIn K (.ref C) "many" = some (some (.ref pM2))) (gM2 : PySem.W.specialIn K (.ref pM2) "__get__" = some (some (.builtin "property.__get__"))) (tM2 : PySem.W.takesIn K (.ref pM2) = some true) (rM2 : PySem.W.recIn K pM2 "property" = some (.ref fM2 :: rsM2)) (lM2 : K.lookup fM2 = some ⟨ocM2, odM2, .func (PySem.W.fnOf "many" "Web.many" (defArgs sWeb_many) (defBody sWeb_many) (defScope sWeb_many) .none kVM2 dcM2 pmM2 anM2 cdM2 ctM2), slM2⟩) (cM2 : PySem.W.codeIn K cdM2 "Web.many" = true) (kM2 : PySem.W.keepIn K (.ref fM2) = true)
    (aM3 : PySem.W.findIn K (.ref C) "ties" = some (some (.ref fM3))) (iM3 : PySem.W.isFn K (.ref fM3) = true) (lM3 : K.lookup fM3 = some ⟨ocM3, odM3, .func (PySem.W.fnOf "ties" "Web.ties" (defArgs sWeb_ties) (defBody sWeb_ties) (defScope sWeb_ties) .none kVM3 dcM3 pmM3 anM3 cdM3 ctM3), slM3⟩) (cM3 : PySem.W.codeIn K cdM3 "Web.ties" = true) (kM3 : PySem.W.keepIn K (.ref fM3) = true)
    (aM4 : PySem.W.findIn K (.ref C) "ties_from" = some (some (.ref fM4))) (iM4 : PySem.W.isFn K (.ref fM4) = true) (lM4 : K.lookup fM4 = some ⟨ocM4, odM4, .func (PySem.W.fnOf "ties_from" "Web.ties_from" (defArgs sWeb_ties_from) (defBody sWeb_ties_from) (defScope sWeb_ties_from) .none kVM4 dcM4 pmM4 anM4 cdM4 ctM4), slM4⟩) (cM4 : PySem.W.codeIn K cdM4 "Web.ties_from" = true) (kM4 : PySem.W.keepIn K (.ref fM4) = true)
    (aM5 : PySem.W.findIn K (.ref C) "ties_to" = some (some (.ref fM5))) (iM5 : PySem.W.isFn K (.ref fM5) = true) (lM5 : K.lookup fM5 = some ⟨ocM5, odM5, .func (PySem.W.fnOf "ties_to" "Web.ties_to" (defArgs sWeb_ties_to) (defBody sWeb_ties_to) (defScope sWeb_ties_to) .none kVM5 dcM5 pmM5 anM5 cdM5 ctM5), slM5⟩) (cM5 : PySem.W.codeIn K cdM5 "Web.ties_to" = true) (kM5 : PySem.W.keepIn K (.ref fM5) = true)
    (a0 : PySem.W.nsIn K mainGlobals "is_integer" = some (some (.ref f0))) (l0 : K.lookup f0 = some ⟨oc0, od0, .func (PySem.W.fnOf "is_integer" "is_integer" (defArgs sis_integer) (defBody sis_integer) (defScope sis_integer) .none kV0 dc0 pm0 an0 cd0 ct0), sl0⟩) (c0 : PySem.W.codeIn K cd0 "is_integer" = true) (k0 : PySem.W.keepIn K (.ref f0) = true)
    (a1 : PySem.W.nsIn K mainGlobals "is_count" = some (some (.ref f1))) (l1 : K.lookup f1 = some ⟨oc1, od1, .func (PySem.W.fnOf "is_count" "is_count" (defArgs sis_count) (defBody sis_count) (defScope sis_count) .none kV1 dc1 pm1 an1 cd1 ct1), sl1⟩) (c1 : PySem.W.codeIn K cd1 "is_count" = true) (k1 : PySem.W.keepIn K (.ref f1) = true)
    (a2 : PySem.W.nsIn K mainGlobals "is_between" = some (some (.ref f2))) (l2 : K.lookup f2 = some ⟨oc2, od2, .func (PySem.W.fnOf "is_between" "is_between" (defArgs sis_between) (defBody sis_between) (defScope sis_between) .none kV2 dc2 pm2 an2 cd2 ct2), sl2⟩) (c2 : PySem.W.codeIn K cd2 "is_between" = true) (k2 : PySem.W.keepIn K (.ref f2) = true)
    (a3 : PySem.W.nsIn K mainGlobals "is_below" = some (some (.ref f3))) (l3 : K.lookup f3 = some ⟨oc3, od3, .func (PySem.W.fnOf "is_below" "is_below" (defArgs sis_below) (defBody sis_below) (defScope sis_below) .none kV3 dc3 pm3 an3 cd3 ct3), sl3⟩) (c3 : PySem.W.codeIn K cd3 "is_below" = true) (k3 : PySem.W.keepIn K (.ref f3) = true)
    (a4 : PySem.W.nsIn K mainGlobals "is_listed" = some (some (.ref f4))) (l4 : K.lookup f4 = some ⟨oc4, od4, .func (PySem.W.fnOf "is_listed" "is_listed" (defArgs sis_listed) (defBody sis_listed) (defScope sis_listed) .none kV4 dc4 pm4 an4 cd4 ct4), sl4⟩) (c4 : PySem.W.codeIn K cd4 "is_listed" = true) (k4 : PySem.W.keepIn K (.ref f4) = true)
    (a5 : PySem.W.nsIn K mainGlobals "starts_in" = some (some (.ref f5))) (l5 : K.lookup f5 = some ⟨oc5, od5, .func (PySem.W.fnOf "starts_in" "starts_in" (defArgs sstarts_in) (defBody sstarts_in) (defScope sstarts_in) .none kV5 dc5 pm5 an5 cd5 ct5), sl5⟩) (c5 : PySem.W.codeIn K cd5 "starts_in" = true) (k5 : PySem.W.keepIn K (.ref f5) = true)
    (a6 : PySem.W.nsIn K mainGlobals "are_ties" = some (some (.ref f6))) (l6 : K.lookup f6 = some ⟨oc6, od6, .func (PySem.W.fnOf "are_ties" "are_ties" (defArgs sare_ties) (defBody sare_ties) (defScope sare_ties) .none kV6 dc6 pm6 an6 cd6 ct6), sl6⟩) (c6 : PySem.W.codeIn K cd6 "are_ties" = true) (k6 : PySem.W.keepIn K (.ref f6) = true)
    (a7 : PySem.W.nsIn K mainGlobals "need_web" = some (some (.ref f7))) (l7 : K.lookup f7 = some ⟨oc7, od7, .func (PySem.W.fnOf "need_web" "need_web" (defArgs sneed_web) (defBody sneed_web) (defScope sneed_web) .none kV7 dc7 pm7 an7 cd7 ct7), sl7⟩) (c7 : PySem.W.codeIn K cd7 "need_web" = true) (k7 : PySem.W.keepIn K (.ref f7) = true)
    (a8 : PySem.W.nsIn K mainGlobals "need_place" = some (some (.ref f8))) (l8 : K.lookup f8 = some ⟨oc8, od8, .func (PySem.W.fnOf "need_place" "need_place" (defArgs sneed_place) (defBody sneed_place) (defScope sneed_place) .none kV8 dc8 pm8 an8 cd8 ct8), sl8⟩) (c8 : PySem.W.codeIn K cd8 "need_place" = true) (k8 : PySem.W.keepIn K (.ref f8) = true)
    (a9 : PySem.W.nsIn K mainGlobals "are_numbers" = some (some (.ref f9))) (l9 : K.lookup f9 = some ⟨oc9, od9, .func (PySem.W.fnOf "are_numbers" "are_numbers" (defArgs sare_numbers) (defBody sare_numbers) (defScope sare_numbers) .none kV9 dc9 pm9 an9 cd9 ct9), sl9⟩) (c9 : PySem.W.codeIn K cd9 "are_numbers" = true) (k9 : PySem.W.keepIn K (.ref f9) = true)
    (a10 : PySem.W.nsIn K mainGlobals "_go_on" = some (some (.ref f10))) (l10 : K.lookup f10 = some ⟨oc10, od10, .func (PySem.W.fnOf "_go_on" "_go_on" (defArgs s_go_on) (defBody s_go_on) (defScope s_go_on) .none kV10 dc10 pm10 an10 cd10 ct10), sl10⟩) (c10 : PySem.W.codeIn K cd10 "_go_on" = true) (k10 : PySem.W.keepIn K (.ref f10) = true)
    (a11 : PySem.W.nsIn K mainGlobals "is_walk" = some (some (.ref f11))) (l11 : K.lookup f11 = some ⟨oc11, od11, .func (PySem.W.fnOf "is_walk" "is_walk" (defArgs sis_walk) (defBody sis_walk) (defScope sis_walk) .none kV11 dc11 pm11 an11 cd11 ct11), sl11⟩) (c11 : PySem.W.codeIn K cd11 "is_walk" = true) (k11 : PySem.W.keepIn K (.ref f11) = true)
    (a12 : PySem.W.nsIn K mainGlobals "is_round" = some (some (.ref f12))) (l12 : K.lookup f12 = some ⟨oc12, od12, .func (PySem.W.fnOf "is_round" "is_round" (defArgs sis_round) (defBody sis_round) (defScope sis_round) .none kV12 dc12 pm12 an12 cd12 ct12), sl12⟩) (c12 : PySem.W.codeIn K cd12 "is_round" = true) (k12 : PySem.W.keepIn K (.ref f12) = true)
    (a13 : PySem.W.nsIn K mainGlobals "need_walk" = some (some (.ref f13))) (l13 : K.lookup f13 = some ⟨oc13, od13, .func (PySem.W.fnOf "need_walk" "need_walk" (defArgs sneed_walk) (defBody sneed_walk) (defScope sneed_walk) .none kV13 dc13 pm13 an13 cd13 ct13), sl13⟩) (c13 : PySem.W.codeIn K cd13 "need_walk" = true) (k13 : PySem.W.keepIn K (.ref f13) = true)
    (a14 : PySem.W.nsIn K mainGlobals "need_tour" = some (some (.ref f14))) (l14 : K.lookup f14 = some ⟨oc14, od14, .func (PySem.W.fnOf "need_tour" "need_tour" (defArgs sneed_tour) (defBody sneed_tour) (defScope sneed_tour) .none kV14 dc14 pm14 an14 cd14 ct14), sl14⟩) (c14 : PySem.W.codeIn K cd14 "need_tour" = true) (k14 : PySem.W.keepIn K (.ref f14) = true)
    (a15 : PySem.W.nsIn K mainGlobals "leads" = some (some (.ref f15))) (l15 : K.lookup f15 = some ⟨oc15, od15, .func (PySem.W.fnOf "leads" "leads" (defArgs sleads) (defBody sleads) (defScope sleads) .none kV15 dc15 pm15 an15 cd15 ct15), sl15⟩) (c15 : PySem.W.codeIn K cd15 "leads" = true) (k15 : PySem.W.keepIn K (.ref f15) = true)
    (a16 : PySem.W.nsIn K mainGlobals "covers" = some (some (.ref f16))) (l16 : K.lookup f16 = some ⟨oc16, od16, .func (PySem.W.fnOf "covers" "covers" (defArgs scovers) (defBody scovers) (defScope scovers) .none kV16 dc16 pm16 an16 cd16 ct16), sl16⟩) (c16 : PySem.W.codeIn K cd16 "covers" = true) (k16 : PySem.W.keepIn K (.ref f16) = true)
    (a17 : PySem.W.nsIn K mainGlobals "walk_in_round" = some (some (.ref f17))) (l17 : K.lookup f17 = some ⟨oc17, od17, .func (PySem.W.fnOf "walk_in_round" "walk_in_round" (defArgs swalk_in_round) (defBody swalk_in_round) (defScope swalk_in_round) .none kV17 dc17 pm17 an17 cd17 ct17), sl17⟩) (c17 : PySem.W.codeIn K cd17 "walk_in_round" = true) (k17 : PySem.W.keepIn K (.ref f17) = true)
    (a18 : PySem.W.nsIn K mainGlobals "web_steps" = some (some (.ref f18))) (l18 : K.lookup f18 = some ⟨oc18, od18, .func (PySem.W.fnOf "web_steps" "web_steps" (defArgs sweb_steps) (defBody sweb_steps) (defScope sweb_steps) .none kV18 dc18 pm18 an18 cd18 ct18), sl18⟩) (c18 : PySem.W.codeIn K cd18 "web_steps" = true) (k18 : PySem.W.keepIn K (.ref f18) = true)
    (a19 : PySem.W.nsIn K mainGlobals "back_web" = some (some (.ref f19))) (l19 : K.lookup f19 = some ⟨oc19, od19, .func (PySem.W.fnOf "back_web" "back_web" (defArgs sback_web) (defBody sback_web) (defScope sback_web) .none kV19 dc19 pm19 an19 cd19 ct19), sl19⟩) (c19 : PySem.W.codeIn K cd19 "back_web" = true) (k19 : PySem.W.keepIn K (.ref f19) = true)
    (a20 : PySem.W.nsIn K mainGlobals "parts_in_turn" = some (some (.ref f20))) (l20 : K.lookup f20 = some ⟨oc20, od20, .func (PySem.W.fnOf "parts_in_turn" "parts_in_turn" (defArgs sparts_in_turn) (defBody sparts_in_turn) (defScope sparts_in_turn) .none kV20 dc20 pm20 an20 cd20 ct20), sl20⟩) (c20 : PySem.W.codeIn K cd20 "parts_in_turn" = true) (k20 : PySem.W.keepIn K (.ref f20) = true)
    (a21 : PySem.W.nsIn K mainGlobals "_left_from" = some (some (.ref f21))) (l21 : K.lookup f21 = some ⟨oc21, od21, .func (PySem.W.fnOf "_left_from" "_left_from" (defArgs s_left_from) (defBody s_left_from) (defScope s_left_from) .none kV21 dc21 pm21 an21 cd21 ct21), sl21⟩) (c21 : PySem.W.codeIn K cd21 "_left_from" = true) (k21 : PySem.W.keepIn K (.ref f21) = true)
    (a22 : PySem.W.nsIn K mainGlobals "_need_without" = some (some (.ref f22))) (l22 : K.lookup f22 = some ⟨oc22, od22, .func (PySem.W.fnOf "_need_without" "_need_without" (defArgs s_need_without) (defBody s_need_without) (defScope s_need_without) .none kV22 dc22 pm22 an22 cd22 ct22), sl22⟩) (c22 : PySem.W.codeIn K cd22 "_need_without" = true) (k22 : PySem.W.keepIn K (.ref f22) = true)
    (a23 : PySem.W.nsIn K mainGlobals "_places_to" = some (some (.ref f23))) (l23 : K.lookup f23 = some ⟨oc23, od23, .func (PySem.W.fnOf "_places_to" "_places_to" (defArgs s_places_to) (defBody s_places_to) (defScope s_places_to) .none kV23 dc23 pm23 an23 cd23 ct23), sl23⟩) (c23 : PySem.W.codeIn K cd23 "_places_to" = true) (k23 : PySem.W.keepIn K (.ref f23) = true)
    (a24 : PySem.W.nsIn K mainGlobals "reach" = some (some (.ref f24))) (l24 : K.lookup f24 = some ⟨oc24, od24, .func (PySem.W.fnOf "reach" "reach" (defArgs sreach) (defBody sreach) (defScope sreach) .none kV24 dc24 pm24 an24 cd24 ct24), sl24⟩) (c24 : PySem.W.codeIn K cd24 "reach" = true) (k24 : PySem.W.keepIn K (.ref f24) = true)
    (a25 : PySem.W.nsIn K mainGlobals "way" = some (some (.ref f25))) (l25 : K.lookup f25 = some ⟨oc25, od25, .func (PySem.W.fnOf "way" "way" (defArgs sway) (defBody sway) (defScope sway) .none kV25 dc25 pm25 an25 cd25 ct25), sl25⟩) (c25 : PySem.W.codeIn K cd25 "way" = true) (k25 : PySem.W.keepIn K (.ref f25) = true)
    (a26 : PySem.W.nsIn K mainGlobals "_walk_back" = some (some (.ref f26))) (l26 : K.lookup f26 = some ⟨oc26, od26, .func (PySem.W.fnOf "_walk_back" "_walk_back" (defArgs s_walk_back) (defBody s_walk_back) (defScope s_walk_back) .none kV26 dc26 pm26 an26 cd26 ct26), sl26⟩) (c26 : PySem.W.codeIn K cd26 "_walk_back" = true) (k26 : PySem.W.keepIn K (.ref f26) = true)
    (a27 : PySem.W.nsIn K mainGlobals "plain_parts" = some (some (.ref f27))) (l27 : K.lookup f27 = some ⟨oc27, od27, .func (PySem.W.fnOf "plain_parts" "plain_parts" (defArgs splain_parts) (defBody splain_parts) (defScope splain_parts) .none kV27 dc27 pm27 an27 cd27 ct27), sl27⟩) (c27 : PySem.W.codeIn K cd27 "plain_parts" = true) (k27 : PySem.W.keepIn K (.ref f27) = true)
    (a28 : PySem.W.nsIn K mainGlobals "parts_of" = some (some (.ref f28))) (l28 : K.lookup f28 = some ⟨oc28, od28, .func (PySem.W.fnOf "parts_of" "parts_of" (defArgs sparts_of) (defBody sparts_of) (defScope sparts_of) .none kV28 dc28 pm28 an28 cd28 ct28), sl28⟩) (c28 : PySem.W.codeIn K cd28 "parts_of" = true) (k28 : PySem.W.keepIn K (.ref f28) = true)
    (a29 : PySem.W.nsIn K mainGlobals "is_close" = some (some (.ref f29))) (l29 : K.lookup f29 = some ⟨oc29, od29, .func (PySem.W.fnOf "is_close" "is_close" (defArgs sis_close) (defBody sis_close) (defScope sis_close) .none kV29 dc29 pm29 an29 cd29 ct29), sl29⟩) (c29 : PySem.W.codeIn K cd29 "is_close" = true) (k29 : PySem.W.keepIn K (.ref f29) = true)
    (a30 : PySem.W.nsIn K mainGlobals "is_single_ring" = some (some (.ref f30))) (l30 : K.lookup f30 = some ⟨oc30, od30, .func (PySem.W.fnOf "is_single_ring" "is_single_ring" (defArgs sis_single_ring) (defBody sis_single_ring) (defScope sis_single_ring) .none kV30 dc30 pm30 an30 cd30 ct30), sl30⟩) (c30 : PySem.W.codeIn K cd30 "is_single_ring" = true) (k30 : PySem.W.keepIn K (.ref f30) = true)
    (a31 : PySem.W.nsIn K mainGlobals "_need_part" = some (some (.ref f31))) (l31 : K.lookup f31 = some ⟨oc31, od31, .func (PySem.W.fnOf "_need_part" "_need_part" (defArgs s_need_part) (defBody s_need_part) (defScope s_need_part) .none kV31 dc31 pm31 an31 cd31 ct31), sl31⟩) (c31 : PySem.W.codeIn K cd31 "_need_part" = true) (k31 : PySem.W.keepIn K (.ref f31) = true)
    (a32 : PySem.W.nsIn K mainGlobals "part_web" = some (some (.ref f32))) (l32 : K.lookup f32 = some ⟨oc32, od32, .func (PySem.W.fnOf "part_web" "part_web" (defArgs spart_web) (defBody spart_web) (defScope spart_web) .none kV32 dc32 pm32 an32 cd32 ct32), sl32⟩) (c32 : PySem.W.codeIn K cd32 "part_web" = true) (k32 : PySem.W.keepIn K (.ref f32) = true)
    (a33 : PySem.W.nsIn K mainGlobals "_law_pot" = some (some (.ref f33))) (l33 : K.lookup f33 = some ⟨oc33, od33, .func (PySem.W.fnOf "_law_pot" "_law_pot" (defArgs s_law_pot) (defBody s_law_pot) (defScope s_law_pot) .none kV33 dc33 pm33 an33 cd33 ct33), sl33⟩) (c33 : PySem.W.codeIn K cd33 "_law_pot" = true) (k33 : PySem.W.keepIn K (.ref f33) = true)
    (a34 : PySem.W.nsIn K mainGlobals "_law_draw" = some (some (.ref f34))) (l34 : K.lookup f34 = some ⟨oc34, od34, .func (PySem.W.fnOf "_law_draw" "_law_draw" (defArgs s_law_draw) (defBody s_law_draw) (defScope s_law_draw) .none kV34 dc34 pm34 an34 cd34 ct34), sl34⟩) (c34 : PySem.W.codeIn K cd34 "_law_draw" = true) (k34 : PySem.W.keepIn K (.ref f34) = true)
    (a35 : PySem.W.nsIn K mainGlobals "_law_heard" = some (some (.ref f35))) (l35 : K.lookup f35 = some ⟨oc35, od35, .func (PySem.W.fnOf "_law_heard" "_law_heard" (defArgs s_law_heard) (defBody s_law_heard) (defScope s_law_heard) .none kV35 dc35 pm35 an35 cd35 ct35), sl35⟩) (c35 : PySem.W.codeIn K cd35 "_law_heard" = true) (k35 : PySem.W.keepIn K (.ref f35) = true)
    (a36 : PySem.W.nsIn K mainGlobals "_law_are" = some (some (.ref f36))) (l36 : K.lookup f36 = some ⟨oc36, od36, .func (PySem.W.fnOf "_law_are" "_law_are" (defArgs s_law_are) (defBody s_law_are) (defScope s_law_are) .none kV36 dc36 pm36 an36 cd36 ct36), sl36⟩) (c36 : PySem.W.codeIn K cd36 "_law_are" = true) (k36 : PySem.W.keepIn K (.ref f36) = true)
    (a37 : PySem.W.nsIn K mainGlobals "_law_made_right" = some (some (.ref f37))) (l37 : K.lookup f37 = some ⟨oc37, od37, .func (PySem.W.fnOf "_law_made_right" "_law_made_right" (defArgs s_law_made_right) (defBody s_law_made_right) (defScope s_law_made_right) .none kV37 dc37 pm37 an37 (.ref cN37) ct37), sl37⟩) (c37 : PySem.W.codeIn K (.ref cN37) "_law_made_right" = true) (k37 : PySem.W.keepIn K (.ref f37) = true)
    (tv37 : K.lookup cN37 = some ⟨ocN37, odN37, .fields vsN37, slN37⟩) (tw37 : vsN37[11]? = some (.ref PN37)) (tn37 : K.lookup PN37 = none)
    (a38 : PySem.W.nsIn K mainGlobals "_law_webs_right" = some (some (.ref f38))) (l38 : K.lookup f38 = some ⟨oc38, od38, .func (PySem.W.fnOf "_law_webs_right" "_law_webs_right" (defArgs s_law_webs_right) (defBody s_law_webs_right) (defScope s_law_webs_right) .none kV38 dc38 pm38 an38 (.ref cN38) ct38), sl38⟩) (c38 : PySem.W.codeIn K (.ref cN38) "_law_webs_right" = true) (k38 : PySem.W.keepIn K (.ref f38) = true)
    (tv38 : K.lookup cN38 = some ⟨ocN38, odN38, .fields vsN38, slN38⟩) (tw38 : vsN38[11]? = some (.ref PN38)) (tn38 : K.lookup PN38 = none)
    (a39 : PySem.W.nsIn K mainGlobals "_law_others_right" = some (some (.ref f39))) (l39 : K.lookup f39 = some ⟨oc39, od39, .func (PySem.W.fnOf "_law_others_right" "_law_others_right" (defArgs s_law_others_right) (defBody s_law_others_right) (defScope s_law_others_right) .none kV39 dc39 pm39 an39 (.ref cN39) ct39), sl39⟩) (c39 : PySem.W.codeIn K (.ref cN39) "_law_others_right" = true) (k39 : PySem.W.keepIn K (.ref f39) = true)
    (tv39 : K.lookup cN39 = some ⟨ocN39, odN39, .fields vsN39, slN39⟩) (tw39 : vsN39[11]? = some (.ref PN39)) (tn39 : K.lookup PN39 = none)
    (a40 : PySem.W.nsIn K mainGlobals "_law_right" = some (some (.ref f40))) (l40 : K.lookup f40 = some ⟨oc40, od40, .func (PySem.W.fnOf "_law_right" "_law_right" (defArgs s_law_right) (defBody s_law_right) (defScope s_law_right) .none kV40 dc40 pm40 an40 cd40 ct40), sl40⟩) (c40 : PySem.W.codeIn K cd40 "_law_right" = true) (k40 : PySem.W.keepIn K (.ref f40) = true)
    (a41 : PySem.W.nsIn K mainGlobals "law" = some (some (.ref f41))) (l41 : K.lookup f41 = some ⟨oc41, od41, .func (PySem.W.fnOf "law" "law" (defArgs slaw) (defBody slaw) (defScope slaw) .none kV41 dc41 pm41 an41 cd41 ct41), sl41⟩) (c41 : PySem.W.codeIn K cd41 "law" = true) (k41 : PySem.W.keepIn K (.ref f41) = true)
    (ne37_38 : (PN37 == PN38) = false)
    (ne37_39 : (PN37 == PN39) = false)
    (ne38_39 : (PN38 == PN39) = false)
    (pg : PySem.W.plainGet K C Str.empty = true) (hd : PySem.W.hasDictIn K C = true) (po : PySem.W.plainOver K C = true) (sa : PySem.W.findIn K (.ref C) "__setattr__" = some (some (.builtin "object.__setattr__"))) (mk : PySem.W.makesIn K C = true) (kc : PySem.W.keepIn K (.ref C) = true)
    (n0 : PySem.W.findIn K (.ref C) "_places" = some none)
    (n1 : PySem.W.findIn K (.ref C) "_ties" = some none)
    (n2 : PySem.W.findIn K (.ref C) "_ties_from" = some none)
    (n3 : PySem.W.findIn K (.ref C) "_ties_to" = some none)
    (q1 : PySem.W.findIn K (.ref C) "__class__" = some (some (.builtin "object.__class__"))) (q2 : PySem.W.specialIn K (.builtin "object.__class__") "__get__" = some (some (.builtin "getset_descriptor.__get__"))) (q3 : PySem.W.takesIn K (.builtin "object.__class__") = some true) (q4 : PySem.W.mroIn K C (.type "object") = some true) (w1 : PySem.W.findIn K (.ref C) "__ne__" = some (some (.builtin "object.__ne__"))) (w2 : PySem.W.isClsIn K C = true) (w3 : PySem.W.typeIn K (.ref C) = some (.type "type"))
    (no0 : PySem.W.subIn K (.type "NoneType") (.ref C) = some false)
    (no1 : PySem.W.subIn K (.type "bool") (.ref C) = some false)
    (no2 : PySem.W.subIn K (.type "int") (.ref C) = some false)
    (no3 : PySem.W.subIn K (.type "str") (.ref C) = some false)
    (no4 : PySem.W.subIn K (.type "list") (.ref C) = some false)
    (no5 : PySem.W.subIn K (.type "tuple") (.ref C) = some false)
    (no6 : PySem.W.subIn K (.type "dict") (.ref C) = some false)
    (aP : PySem.W.nsIn K mainGlobals "PieceError" = some (some (.ref CPE)))
    (xCE0 : PySem.W.nsIn K mainGlobals "InvalidWeb" = some (some (.ref CE0))) (xOE0 : K.lookup CE0 = some (excClassObj nmE0 qnE0 CE0 NE0 bsE0 bmE0 true snE0 subE0 abE0 colE0 ddE0 k0E0 k1E0 k2E0 k3E0 k5E0 "ValueError.__new__")) (xRE0 : PySem.HandSPX.refsVE bmE0 = true) (xsE0 : PySem.W.findIn K (.ref CE0) "__setattr__" = some (some (.builtin "object.__setattr__"))) (xbE0 : PySem.W.subIn K (.ref CE0) (.type "BaseException") = some true) (xtE0 : PySem.W.typeIn K (.ref CE0) = some (.type "type")) (xkE0 : PySem.W.keepIn K (.ref CE0) = true) (xiE0 : PySem.W.findIn K (.ref CE0) "__init__" = some (some (.ref fE0))) (xfE0 : PySem.W.typeIn K (.ref fE0) = some (.type "function")) (lE0 : K.lookup fE0 = some ⟨ocE0, odE0, .func (PySem.W.fnOf "__init__" "InvalidWeb.__init__" (defArgs sxInvalidWeb) (defBody sxInvalidWeb) (defScope sxInvalidWeb) .none kVE0 dcE0 pmE0 anE0 cdE0 ctE0), slE0⟩) (cE0 : PySem.W.codeIn K cdE0 "InvalidWeb.__init__" = true) (kE0 : PySem.W.keepIn K (.ref fE0) = true)
    (xgaE0 : PySem.W.findIn K (.ref CE0) "__getattribute__" = some (some (.builtin "BaseException.__getattribute__"))) (xggE0 : PySem.W.findIn K (.ref CE0) "__getattr__" = some none) (xhdE0 : PySem.W.hasDictIn K CE0 = true) (xnoE0 : PySem.W.findIn K (.ref CE0) "value" = some none) (xpE0 : PySem.W.isIn K (.ref CE0) CPE = true)
    (xCE1 : PySem.W.nsIn K mainGlobals "InvalidPlaces" = some (some (.ref CE1))) (xOE1 : K.lookup CE1 = some (excClassObj nmE1 qnE1 CE1 NE1 bsE1 bmE1 true snE1 subE1 abE1 colE1 ddE1 k0E1 k1E1 k2E1 k3E1 k5E1 "ValueError.__new__")) (xRE1 : PySem.HandSPX.refsVE bmE1 = true) (xsE1 : PySem.W.findIn K (.ref CE1) "__setattr__" = some (some (.builtin "object.__setattr__"))) (xbE1 : PySem.W.subIn K (.ref CE1) (.type "BaseException") = some true) (xtE1 : PySem.W.typeIn K (.ref CE1) = some (.type "type")) (xkE1 : PySem.W.keepIn K (.ref CE1) = true) (xiE1 : PySem.W.findIn K (.ref CE1) "__init__" = some (some (.ref fE1))) (xfE1 : PySem.W.typeIn K (.ref fE1) = some (.type "function")) (lE1 : K.lookup fE1 = some ⟨ocE1, odE1, .func (PySem.W.fnOf "__init__" "InvalidPlaces.__init__" (defArgs sxInvalidPlaces) (defBody sxInvalidPlaces) (defScope sxInvalidPlaces) .none kVE1 dcE1 pmE1 anE1 cdE1 ctE1), slE1⟩) (cE1 : PySem.W.codeIn K cdE1 "InvalidPlaces.__init__" = true) (kE1 : PySem.W.keepIn K (.ref fE1) = true)
    (xgaE1 : PySem.W.findIn K (.ref CE1) "__getattribute__" = some (some (.builtin "BaseException.__getattribute__"))) (xggE1 : PySem.W.findIn K (.ref CE1) "__getattr__" = some none) (xhdE1 : PySem.W.hasDictIn K CE1 = true) (xnoE1 : PySem.W.findIn K (.ref CE1) "value" = some none) (xpE1 : PySem.W.isIn K (.ref CE1) CPE = true)
    (xCE2 : PySem.W.nsIn K mainGlobals "InvalidTies" = some (some (.ref CE2))) (xOE2 : K.lookup CE2 = some (excClassObj nmE2 qnE2 CE2 NE2 bsE2 bmE2 true snE2 subE2 abE2 colE2 ddE2 k0E2 k1E2 k2E2 k3E2 k5E2 "ValueError.__new__")) (xRE2 : PySem.HandSPX.refsVE bmE2 = true) (xsE2 : PySem.W.findIn K (.ref CE2) "__setattr__" = some (some (.builtin "object.__setattr__"))) (xbE2 : PySem.W.subIn K (.ref CE2) (.type "BaseException") = some true) (xtE2 : PySem.W.typeIn K (.ref CE2) = some (.type "type")) (xkE2 : PySem.W.keepIn K (.ref CE2) = true) (xiE2 : PySem.W.findIn K (.ref CE2) "__init__" = some (some (.ref fE2))) (xfE2 : PySem.W.typeIn K (.ref fE2) = some (.type "function")) (lE2 : K.lookup fE2 = some ⟨ocE2, odE2, .func (PySem.W.fnOf "__init__" "InvalidTies.__init__" (defArgs sxInvalidTies) (defBody sxInvalidTies) (defScope sxInvalidTies) .none kVE2 dcE2 pmE2 anE2 cdE2 ctE2), slE2⟩) (cE2 : PySem.W.codeIn K cdE2 "InvalidTies.__init__" = true) (kE2 : PySem.W.keepIn K (.ref fE2) = true)
    (xgaE2 : PySem.W.findIn K (.ref CE2) "__getattribute__" = some (some (.builtin "BaseException.__getattribute__"))) (xggE2 : PySem.W.findIn K (.ref CE2) "__getattr__" = some none) (xhdE2 : PySem.W.hasDictIn K CE2 = true) (xnoE2 : PySem.W.findIn K (.ref CE2) "value" = some none) (xpE2 : PySem.W.isIn K (.ref CE2) CPE = true)
    (xCE3 : PySem.W.nsIn K mainGlobals "InvalidPlace" = some (some (.ref CE3))) (xOE3 : K.lookup CE3 = some (excClassObj nmE3 qnE3 CE3 NE3 bsE3 bmE3 true snE3 subE3 abE3 colE3 ddE3 k0E3 k1E3 k2E3 k3E3 k5E3 "ValueError.__new__")) (xRE3 : PySem.HandSPX.refsVE bmE3 = true) (xsE3 : PySem.W.findIn K (.ref CE3) "__setattr__" = some (some (.builtin "object.__setattr__"))) (xbE3 : PySem.W.subIn K (.ref CE3) (.type "BaseException") = some true) (xtE3 : PySem.W.typeIn K (.ref CE3) = some (.type "type")) (xkE3 : PySem.W.keepIn K (.ref CE3) = true) (xiE3 : PySem.W.findIn K (.ref CE3) "__init__" = some (some (.ref fE3))) (xfE3 : PySem.W.typeIn K (.ref fE3) = some (.type "function")) (lE3 : K.lookup fE3 = some ⟨ocE3, odE3, .func (PySem.W.fnOf "__init__" "InvalidPlace.__init__" (defArgs sxInvalidPlace) (defBody sxInvalidPlace) (defScope sxInvalidPlace) .none kVE3 dcE3 pmE3 anE3 cdE3 ctE3), slE3⟩) (cE3 : PySem.W.codeIn K cdE3 "InvalidPlace.__init__" = true) (kE3 : PySem.W.keepIn K (.ref fE3) = true)
    (xgaE3 : PySem.W.findIn K (.ref CE3) "__getattribute__" = some (some (.builtin "BaseException.__getattribute__"))) (xggE3 : PySem.W.findIn K (.ref CE3) "__getattr__" = some none) (xhdE3 : PySem.W.hasDictIn K CE3 = true) (xnoE3 : PySem.W.findIn K (.ref CE3) "value" = some none) (xpE3 : PySem.W.isIn K (.ref CE3) CPE = true)
    (xCE4 : PySem.W.nsIn K mainGlobals "InvalidWalk" = some (some (.ref CE4))) (xOE4 : K.lookup CE4 = some (excClassObj nmE4 qnE4 CE4 NE4 bsE4 bmE4 true snE4 subE4 abE4 colE4 ddE4 k0E4 k1E4 k2E4 k3E4 k5E4 "ValueError.__new__")) (xRE4 : PySem.HandSPX.refsVE bmE4 = true) (xsE4 : PySem.W.findIn K (.ref CE4) "__setattr__" = some (some (.builtin "object.__setattr__"))) (xbE4 : PySem.W.subIn K (.ref CE4) (.type "BaseException") = some true) (xtE4 : PySem.W.typeIn K (.ref CE4) = some (.type "type")) (xkE4 : PySem.W.keepIn K (.ref CE4) = true) (xiE4 : PySem.W.findIn K (.ref CE4) "__init__" = some (some (.ref fE4))) (xfE4 : PySem.W.typeIn K (.ref fE4) = some (.type "function")) (lE4 : K.lookup fE4 = some ⟨ocE4, odE4, .func (PySem.W.fnOf "__init__" "InvalidWalk.__init__" (defArgs sxInvalidWalk) (defBody sxInvalidWalk) (defScope sxInvalidWalk) .none kVE4 dcE4 pmE4 anE4 cdE4 ctE4), slE4⟩) (cE4 : PySem.W.codeIn K cdE4 "InvalidWalk.__init__" = true) (kE4 : PySem.W.keepIn K (.ref fE4) = true)
    (xgaE4 : PySem.W.findIn K (.ref CE4) "__getattribute__" = some (some (.builtin "BaseException.__getattribute__"))) (xggE4 : PySem.W.findIn K (.ref CE4) "__getattr__" = some none) (xhdE4 : PySem.W.hasDictIn K CE4 = true) (xnoE4 : PySem.W.findIn K (.ref CE4) "value" = some none) (xpE4 : PySem.W.isIn K (.ref CE4) CPE = true)
    (xCE5 : PySem.W.nsIn K mainGlobals "InvalidRound" = some (some (.ref CE5))) (xOE5 : K.lookup CE5 = some (excClassObj nmE5 qnE5 CE5 NE5 bsE5 bmE5 true snE5 subE5 abE5 colE5 ddE5 k0E5 k1E5 k2E5 k3E5 k5E5 "ValueError.__new__")) (xRE5 : PySem.HandSPX.refsVE bmE5 = true) (xsE5 : PySem.W.findIn K (.ref CE5) "__setattr__" = some (some (.builtin "object.__setattr__"))) (xbE5 : PySem.W.subIn K (.ref CE5) (.type "BaseException") = some true) (xtE5 : PySem.W.typeIn K (.ref CE5) = some (.type "type")) (xkE5 : PySem.W.keepIn K (.ref CE5) = true) (xiE5 : PySem.W.findIn K (.ref CE5) "__init__" = some (some (.ref fE5))) (xfE5 : PySem.W.typeIn K (.ref fE5) = some (.type "function")) (lE5 : K.lookup fE5 = some ⟨ocE5, odE5, .func (PySem.W.fnOf "__init__" "InvalidRound.__init__" (defArgs sxInvalidRound) (defBody sxInvalidRound) (defScope sxInvalidRound) .none kVE5 dcE5 pmE5 anE5 cdE5 ctE5), slE5⟩) (cE5 : PySem.W.codeIn K cdE5 "InvalidRound.__init__" = true) (kE5 : PySem.W.keepIn K (.ref fE5) = true)
    (xgaE5 : PySem.W.findIn K (.ref CE5) "__getattribute__" = some (some (.builtin "BaseException.__getattribute__"))) (xggE5 : PySem.W.findIn K (.ref CE5) "__getattr__" = some none) (xhdE5 : PySem.W.hasDictIn K CE5 = true) (xnoE5 : PySem.W.findIn K (.ref CE5) "value" = some none) (xpE5 : PySem.W.isIn K (.ref CE5) CPE = true)
    (xCE6 : PySem.W.nsIn K mainGlobals "InvalidWithout" = some (some (.ref CE6))) (xOE6 : K.lookup CE6 = some (excClassObj nmE6 qnE6 CE6 NE6 bsE6 bmE6 true snE6 subE6 abE6 colE6 ddE6 k0E6 k1E6 k2E6 k3E6 k5E6 "ValueError.__new__")) (xRE6 : PySem.HandSPX.refsVE bmE6 = true) (xsE6 : PySem.W.findIn K (.ref CE6) "__setattr__" = some (some (.builtin "object.__setattr__"))) (xbE6 : PySem.W.subIn K (.ref CE6) (.type "BaseException") = some true) (xtE6 : PySem.W.typeIn K (.ref CE6) = some (.type "type")) (xkE6 : PySem.W.keepIn K (.ref CE6) = true) (xiE6 : PySem.W.findIn K (.ref CE6) "__init__" = some (some (.ref fE6))) (xfE6 : PySem.W.typeIn K (.ref fE6) = some (.type "function")) (lE6 : K.lookup fE6 = some ⟨ocE6, odE6, .func (PySem.W.fnOf "__init__" "InvalidWithout.__init__" (defArgs sxInvalidWithout) (defBody sxInvalidWithout) (defScope sxInvalidWithout) .none kVE6 dcE6 pmE6 anE6 cdE6 ctE6), slE6⟩) (cE6 : PySem.W.codeIn K cdE6 "InvalidWithout.__init__" = true) (kE6 : PySem.W.keepIn K (.ref fE6) = true)
    (xgaE6 : PySem.W.findIn K (.ref CE6) "__getattribute__" = some (some (.builtin "BaseException.__getattribute__"))) (xggE6 : PySem.W.findIn K (.ref CE6) "__getattr__" = some none) (xhdE6 : PySem.W.hasDictIn K CE6 = true) (xnoE6 : PySem.W.findIn K (.ref CE6) "value" = some none) (xpE6 : PySem.W.isIn K (.ref CE6) CPE = true)
    (xCE7 : PySem.W.nsIn K mainGlobals "InvalidPart" = some (some (.ref CE7))) (xOE7 : K.lookup CE7 = some (excClassObj nmE7 qnE7 CE7 NE7 bsE7 bmE7 true snE7 subE7 abE7 colE7 ddE7 k0E7 k1E7 k2E7 k3E7 k5E7 "ValueError.__new__")) (xRE7 : PySem.HandSPX.refsVE bmE7 = true) (xsE7 : PySem.W.findIn K (.ref CE7) "__setattr__" = some (some (.builtin "object.__setattr__"))) (xbE7 : PySem.W.subIn K (.ref CE7) (.type "BaseException") = some true) (xtE7 : PySem.W.typeIn K (.ref CE7) = some (.type "type")) (xkE7 : PySem.W.keepIn K (.ref CE7) = true) (xiE7 : PySem.W.findIn K (.ref CE7) "__init__" = some (some (.ref fE7))) (xfE7 : PySem.W.typeIn K (.ref fE7) = some (.type "function")) (lE7 : K.lookup fE7 = some ⟨ocE7, odE7, .func (PySem.W.fnOf "__init__" "InvalidPart.__init__" (defArgs sxInvalidPart) (defBody sxInvalidPart) (defScope sxInvalidPart) .none kVE7 dcE7 pmE7 anE7 cdE7 ctE7), slE7⟩) (cE7 : PySem.W.codeIn K cdE7 "InvalidPart.__init__" = true) (kE7 : PySem.W.keepIn K (.ref fE7) = true)
    (xgaE7 : PySem.W.findIn K (.ref CE7) "__getattribute__" = some (some (.builtin "BaseException.__getattribute__"))) (xggE7 : PySem.W.findIn K (.ref CE7) "__getattr__" = some none) (xhdE7 : PySem.W.hasDictIn K CE7 = true) (xnoE7 : PySem.W.findIn K (.ref CE7) "value" = some none) (xpE7 : PySem.W.isIn K (.ref CE7) CPE = true)
    (xx0_0 : PySem.W.subIn K (.ref CE0) (.ref CE0) = some true)
    (xx1_0 : PySem.W.subIn K (.ref CE1) (.ref CE0) = some false) (xx1_1 : PySem.W.subIn K (.ref CE1) (.ref CE1) = some true)
    (xx2_0 : PySem.W.subIn K (.ref CE2) (.ref CE0) = some false) (xx2_1 : PySem.W.subIn K (.ref CE2) (.ref CE1) = some false) (xx2_2 : PySem.W.subIn K (.ref CE2) (.ref CE2) = some true)
    (xx3_0 : PySem.W.subIn K (.ref CE3) (.ref CE0) = some false) (xx3_1 : PySem.W.subIn K (.ref CE3) (.ref CE1) = some false) (xx3_2 : PySem.W.subIn K (.ref CE3) (.ref CE2) = some false) (xx3_3 : PySem.W.subIn K (.ref CE3) (.ref CE3) = some true)
    (xx4_0 : PySem.W.subIn K (.ref CE4) (.ref CE0) = some false) (xx4_1 : PySem.W.subIn K (.ref CE4) (.ref CE1) = some false) (xx4_2 : PySem.W.subIn K (.ref CE4) (.ref CE2) = some false) (xx4_3 : PySem.W.subIn K (.ref CE4) (.ref CE3) = some false) (xx4_4 : PySem.W.subIn K (.ref CE4) (.ref CE4) = some true)
    (xx5_0 : PySem.W.subIn K (.ref CE5) (.ref CE0) = some false) (xx5_1 : PySem.W.subIn K (.ref CE5) (.ref CE1) = some false) (xx5_2 : PySem.W.subIn K (.ref CE5) (.ref CE2) = some false) (xx5_3 : PySem.W.subIn K (.ref CE5) (.ref CE3) = some false) (xx5_4 : PySem.W.subIn K (.ref CE5) (.ref CE4) = some false) (xx5_5 : PySem.W.subIn K (.ref CE5) (.ref CE5) = some true)
    (xx6_0 : PySem.W.subIn K (.ref CE6) (.ref CE0) = some false) (xx6_1 : PySem.W.subIn K (.ref CE6) (.ref CE1) = some false) (xx6_2 : PySem.W.subIn K (.ref CE6) (.ref CE2) = some false) (xx6_3 : PySem.W.subIn K (.ref CE6) (.ref CE3) = some false) (xx6_4 : PySem.W.subIn K (.ref CE6) (.ref CE4) = some false) (xx6_5 : PySem.W.subIn K (.ref CE6) (.ref CE5) = some false) (xx6_6 : PySem.W.subIn K (.ref CE6) (.ref CE6) = some true)
    (xx7_0 : PySem.W.subIn K (.ref CE7) (.ref CE0) = some false) (xx7_1 : PySem.W.subIn K (.ref CE7) (.ref CE1) = some false) (xx7_2 : PySem.W.subIn K (.ref CE7) (.ref CE2) = some false) (xx7_3 : PySem.W.subIn K (.ref CE7) (.ref CE3) = some false) (xx7_4 : PySem.W.subIn K (.ref CE7) (.ref CE4) = some false) (xx7_5 : PySem.W.subIn K (.ref CE7) (.ref CE5) = some false) (xx7_6 : PySem.W.subIn K (.ref CE7) (.ref CE6) = some false) (xx7_7 : PySem.W.subIn K (.ref CE7) (.ref CE7) = some true)
    (z0 : PySem.W.nsIn K mainGlobals "isinstance" = some none)
    (z1 : PySem.W.nsIn K mainGlobals "int" = some none)
    (z2 : PySem.W.nsIn K mainGlobals "bool" = some none)
    (z3 : PySem.W.nsIn K mainGlobals "list" = some none)
    (z4 : PySem.W.nsIn K mainGlobals "tuple" = some none)
    (z5 : PySem.W.nsIn K mainGlobals "len" = some none)
    (z6 : PySem.W.nsIn K mainGlobals "range" = some none)
    (z7 : PySem.W.nsIn K mainGlobals "abs" = some none)
    (z8 : PySem.W.nsIn K mainGlobals "max" = some none)
    (z9 : PySem.W.nsIn K mainGlobals "divmod" = some none)
    (z10 : PySem.W.nsIn K mainGlobals "enumerate" = some none)
    (z11 : PySem.W.nsIn K mainGlobals "sorted" = some none)
    (z12 : PySem.W.nsIn K mainGlobals "set" = some none)
    (z13 : PySem.W.nsIn K mainGlobals "all" = some none)
    (z14 : PySem.W.nsIn K mainGlobals "repr" = some none)
    (y0 : PySem.W.nsIn K mainGlobals "MOST_PLACES" = some (some (.int 60 t0)))
    (y1 : PySem.W.nsIn K mainGlobals "MOST_TIES" = some (some (.int 80 t1)))
    (y2 : PySem.W.nsIn K mainGlobals "LONGEST_WALK" = some (some (.int 400 t2)))
    (y3 : PySem.W.nsIn K mainGlobals "LONGEST_ROUND" = some (some (.int 200000 t3)))
    : ∃ (fd : FuncData) (cs : List (Addr × Addr)) (sp : Sp), (∀ p ∈ cs, h.get? p.2 = some tab0) ∧ (∀ p ∈ cs, K.lookup p.2 = none) ∧ (∀ p ∈ cs, PySem.W.CodeHd h p.1 p.2) ∧ (∀ (s : Shared) (u : Value), BindsTo s fd ⟨[u], []⟩ [("_law_script", u)]) ∧
        (∀ (H : Hp) (a : Addr) (ns : List Int), ns.length ≤ 63 → (∀ p ∈ cs, H p.2 = some (.tbl #[])) → SqL K H a (ns.map V.int) → sp [.ref a] H (fun v _ => v = .bl true) fun _ _ _ => False) ∧
        ∀ base : Heap, K.In base → base.Ns mainGlobals mg → (∀ p ∈ cs, TabB base mg p.1 p.2) → FnG l.prog w K mg base 26 fa fd ["_law_script"] sp := by
  have e := hfa.symm.trans (PySem.W.mg_of X G a41)
  cases e
  have B : Bs mg := ⟨PySem.W.mg_none_of X G z0, PySem.W.mg_none_of X G z1, PySem.W.mg_none_of X G z2, PySem.W.mg_none_of X G z3, PySem.W.mg_none_of X G z4, PySem.W.mg_none_of X G z5, PySem.W.mg_none_of X G z6, PySem.W.mg_none_of X G z7, PySem.W.mg_none_of X G z8, PySem.W.mg_none_of X G z9, PySem.W.mg_none_of X G z10, PySem.W.mg_none_of X G z11, PySem.W.mg_none_of X G z12, PySem.W.mg_none_of X G z13, PySem.W.mg_none_of X G z14⟩
  have Glb : Glo mg := ⟨⟨t0, PySem.W.mg_of X G y0⟩, ⟨t1, PySem.W.mg_of X G y1⟩, ⟨t2, PySem.W.mg_of X G y2⟩, ⟨t3, PySem.W.mg_of X G y3⟩⟩
  have NO : ∀ t ∈ ["NoneType", "bool", "int", "str", "list", "tuple", "dict"], PySem.W.kitOne K (.type t) (.ref C) = some false := List.forall_mem_cons.mpr ⟨kit_no w2 w3 no0, List.forall_mem_cons.mpr ⟨kit_no w2 w3 no1, List.forall_mem_cons.mpr ⟨kit_no w2 w3 no2, List.forall_mem_cons.mpr ⟨kit_no w2 w3 no3, List.forall_mem_cons.mpr ⟨kit_no w2 w3 no4, List.forall_mem_cons.mpr ⟨kit_no w2 w3 no5, List.forall_mem_cons.mpr ⟨kit_no w2 w3 no6, fun _ h => nomatch h⟩⟩⟩⟩⟩⟩⟩
  have WK : WebK K mg C := ⟨⟨pg, hd, po, sa⟩, n0, n1, n2, n3, PySem.W.mg_of X G aC, q1, q2, q3, q4, (by unfold PySem.W.kitOne; exact if_pos (beq_self_eq_true _)), w1, NO⟩
  have DWeb___init__ : DefI K C "__init__" "Web.__init__" sWeb___init__ ["self", "places", "ties"] := ⟨fM0, _, fun_mk (st := sWeb___init__) lM0 cM0 kM0, ⟨mk, aM0, iM0, kc⟩, (fun_mk (st := sWeb___init__) lM0 cM0 kM0).binds (ps := ["self", "places", "ties"]) fun _ _ _ _ _ _ us hl => match us, hl with | [_, _, _], _ => rfl⟩
  have DWeb_places : DefP K C "places" "Web.places" sWeb_places ["self"] := ⟨pM1, fM1, _, fun_mk (st := sWeb_places) lM1 cM1 kM1, ⟨aM1, gM1, tM1, _, rM1⟩, (fun_mk (st := sWeb_places) lM1 cM1 kM1).binds (ps := ["self"]) fun _ _ _ _ _ _ us hl => match us, hl with | [_], _ => rfl⟩
  have DWeb_many : DefP K C "many" "Web.many" sWeb_many ["self"] := ⟨pM2, fM2, _, fun_mk (st := sWeb_many) lM2 cM2 kM2, ⟨aM2, gM2, tM2, _, rM2⟩, (fun_mk (st := sWeb_many) lM2 cM2 kM2).binds (ps := ["self"]) fun _ _ _ _ _ _ us hl => match us, hl with | [_], _ => rfl⟩
  have DWeb_ties : DefM K C "ties" "Web.ties" sWeb_ties ["self"] := ⟨fM3, _, fun_mk (st := sWeb_ties) lM3 cM3 kM3, ⟨aM3, iM3, kM3⟩, (fun_mk (st := sWeb_ties) lM3 cM3 kM3).binds (ps := ["self"]) fun _ _ _ _ _ _ us hl => match us, hl with | [_], _ => rfl⟩
  have DWeb_ties_from : DefM K C "ties_from" "Web.ties_from" sWeb_ties_from ["self", "place"] := ⟨fM4, _, fun_mk (st := sWeb_ties_from) lM4 cM4 kM4, ⟨aM4, iM4, kM4⟩, (fun_mk (st := sWeb_ties_from) lM4 cM4 kM4).binds (ps := ["self", "place"]) fun _ _ _ _ _ _ us hl => match us, hl with | [_, _], _ => rfl⟩
  have DWeb_ties_to : DefM K C "ties_to" "Web.ties_to" sWeb_ties_to ["self", "place"] := ⟨fM5, _, fun_mk (st := sWeb_ties_to) lM5 cM5 kM5, ⟨aM5, iM5, kM5⟩, (fun_mk (st := sWeb_ties_to) lM5 cM5 kM5).binds (ps := ["self", "place"]) fun _ _ _ _ _ _ us hl => match us, hl with | [_, _], _ => rfl⟩
  have Dis_integer : Def K mg "is_integer" sis_integer ["value"] := def_mk X G a0 l0 c0 k0 (fun _ _ _ _ _ _ us hl => match us, hl with | [_], _ => rfl)
  have Dis_count : Def K mg "is_count" sis_count ["value"] := def_mk X G a1 l1 c1 k1 (fun _ _ _ _ _ _ us hl => match us, hl with | [_], _ => rfl)
  have Dis_between : Def K mg "is_between" sis_between ["value", "least", "most"] := def_mk X G a2 l2 c2 k2 (fun _ _ _ _ _ _ us hl => match us, hl with | [_, _, _], _ => rfl)
  have Dis_below : Def K mg "is_below" sis_below ["value", "limit"] := def_mk X G a3 l3 c3 k3 (fun _ _ _ _ _ _ us hl => match us, hl with | [_, _], _ => rfl)
  have Dis_listed : Def K mg "is_listed" sis_listed ["value"] := def_mk X G a4 l4 c4 k4 (fun _ _ _ _ _ _ us hl => match us, hl with | [_], _ => rfl)
  have Dstarts_in : Def K mg "starts_in" sstarts_in ["cycle", "word"] := def_mk X G a5 l5 c5 k5 (fun _ _ _ _ _ _ us hl => match us, hl with | [_, _], _ => rfl)
  have Dare_ties : Def K mg "are_ties" sare_ties ["places", "value"] := def_mk X G a6 l6 c6 k6 (fun _ _ _ _ _ _ us hl => match us, hl with | [_, _], _ => rfl)
  have Dneed_web : Def K mg "need_web" sneed_web ["web"] := def_mk X G a7 l7 c7 k7 (fun _ _ _ _ _ _ us hl => match us, hl with | [_], _ => rfl)
  have Dneed_place : Def K mg "need_place" sneed_place ["web", "place"] := def_mk X G a8 l8 c8 k8 (fun _ _ _ _ _ _ us hl => match us, hl with | [_, _], _ => rfl)
  have Dare_numbers : Def K mg "are_numbers" sare_numbers ["web", "value"] := def_mk X G a9 l9 c9 k9 (fun _ _ _ _ _ _ us hl => match us, hl with | [_, _], _ => rfl)
  have D_go_on : Def K mg "_go_on" s_go_on ["web", "value", "longest"] := def_mk X G a10 l10 c10 k10 (fun _ _ _ _ _ _ us hl => match us, hl with | [_, _, _], _ => rfl)
  have Dis_walk : Def K mg "is_walk" sis_walk ["web", "value"] := def_mk X G a11 l11 c11 k11 (fun _ _ _ _ _ _ us hl => match us, hl with | [_, _], _ => rfl)
  have Dis_round : Def K mg "is_round" sis_round ["web", "value"] := def_mk X G a12 l12 c12 k12 (fun _ _ _ _ _ _ us hl => match us, hl with | [_, _], _ => rfl)
  have Dneed_walk : Def K mg "need_walk" sneed_walk ["web", "walk"] := def_mk X G a13 l13 c13 k13 (fun _ _ _ _ _ _ us hl => match us, hl with | [_, _], _ => rfl)
  have Dneed_tour : Def K mg "need_tour" sneed_tour ["web", "tour"] := def_mk X G a14 l14 c14 k14 (fun _ _ _ _ _ _ us hl => match us, hl with | [_, _], _ => rfl)
  have Dleads : Def K mg "leads" sleads ["web", "walk"] := def_mk X G a15 l15 c15 k15 (fun _ _ _ _ _ _ us hl => match us, hl with | [_, _], _ => rfl)
  have Dcovers : Def K mg "covers" scovers ["web", "tour"] := def_mk X G a16 l16 c16 k16 (fun _ _ _ _ _ _ us hl => match us, hl with | [_, _], _ => rfl)
  have Dwalk_in_round : Def K mg "walk_in_round" swalk_in_round ["web", "tour", "walk"] := def_mk X G a17 l17 c17 k17 (fun _ _ _ _ _ _ us hl => match us, hl with | [_, _, _], _ => rfl)
  have Dweb_steps : Def K mg "web_steps" sweb_steps ["web"] := def_mk X G a18 l18 c18 k18 (fun _ _ _ _ _ _ us hl => match us, hl with | [_], _ => rfl)
  have Dback_web : Def K mg "back_web" sback_web ["web"] := def_mk X G a19 l19 c19 k19 (fun _ _ _ _ _ _ us hl => match us, hl with | [_], _ => rfl)
  have Dparts_in_turn : Def K mg "parts_in_turn" sparts_in_turn ["points", "steps"] := def_mk X G a20 l20 c20 k20 (fun _ _ _ _ _ _ us hl => match us, hl with | [_, _], _ => rfl)
  have D_left_from : Def K mg "_left_from" s_left_from ["ends", "point", "seen"] := def_mk X G a21 l21 c21 k21 (fun _ _ _ _ _ _ us hl => match us, hl with | [_, _, _], _ => rfl)
  have D_need_without : Def K mg "_need_without" s_need_without ["web", "without"] := def_mk X G a22 l22 c22 k22 (fun _ _ _ _ _ _ us hl => match us, hl with | [_, _], _ => rfl)
  have D_places_to : Def K mg "_places_to" s_places_to ["web", "without"] := def_mk X G a23 l23 c23 k23 (fun _ _ _ _ _ _ us hl => match us, hl with | [_, _], _ => rfl)
  have Dreach : Def K mg "reach" sreach ["web", "place", "without"] := def_mk X G a24 l24 c24 k24 (fun _ _ _ _ _ _ us hl => match us, hl with | [_, _, _], _ => rfl)
  have Dway : Def K mg "way" sway ["web", "near", "far", "without"] := def_mk X G a25 l25 c25 k25 (fun _ _ _ _ _ _ us hl => match us, hl with | [_, _, _, _], _ => rfl)
  have D_walk_back : Def K mg "_walk_back" s_walk_back ["ties", "came_by", "near", "far"] := def_mk X G a26 l26 c26 k26 (fun _ _ _ _ _ _ us hl => match us, hl with | [_, _, _, _], _ => rfl)
  have Dplain_parts : Def K mg "plain_parts" splain_parts ["web"] := def_mk X G a27 l27 c27 k27 (fun _ _ _ _ _ _ us hl => match us, hl with | [_], _ => rfl)
  have Dparts_of : Def K mg "parts_of" sparts_of ["web"] := def_mk X G a28 l28 c28 k28 (fun _ _ _ _ _ _ us hl => match us, hl with | [_], _ => rfl)
  have Dis_close : Def K mg "is_close" sis_close ["web"] := def_mk X G a29 l29 c29 k29 (fun _ _ _ _ _ _ us hl => match us, hl with | [_], _ => rfl)
  have Dis_single_ring : Def K mg "is_single_ring" sis_single_ring ["web"] := def_mk X G a30 l30 c30 k30 (fun _ _ _ _ _ _ us hl => match us, hl with | [_], _ => rfl)
  have D_need_part : Def K mg "_need_part" s_need_part ["web", "part"] := def_mk X G a31 l31 c31 k31 (fun _ _ _ _ _ _ us hl => match us, hl with | [_, _], _ => rfl)
  have Dpart_web : Def K mg "part_web" spart_web ["web", "part"] := def_mk X G a32 l32 c32 k32 (fun _ _ _ _ _ _ us hl => match us, hl with | [_, _], _ => rfl)
  have D_law_pot : Def K mg "_law_pot" s_law_pot ["_law_script", "_law_k"] := def_mk X G a33 l33 c33 k33 (fun _ _ _ _ _ _ us hl => match us, hl with | [_, _], _ => rfl)
  have D_law_draw : Def K mg "_law_draw" s_law_draw ["_law_pot_here", "_law_many"] := def_mk X G a34 l34 c34 k34 (fun _ _ _ _ _ _ us hl => match us, hl with | [_, _], _ => rfl)
  have D_law_heard : Def K mg "_law_heard" s_law_heard ["_law_call"] := def_mk X G a35 l35 c35 k35 (fun _ _ _ _ _ _ us hl => match us, hl with | [_], _ => rfl)
  have D_law_are : Def K mg "_law_are" s_law_are ["_law_word", "_law_odd", "_law_calls"] := def_mk X G a36 l36 c36 k36 (fun _ _ _ _ _ _ us hl => match us, hl with | [_, _, _], _ => rfl)
  have D_law_made_right : DefC K mg "_law_made_right" s_law_made_right [] cN37 := ⟨f37, _, fun_mk (st := s_law_made_right) l37 c37 k37, PySem.W.mg_of X G a37, (fun_mk (st := s_law_made_right) l37 c37 k37).binds (ps := []) fun _ _ _ _ _ _ us hl => match us, hl with | [], _ => rfl, rfl⟩
  have D_law_webs_right : DefC K mg "_law_webs_right" s_law_webs_right [] cN38 := ⟨f38, _, fun_mk (st := s_law_webs_right) l38 c38 k38, PySem.W.mg_of X G a38, (fun_mk (st := s_law_webs_right) l38 c38 k38).binds (ps := []) fun _ _ _ _ _ _ us hl => match us, hl with | [], _ => rfl, rfl⟩
  have D_law_others_right : DefC K mg "_law_others_right" s_law_others_right ["_law_web", "_law_loop"] cN39 := ⟨f39, _, fun_mk (st := s_law_others_right) l39 c39 k39, PySem.W.mg_of X G a39, (fun_mk (st := s_law_others_right) l39 c39 k39).binds (ps := ["_law_web", "_law_loop"]) fun _ _ _ _ _ _ us hl => match us, hl with | [_, _], _ => rfl, rfl⟩
  have D_law_right : Def K mg "_law_right" s_law_right ["_law_pot_here"] := def_mk X G a40 l40 c40 k40 (fun _ _ _ _ _ _ us hl => match us, hl with | [_], _ => rfl)
  have Dlaw : Def K mg "law" slaw ["_law_script"] := def_mk X G a41 l41 c41 k41 (fun _ _ _ _ _ _ us hl => match us, hl with | [_], _ => rfl)
  obtain ⟨XA, hx0, hx1, hx2, hx3, hx4, hx5, hx6, hx7⟩ : ∃ XA : Str → Addr, XA "InvalidWeb" = CE0 ∧ XA "InvalidPlaces" = CE1 ∧ XA "InvalidTies" = CE2 ∧ XA "InvalidPlace" = CE3 ∧ XA "InvalidWalk" = CE4 ∧ XA "InvalidRound" = CE5 ∧ XA "InvalidWithout" = CE6 ∧ XA "InvalidPart" = CE7 := ⟨pickX [("InvalidWeb", CE0), ("InvalidPlaces", CE1), ("InvalidTies", CE2), ("InvalidPlace", CE3), ("InvalidWalk", CE4), ("InvalidRound", CE5), ("InvalidWithout", CE6), ("InvalidPart", CE7)], rfl, rfl, rfl, rfl, rfl, rfl, rfl, rfl⟩
  have FE0 := fun_mk (st := sxInvalidWeb) lE0 cE0 kE0
  have EXInvalidWeb : ∀ base : Heap, ExcF l.prog w K mg base "value" "InvalidWeb" (XA "InvalidWeb") := fun base => by
    rw [hx0]
    exact excF_mk (st := sxInvalidWeb) ⟨⟨_, _, _, _, _, _, _, _, _, _, _, _, _, _, _, xOE0, xRE0⟩, xsE0, xbE0, xtE0, xkE0⟩ (PySem.W.mg_of X G xCE0) xiE0 xfE0 FE0 (FE0.binds (ps := ["self", "value"]) (fun _ _ _ _ _ _ us hl => match us, hl with | [_, _], _ => rfl)) sc_xInvalidWeb rfl ⟨xgaE0, xggE0, xbE0, xhdE0⟩ xnoE0
  have FE1 := fun_mk (st := sxInvalidPlaces) lE1 cE1 kE1
  have EXInvalidPlaces : ∀ base : Heap, ExcF l.prog w K mg base "value" "InvalidPlaces" (XA "InvalidPlaces") := fun base => by
    rw [hx1]
    exact excF_mk (st := sxInvalidPlaces) ⟨⟨_, _, _, _, _, _, _, _, _, _, _, _, _, _, _, xOE1, xRE1⟩, xsE1, xbE1, xtE1, xkE1⟩ (PySem.W.mg_of X G xCE1) xiE1 xfE1 FE1 (FE1.binds (ps := ["self", "value"]) (fun _ _ _ _ _ _ us hl => match us, hl with | [_, _], _ => rfl)) sc_xInvalidPlaces rfl ⟨xgaE1, xggE1, xbE1, xhdE1⟩ xnoE1
  have FE2 := fun_mk (st := sxInvalidTies) lE2 cE2 kE2
  have EXInvalidTies : ∀ base : Heap, ExcF l.prog w K mg base "value" "InvalidTies" (XA "InvalidTies") := fun base => by
    rw [hx2]
    exact excF_mk (st := sxInvalidTies) ⟨⟨_, _, _, _, _, _, _, _, _, _, _, _, _, _, _, xOE2, xRE2⟩, xsE2, xbE2, xtE2, xkE2⟩ (PySem.W.mg_of X G xCE2) xiE2 xfE2 FE2 (FE2.binds (ps := ["self", "value"]) (fun _ _ _ _ _ _ us hl => match us, hl with | [_, _], _ => rfl)) sc_xInvalidTies rfl ⟨xgaE2, xggE2, xbE2, xhdE2⟩ xnoE2
  have FE3 := fun_mk (st := sxInvalidPlace) lE3 cE3 kE3
  have EXInvalidPlace : ∀ base : Heap, ExcF l.prog w K mg base "value" "InvalidPlace" (XA "InvalidPlace") := fun base => by
    rw [hx3]
    exact excF_mk (st := sxInvalidPlace) ⟨⟨_, _, _, _, _, _, _, _, _, _, _, _, _, _, _, xOE3, xRE3⟩, xsE3, xbE3, xtE3, xkE3⟩ (PySem.W.mg_of X G xCE3) xiE3 xfE3 FE3 (FE3.binds (ps := ["self", "value"]) (fun _ _ _ _ _ _ us hl => match us, hl with | [_, _], _ => rfl)) sc_xInvalidPlace rfl ⟨xgaE3, xggE3, xbE3, xhdE3⟩ xnoE3
  have FE4 := fun_mk (st := sxInvalidWalk) lE4 cE4 kE4
  have EXInvalidWalk : ∀ base : Heap, ExcF l.prog w K mg base "value" "InvalidWalk" (XA "InvalidWalk") := fun base => by
    rw [hx4]
    exact excF_mk (st := sxInvalidWalk) ⟨⟨_, _, _, _, _, _, _, _, _, _, _, _, _, _, _, xOE4, xRE4⟩, xsE4, xbE4, xtE4, xkE4⟩ (PySem.W.mg_of X G xCE4) xiE4 xfE4 FE4 (FE4.binds (ps := ["self", "value"]) (fun _ _ _ _ _ _ us hl => match us, hl with | [_, _], _ => rfl)) sc_xInvalidWalk rfl ⟨xgaE4, xggE4, xbE4, xhdE4⟩ xnoE4
  have FE5 := fun_mk (st := sxInvalidRound) lE5 cE5 kE5
  have EXInvalidRound : ∀ base : Heap, ExcF l.prog w K mg base "value" "InvalidRound" (XA "InvalidRound") := fun base => by
    rw [hx5]
    exact excF_mk (st := sxInvalidRound) ⟨⟨_, _, _, _, _, _, _, _, _, _, _, _, _, _, _, xOE5, xRE5⟩, xsE5, xbE5, xtE5, xkE5⟩ (PySem.W.mg_of X G xCE5) xiE5 xfE5 FE5 (FE5.binds (ps := ["self", "value"]) (fun _ _ _ _ _ _ us hl => match us, hl with | [_, _], _ => rfl)) sc_xInvalidRound rfl ⟨xgaE5, xggE5, xbE5, xhdE5⟩ xnoE5
  have FE6 := fun_mk (st := sxInvalidWithout) lE6 cE6 kE6
  have EXInvalidWithout : ∀ base : Heap, ExcF l.prog w K mg base "value" "InvalidWithout" (XA "InvalidWithout") := fun base => by
    rw [hx6]
    exact excF_mk (st := sxInvalidWithout) ⟨⟨_, _, _, _, _, _, _, _, _, _, _, _, _, _, _, xOE6, xRE6⟩, xsE6, xbE6, xtE6, xkE6⟩ (PySem.W.mg_of X G xCE6) xiE6 xfE6 FE6 (FE6.binds (ps := ["self", "value"]) (fun _ _ _ _ _ _ us hl => match us, hl with | [_, _], _ => rfl)) sc_xInvalidWithout rfl ⟨xgaE6, xggE6, xbE6, xhdE6⟩ xnoE6
  have FE7 := fun_mk (st := sxInvalidPart) lE7 cE7 kE7
  have EXInvalidPart : ∀ base : Heap, ExcF l.prog w K mg base "value" "InvalidPart" (XA "InvalidPart") := fun base => by
    rw [hx7]
    exact excF_mk (st := sxInvalidPart) ⟨⟨_, _, _, _, _, _, _, _, _, _, _, _, _, _, _, xOE7, xRE7⟩, xsE7, xbE7, xtE7, xkE7⟩ (PySem.W.mg_of X G xCE7) xiE7 xfE7 FE7 (FE7.binds (ps := ["self", "value"]) (fun _ _ _ _ _ _ us hl => match us, hl with | [_, _], _ => rfl)) sc_xInvalidPart rfl ⟨xgaE7, xggE7, xbE7, xhdE7⟩ xnoE7
  have PErr : mg "PieceError" = some (.ref CPE) := PySem.W.mg_of X G aP
  have em0_0 : PySem.W.exmOne K (.ref (XA "InvalidWeb")) (.ref (XA "InvalidWeb")) = some true := by
    rw [hx0]
    exact PySem.W.exm_ref xbE0 xhdE0 xtE0 xx0_0
  have em1_0 : PySem.W.exmOne K (.ref (XA "InvalidPlaces")) (.ref (XA "InvalidWeb")) = some false := by
    rw [hx1, hx0]
    exact PySem.W.exm_ref xbE0 xhdE0 xtE0 xx1_0
  have em1_1 : PySem.W.exmOne K (.ref (XA "InvalidPlaces")) (.ref (XA "InvalidPlaces")) = some true := by
    rw [hx1]
    exact PySem.W.exm_ref xbE1 xhdE1 xtE1 xx1_1
  have em2_0 : PySem.W.exmOne K (.ref (XA "InvalidTies")) (.ref (XA "InvalidWeb")) = some false := by
    rw [hx2, hx0]
    exact PySem.W.exm_ref xbE0 xhdE0 xtE0 xx2_0
  have em2_1 : PySem.W.exmOne K (.ref (XA "InvalidTies")) (.ref (XA "InvalidPlaces")) = some false := by
    rw [hx2, hx1]
    exact PySem.W.exm_ref xbE1 xhdE1 xtE1 xx2_1
  have em2_2 : PySem.W.exmOne K (.ref (XA "InvalidTies")) (.ref (XA "InvalidTies")) = some true := by
    rw [hx2]
    exact PySem.W.exm_ref xbE2 xhdE2 xtE2 xx2_2
  have em3_0 : PySem.W.exmOne K (.ref (XA "InvalidPlace")) (.ref (XA "InvalidWeb")) = some false := by
    rw [hx3, hx0]
    exact PySem.W.exm_ref xbE0 xhdE0 xtE0 xx3_0
  have em3_1 : PySem.W.exmOne K (.ref (XA "InvalidPlace")) (.ref (XA "InvalidPlaces")) = some false := by
    rw [hx3, hx1]
    exact PySem.W.exm_ref xbE1 xhdE1 xtE1 xx3_1
  have em3_2 : PySem.W.exmOne K (.ref (XA "InvalidPlace")) (.ref (XA "InvalidTies")) = some false := by
    rw [hx3, hx2]
    exact PySem.W.exm_ref xbE2 xhdE2 xtE2 xx3_2
  have em3_3 : PySem.W.exmOne K (.ref (XA "InvalidPlace")) (.ref (XA "InvalidPlace")) = some true := by
    rw [hx3]
    exact PySem.W.exm_ref xbE3 xhdE3 xtE3 xx3_3
  have em4_0 : PySem.W.exmOne K (.ref (XA "InvalidWalk")) (.ref (XA "InvalidWeb")) = some false := by
    rw [hx4, hx0]
    exact PySem.W.exm_ref xbE0 xhdE0 xtE0 xx4_0
  have em4_1 : PySem.W.exmOne K (.ref (XA "InvalidWalk")) (.ref (XA "InvalidPlaces")) = some false := by
    rw [hx4, hx1]
    exact PySem.W.exm_ref xbE1 xhdE1 xtE1 xx4_1
  have em4_2 : PySem.W.exmOne K (.ref (XA "InvalidWalk")) (.ref (XA "InvalidTies")) = some false := by
    rw [hx4, hx2]
    exact PySem.W.exm_ref xbE2 xhdE2 xtE2 xx4_2
  have em4_3 : PySem.W.exmOne K (.ref (XA "InvalidWalk")) (.ref (XA "InvalidPlace")) = some false := by
    rw [hx4, hx3]
    exact PySem.W.exm_ref xbE3 xhdE3 xtE3 xx4_3
  have em4_4 : PySem.W.exmOne K (.ref (XA "InvalidWalk")) (.ref (XA "InvalidWalk")) = some true := by
    rw [hx4]
    exact PySem.W.exm_ref xbE4 xhdE4 xtE4 xx4_4
  have em5_0 : PySem.W.exmOne K (.ref (XA "InvalidRound")) (.ref (XA "InvalidWeb")) = some false := by
    rw [hx5, hx0]
    exact PySem.W.exm_ref xbE0 xhdE0 xtE0 xx5_0
  have em5_1 : PySem.W.exmOne K (.ref (XA "InvalidRound")) (.ref (XA "InvalidPlaces")) = some false := by
    rw [hx5, hx1]
    exact PySem.W.exm_ref xbE1 xhdE1 xtE1 xx5_1
  have em5_2 : PySem.W.exmOne K (.ref (XA "InvalidRound")) (.ref (XA "InvalidTies")) = some false := by
    rw [hx5, hx2]
    exact PySem.W.exm_ref xbE2 xhdE2 xtE2 xx5_2
  have em5_3 : PySem.W.exmOne K (.ref (XA "InvalidRound")) (.ref (XA "InvalidPlace")) = some false := by
    rw [hx5, hx3]
    exact PySem.W.exm_ref xbE3 xhdE3 xtE3 xx5_3
  have em5_4 : PySem.W.exmOne K (.ref (XA "InvalidRound")) (.ref (XA "InvalidWalk")) = some false := by
    rw [hx5, hx4]
    exact PySem.W.exm_ref xbE4 xhdE4 xtE4 xx5_4
  have em5_5 : PySem.W.exmOne K (.ref (XA "InvalidRound")) (.ref (XA "InvalidRound")) = some true := by
    rw [hx5]
    exact PySem.W.exm_ref xbE5 xhdE5 xtE5 xx5_5
  have em6_0 : PySem.W.exmOne K (.ref (XA "InvalidWithout")) (.ref (XA "InvalidWeb")) = some false := by
    rw [hx6, hx0]
    exact PySem.W.exm_ref xbE0 xhdE0 xtE0 xx6_0
  have em6_1 : PySem.W.exmOne K (.ref (XA "InvalidWithout")) (.ref (XA "InvalidPlaces")) = some false := by
    rw [hx6, hx1]
    exact PySem.W.exm_ref xbE1 xhdE1 xtE1 xx6_1
  have em6_2 : PySem.W.exmOne K (.ref (XA "InvalidWithout")) (.ref (XA "InvalidTies")) = some false := by
    rw [hx6, hx2]
    exact PySem.W.exm_ref xbE2 xhdE2 xtE2 xx6_2
  have em6_3 : PySem.W.exmOne K (.ref (XA "InvalidWithout")) (.ref (XA "InvalidPlace")) = some false := by
    rw [hx6, hx3]
    exact PySem.W.exm_ref xbE3 xhdE3 xtE3 xx6_3
  have em6_4 : PySem.W.exmOne K (.ref (XA "InvalidWithout")) (.ref (XA "InvalidWalk")) = some false := by
    rw [hx6, hx4]
    exact PySem.W.exm_ref xbE4 xhdE4 xtE4 xx6_4
  have em6_5 : PySem.W.exmOne K (.ref (XA "InvalidWithout")) (.ref (XA "InvalidRound")) = some false := by
    rw [hx6, hx5]
    exact PySem.W.exm_ref xbE5 xhdE5 xtE5 xx6_5
  have em6_6 : PySem.W.exmOne K (.ref (XA "InvalidWithout")) (.ref (XA "InvalidWithout")) = some true := by
    rw [hx6]
    exact PySem.W.exm_ref xbE6 xhdE6 xtE6 xx6_6
  have em7_0 : PySem.W.exmOne K (.ref (XA "InvalidPart")) (.ref (XA "InvalidWeb")) = some false := by
    rw [hx7, hx0]
    exact PySem.W.exm_ref xbE0 xhdE0 xtE0 xx7_0
  have em7_1 : PySem.W.exmOne K (.ref (XA "InvalidPart")) (.ref (XA "InvalidPlaces")) = some false := by
    rw [hx7, hx1]
    exact PySem.W.exm_ref xbE1 xhdE1 xtE1 xx7_1
  have em7_2 : PySem.W.exmOne K (.ref (XA "InvalidPart")) (.ref (XA "InvalidTies")) = some false := by
    rw [hx7, hx2]
    exact PySem.W.exm_ref xbE2 xhdE2 xtE2 xx7_2
  have em7_3 : PySem.W.exmOne K (.ref (XA "InvalidPart")) (.ref (XA "InvalidPlace")) = some false := by
    rw [hx7, hx3]
    exact PySem.W.exm_ref xbE3 xhdE3 xtE3 xx7_3
  have em7_4 : PySem.W.exmOne K (.ref (XA "InvalidPart")) (.ref (XA "InvalidWalk")) = some false := by
    rw [hx7, hx4]
    exact PySem.W.exm_ref xbE4 xhdE4 xtE4 xx7_4
  have em7_5 : PySem.W.exmOne K (.ref (XA "InvalidPart")) (.ref (XA "InvalidRound")) = some false := by
    rw [hx7, hx5]
    exact PySem.W.exm_ref xbE5 xhdE5 xtE5 xx7_5
  have em7_6 : PySem.W.exmOne K (.ref (XA "InvalidPart")) (.ref (XA "InvalidWithout")) = some false := by
    rw [hx7, hx6]
    exact PySem.W.exm_ref xbE6 xhdE6 xtE6 xx7_6
  have em7_7 : PySem.W.exmOne K (.ref (XA "InvalidPart")) (.ref (XA "InvalidPart")) = some true := by
    rw [hx7]
    exact PySem.W.exm_ref xbE7 xhdE7 xtE7 xx7_7
  have ei0 : PySem.W.isIn K (.ref (XA "InvalidWeb")) CPE = true := by
    rw [hx0]
    exact xpE0
  have ei1 : PySem.W.isIn K (.ref (XA "InvalidPlaces")) CPE = true := by
    rw [hx1]
    exact xpE1
  have ei2 : PySem.W.isIn K (.ref (XA "InvalidTies")) CPE = true := by
    rw [hx2]
    exact xpE2
  have ei3 : PySem.W.isIn K (.ref (XA "InvalidPlace")) CPE = true := by
    rw [hx3]
    exact xpE3
  have ei4 : PySem.W.isIn K (.ref (XA "InvalidWalk")) CPE = true := by
    rw [hx4]
    exact xpE4
  have ei5 : PySem.W.isIn K (.ref (XA "InvalidRound")) CPE = true := by
    rw [hx5]
    exact xpE5
  have ei6 : PySem.W.isIn K (.ref (XA "InvalidWithout")) CPE = true := by
    rw [hx6]
    exact xpE6
  have ei7 : PySem.W.isIn K (.ref (XA "InvalidPart")) CPE = true := by
    rw [hx7]
    exact xpE7
  have EME : ∀ q ∈ pairs8, PySem.W.exmOne K (.ref (XA (exs.getD q.1 ""))) (.ref (XA (exs.getD q.2 ""))) = some (decide (q.1 = q.2)) := (show ∀ q ∈ [((0 : Nat), (0 : Nat)), ((1 : Nat), (0 : Nat)), ((1 : Nat), (1 : Nat)), ((2 : Nat), (0 : Nat)), ((2 : Nat), (1 : Nat)), ((2 : Nat), (2 : Nat)), ((3 : Nat), (0 : Nat)), ((3 : Nat), (1 : Nat)), ((3 : Nat), (2 : Nat)), ((3 : Nat), (3 : Nat)), ((4 : Nat), (0 : Nat)), ((4 : Nat), (1 : Nat)), ((4 : Nat), (2 : Nat)), ((4 : Nat), (3 : Nat)), ((4 : Nat), (4 : Nat)), ((5 : Nat), (0 : Nat)), ((5 : Nat), (1 : Nat)), ((5 : Nat), (2 : Nat)), ((5 : Nat), (3 : Nat)), ((5 : Nat), (4 : Nat)), ((5 : Nat), (5 : Nat)), ((6 : Nat), (0 : Nat)), ((6 : Nat), (1 : Nat)), ((6 : Nat), (2 : Nat)), ((6 : Nat), (3 : Nat)), ((6 : Nat), (4 : Nat)), ((6 : Nat), (5 : Nat)), ((6 : Nat), (6 : Nat)), ((7 : Nat), (0 : Nat)), ((7 : Nat), (1 : Nat)), ((7 : Nat), (2 : Nat)), ((7 : Nat), (3 : Nat)), ((7 : Nat), (4 : Nat)), ((7 : Nat), (5 : Nat)), ((7 : Nat), (6 : Nat)), ((7 : Nat), (7 : Nat))], PySem.W.exmOne K (.ref (XA (exs.getD q.1 ""))) (.ref (XA (exs.getD q.2 ""))) = some (decide (q.1 = q.2)) from List.forall_mem_cons.mpr ⟨em0_0, List.forall_mem_cons.mpr ⟨em1_0, List.forall_mem_cons.mpr ⟨em1_1, List.forall_mem_cons.mpr ⟨em2_0, List.forall_mem_cons.mpr ⟨em2_1, List.forall_mem_cons.mpr ⟨em2_2, List.forall_mem_cons.mpr ⟨em3_0, List.forall_mem_cons.mpr ⟨em3_1, List.forall_mem_cons.mpr ⟨em3_2, List.forall_mem_cons.mpr ⟨em3_3, List.forall_mem_cons.mpr ⟨em4_0, List.forall_mem_cons.mpr ⟨em4_1, List.forall_mem_cons.mpr ⟨em4_2, List.forall_mem_cons.mpr ⟨em4_3, List.forall_mem_cons.mpr ⟨em4_4, List.forall_mem_cons.mpr ⟨em5_0, List.forall_mem_cons.mpr ⟨em5_1, List.forall_mem_cons.mpr ⟨em5_2, List.forall_mem_cons.mpr ⟨em5_3, List.forall_mem_cons.mpr ⟨em5_4, List.forall_mem_cons.mpr ⟨em5_5, List.forall_mem_cons.mpr ⟨em6_0, List.forall_mem_cons.mpr ⟨em6_1, List.forall_mem_cons.mpr ⟨em6_2, List.forall_mem_cons.mpr ⟨em6_3, List.forall_mem_cons.mpr ⟨em6_4, List.forall_mem_cons.mpr ⟨em6_5, List.forall_mem_cons.mpr ⟨em6_6, List.forall_mem_cons.mpr ⟨em7_0, List.forall_mem_cons.mpr ⟨em7_1, List.forall_mem_cons.mpr ⟨em7_2, List.forall_mem_cons.mpr ⟨em7_3, List.forall_mem_cons.mpr ⟨em7_4, List.forall_mem_cons.mpr ⟨em7_5, List.forall_mem_cons.mpr ⟨em7_6, List.forall_mem_cons.mpr ⟨em7_7, fun _ h => nomatch h⟩⟩⟩⟩⟩⟩⟩⟩⟩⟩⟩⟩⟩⟩⟩⟩⟩⟩⟩⟩⟩⟩⟩⟩⟩⟩⟩⟩⟩⟩⟩⟩⟩⟩⟩⟩)
  have EIE : ∀ i ∈ [0, 1, 2, 3, 4, 5, 6, 7], PySem.W.isIn K (.ref (XA (exs.getD i ""))) CPE = true := List.forall_mem_cons.mpr ⟨ei0, List.forall_mem_cons.mpr ⟨ei1, List.forall_mem_cons.mpr ⟨ei2, List.forall_mem_cons.mpr ⟨ei3, List.forall_mem_cons.mpr ⟨ei4, List.forall_mem_cons.mpr ⟨ei5, List.forall_mem_cons.mpr ⟨ei6, List.forall_mem_cons.mpr ⟨ei7, fun _ h => nomatch h⟩⟩⟩⟩⟩⟩⟩⟩
  have EXM : ExM K XA CPE := ⟨fun i j hi hj => EME _ (below8 i j hi hj), fun i hi => EIE _ (under8 i hi)⟩
  have TF37 := T0 "_law_made_right" (by simp) _ _ (tab_is a37 l37 rfl tv37 tw37)
  have TF38 := T0 "_law_webs_right" (by simp) _ _ (tab_is a38 l38 rfl tv38 tw38)
  have TF39 := T0 "_law_others_right" (by simp) _ _ (tab_is a39 l39 rfl tv39 tw39)
  have TB1 : ∀ p ∈ ([(cN37, PN37), (cN38, PN38), (cN39, PN39)] : List (Addr × Addr)), h.get? p.2 = some tab0 := List.forall_mem_cons.mpr ⟨TF37.2, List.forall_mem_cons.mpr ⟨TF38.2, List.forall_mem_cons.mpr ⟨TF39.2, fun _ h => nomatch h⟩⟩⟩
  have TB2 : ∀ p ∈ ([(cN37, PN37), (cN38, PN38), (cN39, PN39)] : List (Addr × Addr)), K.lookup p.2 = none := List.forall_mem_cons.mpr ⟨tn37, List.forall_mem_cons.mpr ⟨tn38, List.forall_mem_cons.mpr ⟨tn39, fun _ h => nomatch h⟩⟩⟩
  have TB3 : ∀ p ∈ ([(cN37, PN37), (cN38, PN38), (cN39, PN39)] : List (Addr × Addr)), PySem.W.CodeHd h p.1 p.2 := List.forall_mem_cons.mpr ⟨TF37.1, List.forall_mem_cons.mpr ⟨TF38.1, List.forall_mem_cons.mpr ⟨TF39.1, fun _ h => nomatch h⟩⟩⟩
  have UQ37 : ∀ p ∈ ([(PN37, ("_law_made_right" : Str) ++ ".<locals>." ++ "<lambda>"), (PN38, ("_law_webs_right" : Str) ++ ".<locals>." ++ "<lambda>"), (PN39, ("_law_others_right" : Str) ++ ".<locals>." ++ "<lambda>")] : List (Addr × Str)), p.1 = PN37 → p.2 = ("_law_made_right" : Str) ++ ".<locals>." ++ "<lambda>" := List.forall_mem_cons.mpr ⟨fun _ => rfl, List.forall_mem_cons.mpr ⟨fun e => absurd e.symm (ne_of_beq_false ne37_38), List.forall_mem_cons.mpr ⟨fun e => absurd e.symm (ne_of_beq_false ne37_39), fun _ h => nomatch h⟩⟩⟩
  have TK37 : ∀ base : Heap, (∀ p ∈ ([(cN37, PN37), (cN38, PN38), (cN39, PN39)] : List (Addr × Addr)), TabB base mg p.1 p.2) → TabK mg base [(PN37, ("_law_made_right" : Str) ++ ".<locals>." ++ "<lambda>"), (PN38, ("_law_webs_right" : Str) ++ ".<locals>." ++ "<lambda>"), (PN39, ("_law_others_right" : Str) ++ ".<locals>." ++ "<lambda>")] "_law_made_right" cN37 := fun base TB => ⟨PN37, TB (cN37, PN37) (by simp), by simp, UQ37⟩
  have UQ38 : ∀ p ∈ ([(PN37, ("_law_made_right" : Str) ++ ".<locals>." ++ "<lambda>"), (PN38, ("_law_webs_right" : Str) ++ ".<locals>." ++ "<lambda>"), (PN39, ("_law_others_right" : Str) ++ ".<locals>." ++ "<lambda>")] : List (Addr × Str)), p.1 = PN38 → p.2 = ("_law_webs_right" : Str) ++ ".<locals>." ++ "<lambda>" := List.forall_mem_cons.mpr ⟨fun e => absurd e (ne_of_beq_false ne37_38), List.forall_mem_cons.mpr ⟨fun _ => rfl, List.forall_mem_cons.mpr ⟨fun e => absurd e.symm (ne_of_beq_false ne38_39), fun _ h => nomatch h⟩⟩⟩
  have TK38 : ∀ base : Heap, (∀ p ∈ ([(cN37, PN37), (cN38, PN38), (cN39, PN39)] : List (Addr × Addr)), TabB base mg p.1 p.2) → TabK mg base [(PN37, ("_law_made_right" : Str) ++ ".<locals>." ++ "<lambda>"), (PN38, ("_law_webs_right" : Str) ++ ".<locals>." ++ "<lambda>"), (PN39, ("_law_others_right" : Str) ++ ".<locals>." ++ "<lambda>")] "_law_webs_right" cN38 := fun base TB => ⟨PN38, TB (cN38, PN38) (by simp), by simp, UQ38⟩
  have UQ39 : ∀ p ∈ ([(PN37, ("_law_made_right" : Str) ++ ".<locals>." ++ "<lambda>"), (PN38, ("_law_webs_right" : Str) ++ ".<locals>." ++ "<lambda>"), (PN39, ("_law_others_right" : Str) ++ ".<locals>." ++ "<lambda>")] : List (Addr × Str)), p.1 = PN39 → p.2 = ("_law_others_right" : Str) ++ ".<locals>." ++ "<lambda>" := List.forall_mem_cons.mpr ⟨fun e => absurd e (ne_of_beq_false ne37_39), List.forall_mem_cons.mpr ⟨fun e => absurd e (ne_of_beq_false ne38_39), List.forall_mem_cons.mpr ⟨fun _ => rfl, fun _ h => nomatch h⟩⟩⟩
  have TK39 : ∀ base : Heap, (∀ p ∈ ([(cN37, PN37), (cN38, PN38), (cN39, PN39)] : List (Addr × Addr)), TabB base mg p.1 p.2) → TabK mg base [(PN37, ("_law_made_right" : Str) ++ ".<locals>." ++ "<lambda>"), (PN38, ("_law_webs_right" : Str) ++ ".<locals>." ++ "<lambda>"), (PN39, ("_law_others_right" : Str) ++ ".<locals>." ++ "<lambda>")] "_law_others_right" cN39 := fun base TB => ⟨PN39, TB (cN39, PN39) (by simp), by simp, UQ39⟩
  have H_law_draw := fun (base : Heap) => ok_law_draw (P := l.prog) (w := w) (base := base) D_law_draw B Glb WK (EXInvalidWeb base) (EXInvalidPlaces base) (EXInvalidTies base) (EXInvalidPlace base) (EXInvalidWalk base) (EXInvalidRound base) (EXInvalidWithout base) (EXInvalidPart base) PErr EXM 
  have H_law_heard := fun (base : Heap) => ok_law_heard (P := l.prog) (w := w) (base := base) D_law_heard B Glb WK (EXInvalidWeb base) (EXInvalidPlaces base) (EXInvalidTies base) (EXInvalidPlace base) (EXInvalidWalk base) (EXInvalidRound base) (EXInvalidWithout base) (EXInvalidPart base) PErr EXM 
  have H_law_are := fun (base : Heap) => ok_law_are (P := l.prog) (w := w) (base := base) D_law_are B Glb WK (EXInvalidWeb base) (EXInvalidPlaces base) (EXInvalidTies base) (EXInvalidPlace base) (EXInvalidWalk base) (EXInvalidRound base) (EXInvalidWithout base) (EXInvalidPart base) PErr EXM (H_law_heard base)
  have Hneed_web := fun (base : Heap) => okneed_web (P := l.prog) (w := w) (base := base) Dneed_web B Glb WK (EXInvalidWeb base) (EXInvalidPlaces base) (EXInvalidTies base) (EXInvalidPlace base) (EXInvalidWalk base) (EXInvalidRound base) (EXInvalidWithout base) (EXInvalidPart base) PErr EXM 
  have His_listed := fun (base : Heap) => okis_listed (P := l.prog) (w := w) (base := base) Dis_listed B Glb WK (EXInvalidWeb base) (EXInvalidPlaces base) (EXInvalidTies base) (EXInvalidPlace base) (EXInvalidWalk base) (EXInvalidRound base) (EXInvalidWithout base) (EXInvalidPart base) PErr EXM 
  have His_integer := fun (base : Heap) => okis_integer (P := l.prog) (w := w) (base := base) Dis_integer B Glb WK (EXInvalidWeb base) (EXInvalidPlaces base) (EXInvalidTies base) (EXInvalidPlace base) (EXInvalidWalk base) (EXInvalidRound base) (EXInvalidWithout base) (EXInvalidPart base) PErr EXM 
  have His_between := fun (base : Heap) => okis_between (P := l.prog) (w := w) (base := base) Dis_between B Glb WK (EXInvalidWeb base) (EXInvalidPlaces base) (EXInvalidTies base) (EXInvalidPlace base) (EXInvalidWalk base) (EXInvalidRound base) (EXInvalidWithout base) (EXInvalidPart base) PErr EXM (His_integer base)
  have His_count := fun (base : Heap) => okis_count (P := l.prog) (w := w) (base := base) Dis_count B Glb WK (EXInvalidWeb base) (EXInvalidPlaces base) (EXInvalidTies base) (EXInvalidPlace base) (EXInvalidWalk base) (EXInvalidRound base) (EXInvalidWithout base) (EXInvalidPart base) PErr EXM (His_integer base)
  have His_below := fun (base : Heap) => okis_below (P := l.prog) (w := w) (base := base) Dis_below B Glb WK (EXInvalidWeb base) (EXInvalidPlaces base) (EXInvalidTies base) (EXInvalidPlace base) (EXInvalidWalk base) (EXInvalidRound base) (EXInvalidWithout base) (EXInvalidPart base) PErr EXM (His_count base)
  have HWeb_many := fun (base : Heap) => okWeb_many (P := l.prog) (w := w) (base := base) DWeb_many B Glb WK (EXInvalidWeb base) (EXInvalidPlaces base) (EXInvalidTies base) (EXInvalidPlace base) (EXInvalidWalk base) (EXInvalidRound base) (EXInvalidWithout base) (EXInvalidPart base) PErr EXM 
  have Hare_numbers := fun (base : Heap) => okare_numbers (P := l.prog) (w := w) (base := base) Dare_numbers B Glb WK (EXInvalidWeb base) (EXInvalidPlaces base) (EXInvalidTies base) (EXInvalidPlace base) (EXInvalidWalk base) (EXInvalidRound base) (EXInvalidWithout base) (EXInvalidPart base) PErr EXM (His_listed base) (His_below base) (HWeb_many base)
  have HWeb_ties := fun (base : Heap) => okWeb_ties (P := l.prog) (w := w) (base := base) DWeb_ties B Glb WK (EXInvalidWeb base) (EXInvalidPlaces base) (EXInvalidTies base) (EXInvalidPlace base) (EXInvalidWalk base) (EXInvalidRound base) (EXInvalidWithout base) (EXInvalidPart base) PErr EXM 
  have H_go_on := fun (base : Heap) => ok_go_on (P := l.prog) (w := w) (base := base) D_go_on B Glb WK (EXInvalidWeb base) (EXInvalidPlaces base) (EXInvalidTies base) (EXInvalidPlace base) (EXInvalidWalk base) (EXInvalidRound base) (EXInvalidWithout base) (EXInvalidPart base) PErr EXM (His_listed base) (His_between base) (Hare_numbers base) (HWeb_ties base)
  have His_walk := fun (base : Heap) => okis_walk (P := l.prog) (w := w) (base := base) Dis_walk B Glb WK (EXInvalidWeb base) (EXInvalidPlaces base) (EXInvalidTies base) (EXInvalidPlace base) (EXInvalidWalk base) (EXInvalidRound base) (EXInvalidWithout base) (EXInvalidPart base) PErr EXM (Hneed_web base) (H_go_on base)
  have Hneed_walk := fun (base : Heap) => okneed_walk (P := l.prog) (w := w) (base := base) Dneed_walk B Glb WK (EXInvalidWeb base) (EXInvalidPlaces base) (EXInvalidTies base) (EXInvalidPlace base) (EXInvalidWalk base) (EXInvalidRound base) (EXInvalidWithout base) (EXInvalidPart base) PErr EXM (His_walk base)
  have Hleads := fun (base : Heap) => okleads (P := l.prog) (w := w) (base := base) Dleads B Glb WK (EXInvalidWeb base) (EXInvalidPlaces base) (EXInvalidTies base) (EXInvalidPlace base) (EXInvalidWalk base) (EXInvalidRound base) (EXInvalidWithout base) (EXInvalidPart base) PErr EXM (Hneed_web base) (Hneed_walk base) (HWeb_ties base)
  have His_round := fun (base : Heap) => okis_round (P := l.prog) (w := w) (base := base) Dis_round B Glb WK (EXInvalidWeb base) (EXInvalidPlaces base) (EXInvalidTies base) (EXInvalidPlace base) (EXInvalidWalk base) (EXInvalidRound base) (EXInvalidWithout base) (EXInvalidPart base) PErr EXM (Hneed_web base) (H_go_on base) (HWeb_ties base)
  have Hneed_tour := fun (base : Heap) => okneed_tour (P := l.prog) (w := w) (base := base) Dneed_tour B Glb WK (EXInvalidWeb base) (EXInvalidPlaces base) (EXInvalidTies base) (EXInvalidPlace base) (EXInvalidWalk base) (EXInvalidRound base) (EXInvalidWithout base) (EXInvalidPart base) PErr EXM (His_round base)
  have Hcovers := fun (base : Heap) => okcovers (P := l.prog) (w := w) (base := base) Dcovers B Glb WK (EXInvalidWeb base) (EXInvalidPlaces base) (EXInvalidTies base) (EXInvalidPlace base) (EXInvalidWalk base) (EXInvalidRound base) (EXInvalidWithout base) (EXInvalidPart base) PErr EXM (Hneed_web base) (Hneed_tour base) (HWeb_many base)
  have HWeb_places := fun (base : Heap) => okWeb_places (P := l.prog) (w := w) (base := base) DWeb_places B Glb WK (EXInvalidWeb base) (EXInvalidPlaces base) (EXInvalidTies base) (EXInvalidPlace base) (EXInvalidWalk base) (EXInvalidRound base) (EXInvalidWithout base) (EXInvalidPart base) PErr EXM 
  have Hneed_place := fun (base : Heap) => okneed_place (P := l.prog) (w := w) (base := base) Dneed_place B Glb WK (EXInvalidWeb base) (EXInvalidPlaces base) (EXInvalidTies base) (EXInvalidPlace base) (EXInvalidWalk base) (EXInvalidRound base) (EXInvalidWithout base) (EXInvalidPart base) PErr EXM (His_below base) (HWeb_places base)
  have H_need_without := fun (base : Heap) => ok_need_without (P := l.prog) (w := w) (base := base) D_need_without B Glb WK (EXInvalidWeb base) (EXInvalidPlaces base) (EXInvalidTies base) (EXInvalidPlace base) (EXInvalidWalk base) (EXInvalidRound base) (EXInvalidWithout base) (EXInvalidPart base) PErr EXM (Hare_numbers base)
  have H_places_to := fun (base : Heap) => ok_places_to (P := l.prog) (w := w) (base := base) D_places_to B Glb WK (EXInvalidWeb base) (EXInvalidPlaces base) (EXInvalidTies base) (EXInvalidPlace base) (EXInvalidWalk base) (EXInvalidRound base) (EXInvalidWithout base) (EXInvalidPart base) PErr EXM 
  have Hreach := fun (base : Heap) => okreach (P := l.prog) (w := w) (base := base) Dreach B Glb WK (EXInvalidWeb base) (EXInvalidPlaces base) (EXInvalidTies base) (EXInvalidPlace base) (EXInvalidWalk base) (EXInvalidRound base) (EXInvalidWithout base) (EXInvalidPart base) PErr EXM (Hneed_web base) (Hneed_place base) (H_need_without base) (H_places_to base)
  have H_walk_back := fun (base : Heap) => ok_walk_back (P := l.prog) (w := w) (base := base) D_walk_back B Glb WK (EXInvalidWeb base) (EXInvalidPlaces base) (EXInvalidTies base) (EXInvalidPlace base) (EXInvalidWalk base) (EXInvalidRound base) (EXInvalidWithout base) (EXInvalidPart base) PErr EXM 
  have HWeb_ties_from := fun (base : Heap) => okWeb_ties_from (P := l.prog) (w := w) (base := base) DWeb_ties_from B Glb WK (EXInvalidWeb base) (EXInvalidPlaces base) (EXInvalidTies base) (EXInvalidPlace base) (EXInvalidWalk base) (EXInvalidRound base) (EXInvalidWithout base) (EXInvalidPart base) PErr EXM (Hneed_place base)
  have Hway := fun (base : Heap) => okway (P := l.prog) (w := w) (base := base) Dway B Glb WK (EXInvalidWeb base) (EXInvalidPlaces base) (EXInvalidTies base) (EXInvalidPlace base) (EXInvalidWalk base) (EXInvalidRound base) (EXInvalidWithout base) (EXInvalidPart base) PErr EXM (Hneed_web base) (Hneed_place base) (H_need_without base) (H_walk_back base) (HWeb_ties base) (HWeb_ties_from base)
  have Hstarts_in := fun (base : Heap) => okstarts_in (P := l.prog) (w := w) (base := base) Dstarts_in B Glb WK (EXInvalidWeb base) (EXInvalidPlaces base) (EXInvalidTies base) (EXInvalidPlace base) (EXInvalidWalk base) (EXInvalidRound base) (EXInvalidWithout base) (EXInvalidPart base) PErr EXM 
  have Hwalk_in_round := fun (base : Heap) => okwalk_in_round (P := l.prog) (w := w) (base := base) Dwalk_in_round B Glb WK (EXInvalidWeb base) (EXInvalidPlaces base) (EXInvalidTies base) (EXInvalidPlace base) (EXInvalidWalk base) (EXInvalidRound base) (EXInvalidWithout base) (EXInvalidPart base) PErr EXM (Hneed_web base) (Hneed_tour base) (Hneed_walk base) (Hstarts_in base)
  have H_left_from := fun (base : Heap) => ok_left_from (P := l.prog) (w := w) (base := base) D_left_from B Glb WK (EXInvalidWeb base) (EXInvalidPlaces base) (EXInvalidTies base) (EXInvalidPlace base) (EXInvalidWalk base) (EXInvalidRound base) (EXInvalidWithout base) (EXInvalidPart base) PErr EXM 
  have Hparts_in_turn := fun (base : Heap) => okparts_in_turn (P := l.prog) (w := w) (base := base) Dparts_in_turn B Glb WK (EXInvalidWeb base) (EXInvalidPlaces base) (EXInvalidTies base) (EXInvalidPlace base) (EXInvalidWalk base) (EXInvalidRound base) (EXInvalidWithout base) (EXInvalidPart base) PErr EXM (H_left_from base)
  have Hweb_steps := fun (base : Heap) => okweb_steps (P := l.prog) (w := w) (base := base) Dweb_steps B Glb WK (EXInvalidWeb base) (EXInvalidPlaces base) (EXInvalidTies base) (EXInvalidPlace base) (EXInvalidWalk base) (EXInvalidRound base) (EXInvalidWithout base) (EXInvalidPart base) PErr EXM (HWeb_ties base)
  have Hparts_of := fun (base : Heap) => okparts_of (P := l.prog) (w := w) (base := base) Dparts_of B Glb WK (EXInvalidWeb base) (EXInvalidPlaces base) (EXInvalidTies base) (EXInvalidPlace base) (EXInvalidWalk base) (EXInvalidRound base) (EXInvalidWithout base) (EXInvalidPart base) PErr EXM (Hneed_web base) (Hparts_in_turn base) (Hweb_steps base) (HWeb_places base)
  have H_need_part := fun (base : Heap) => ok_need_part (P := l.prog) (w := w) (base := base) D_need_part B Glb WK (EXInvalidWeb base) (EXInvalidPlaces base) (EXInvalidTies base) (EXInvalidPlace base) (EXInvalidWalk base) (EXInvalidRound base) (EXInvalidWithout base) (EXInvalidPart base) PErr EXM (His_listed base) (Hparts_of base) (His_count base)
  have Hare_ties := fun (base : Heap) => okare_ties (P := l.prog) (w := w) (base := base) Dare_ties B Glb WK (EXInvalidWeb base) (EXInvalidPlaces base) (EXInvalidTies base) (EXInvalidPlace base) (EXInvalidWalk base) (EXInvalidRound base) (EXInvalidWithout base) (EXInvalidPart base) PErr EXM (His_listed base) (His_below base)
  have HWeb___init__ := fun (base : Heap) => okWeb___init__ (P := l.prog) (w := w) (base := base) DWeb___init__ B Glb WK (EXInvalidWeb base) (EXInvalidPlaces base) (EXInvalidTies base) (EXInvalidPlace base) (EXInvalidWalk base) (EXInvalidRound base) (EXInvalidWithout base) (EXInvalidPart base) PErr EXM (His_between base) (Hare_ties base)
  have Hpart_web := fun (base : Heap) => okpart_web (P := l.prog) (w := w) (base := base) Dpart_web B Glb WK (EXInvalidWeb base) (EXInvalidPlaces base) (EXInvalidTies base) (EXInvalidPlace base) (EXInvalidWalk base) (EXInvalidRound base) (EXInvalidWithout base) (EXInvalidPart base) PErr EXM (Hneed_web base) (H_need_part base) (HWeb_ties base) (HWeb___init__ base)
  have HWeb_ties_to := fun (base : Heap) => okWeb_ties_to (P := l.prog) (w := w) (base := base) DWeb_ties_to B Glb WK (EXInvalidWeb base) (EXInvalidPlaces base) (EXInvalidTies base) (EXInvalidPlace base) (EXInvalidWalk base) (EXInvalidRound base) (EXInvalidWithout base) (EXInvalidPart base) PErr EXM (Hneed_place base)
  have H_law_others_right := fun (base : Heap) (TB : ∀ p ∈ ([(cN37, PN37), (cN38, PN38), (cN39, PN39)] : List (Addr × Addr)), TabB base mg p.1 p.2) => ok_law_others_right (P := l.prog) (w := w) (base := base) D_law_others_right (TK39 base TB) B Glb WK (EXInvalidWeb base) (EXInvalidPlaces base) (EXInvalidTies base) (EXInvalidPlace base) (EXInvalidWalk base) (EXInvalidRound base) (EXInvalidWithout base) (EXInvalidPart base) PErr EXM H_law_are Hleads Hcovers Hreach Hway Hwalk_in_round His_walk His_round Hpart_web HWeb_ties_from HWeb_ties_to
  have H_law_made_right := fun (base : Heap) (TB : ∀ p ∈ ([(cN37, PN37), (cN38, PN38), (cN39, PN39)] : List (Addr × Addr)), TabB base mg p.1 p.2) => ok_law_made_right (P := l.prog) (w := w) (base := base) D_law_made_right (TK37 base TB) B Glb WK (EXInvalidWeb base) (EXInvalidPlaces base) (EXInvalidTies base) (EXInvalidPlace base) (EXInvalidWalk base) (EXInvalidRound base) (EXInvalidWithout base) (EXInvalidPart base) PErr EXM H_law_are (HWeb_many base) HWeb___init__ (HWeb_ties base)
  have Hback_web := fun (base : Heap) => okback_web (P := l.prog) (w := w) (base := base) Dback_web B Glb WK (EXInvalidWeb base) (EXInvalidPlaces base) (EXInvalidTies base) (EXInvalidPlace base) (EXInvalidWalk base) (EXInvalidRound base) (EXInvalidWithout base) (EXInvalidPart base) PErr EXM (Hneed_web base) (HWeb___init__ base) (HWeb_places base) (HWeb_ties base)
  have Hplain_parts := fun (base : Heap) => okplain_parts (P := l.prog) (w := w) (base := base) Dplain_parts B Glb WK (EXInvalidWeb base) (EXInvalidPlaces base) (EXInvalidTies base) (EXInvalidPlace base) (EXInvalidWalk base) (EXInvalidRound base) (EXInvalidWithout base) (EXInvalidPart base) PErr EXM (Hneed_web base) (Hreach base) (HWeb_places base)
  have His_close := fun (base : Heap) => okis_close (P := l.prog) (w := w) (base := base) Dis_close B Glb WK (EXInvalidWeb base) (EXInvalidPlaces base) (EXInvalidTies base) (EXInvalidPlace base) (EXInvalidWalk base) (EXInvalidRound base) (EXInvalidWithout base) (EXInvalidPart base) PErr EXM (Hneed_web base) (Hparts_of base) (HWeb_many base)
  have His_single_ring := fun (base : Heap) => okis_single_ring (P := l.prog) (w := w) (base := base) Dis_single_ring B Glb WK (EXInvalidWeb base) (EXInvalidPlaces base) (EXInvalidTies base) (EXInvalidPlace base) (EXInvalidWalk base) (EXInvalidRound base) (EXInvalidWithout base) (EXInvalidPart base) PErr EXM (His_close base) (HWeb_many base) (HWeb_places base)
  have H_law_webs_right := fun (base : Heap) (TB : ∀ p ∈ ([(cN37, PN37), (cN38, PN38), (cN39, PN39)] : List (Addr × Addr)), TabB base mg p.1 p.2) => ok_law_webs_right (P := l.prog) (w := w) (base := base) D_law_webs_right (TK38 base TB) B Glb WK (EXInvalidWeb base) (EXInvalidPlaces base) (EXInvalidTies base) (EXInvalidPlace base) (EXInvalidWalk base) (EXInvalidRound base) (EXInvalidWithout base) (EXInvalidPart base) PErr EXM H_law_are His_walk His_round Hleads Hcovers Hwalk_in_round Hback_web Hreach Hway Hparts_of Hplain_parts His_close His_single_ring Hpart_web
  have H_law_right := fun (base : Heap) (TB : ∀ p ∈ ([(cN37, PN37), (cN38, PN38), (cN39, PN39)] : List (Addr × Addr)), TabB base mg p.1 p.2) => ok_law_right (P := l.prog) (w := w) (base := base) D_law_right B Glb WK (EXInvalidWeb base) (EXInvalidPlaces base) (EXInvalidTies base) (EXInvalidPlace base) (EXInvalidWalk base) (EXInvalidRound base) (EXInvalidWithout base) (EXInvalidPart base) PErr EXM (H_law_draw base) (H_law_others_right base TB) (H_law_made_right base TB) (H_law_webs_right base TB) (HWeb___init__ base)
  have H_law_pot := fun (base : Heap) => ok_law_pot (P := l.prog) (w := w) (base := base) D_law_pot B Glb WK (EXInvalidWeb base) (EXInvalidPlaces base) (EXInvalidTies base) (EXInvalidPlace base) (EXInvalidWalk base) (EXInvalidRound base) (EXInvalidWithout base) (EXInvalidPart base) PErr EXM 
  have Hlaw := fun (base : Heap) (TB : ∀ p ∈ ([(cN37, PN37), (cN38, PN38), (cN39, PN39)] : List (Addr × Addr)), TabB base mg p.1 p.2) => oklaw (P := l.prog) (w := w) (base := base) Dlaw B Glb WK (EXInvalidWeb base) (EXInvalidPlaces base) (EXInvalidTies base) (EXInvalidPlace base) (EXInvalidWalk base) (EXInvalidRound base) (EXInvalidWithout base) (EXInvalidPart base) PErr EXM (H_law_right base TB) (H_law_pot base)
  refine ⟨PySem.W.fnOf "law" "law" (defArgs slaw) (defBody slaw) (defScope slaw) .none kV41 dc41 pm41 an41 cd41 ct41, [(cN37, PN37), (cN38, PN38), (cN39, PN39)], splaw K C XA [(PN37, ("_law_made_right" : Str) ++ ".<locals>." ++ "<lambda>"), (PN38, ("_law_webs_right" : Str) ++ ".<locals>." ++ "<lambda>"), (PN39, ("_law_others_right" : Str) ++ ".<locals>." ++ "<lambda>")], TB1, TB2, TB3, fun s v => .of_eq rfl, fun H a ns hl hT hS => ⟨a, ns, rfl, hS, hl, List.forall_mem_cons.mpr ⟨LamX.TabS.nil (hT (cN37, PN37) (by simp)), List.forall_mem_cons.mpr ⟨LamX.TabS.nil (hT (cN38, PN38) (by simp)), List.forall_mem_cons.mpr ⟨LamX.TabS.nil (hT (cN39, PN39) (by simp)), fun _ h => nomatch h⟩⟩⟩, fun _ => rfl⟩, fun base _ _ TB => ?_⟩
  obtain ⟨f, fd, O, m, k, b, F⟩ := Hlaw base TB
  have e2 := m.symm.trans hfa
  cases e2
  rw [fd_is F l41] at O
  exact O
end My
open PySem PySem.W PyProof.Rows
set_option maxRecDepth 100000 in
set_option maxHeartbeats 0 in
theorem PySem.Challenge.cw_suretexts_k20_webs_and_parts_refused_holds : PySem.Challenge.rw_suretexts_k20_webs_and_parts_refused.Holds := by
  w_on; o_law; k_head; (case hw => w_witness2)
  k_fill
  refine My.walk_ofGT (l := PySem.Challenge.rw_suretexts_k20_webs_and_parts_refused) (n := 63) (k := 26) (x := "_law_script") (MK := ["_law_made_right", "_law_webs_right", "_law_others_right"]) rfl (by decide) rfl ⟨rfl, by decide, by decide⟩ ?recs (fun w h Y => PySem.W.km_in_of Y) ?F
  case recs => first | decide +kernel | (exact List.forall_mem_cons.mpr ⟨by kernel_rfl, List.forall_mem_cons.mpr ⟨by kernel_rfl, List.forall_mem_cons.mpr ⟨by kernel_rfl, fun _ h => nomatch h⟩⟩⟩)
  case F =>
    intro w mg fa h KX G hmg T0
    refine' My.all_mk KX G hmg T0 ?aC ?aM0 ?iM0 ?lM0 ?cM0 ?kM0 ?aM1 ?gM1 ?tM1 ?rM1 ?lM1 ?cM1 ?kM1 ?aM2 ?gM2 ?tM2 ?rM2 ?lM2 ?cM2 ?kM2 ?aM3 ?iM3 ?lM3 ?cM3 ?kM3 ?aM4 ?iM4 ?lM4 ?cM4 ?kM4 ?aM5 ?iM5 ?lM5 ?cM5 ?kM5 ?a0 ?l0 ?c0 ?k0 ?a1 ?l1 ?c1 ?k1 ?a2 ?l2 ?c2 ?k2 ?a3 ?l3 ?c3 ?k3 ?a4 ?l4 ?c4 ?k4 ?a5 ?l5 ?c5 ?k5 ?a6 ?l6 ?c6 ?k6 ?a7 ?l7 ?c7 ?k7 ?a8 ?l8 ?c8 ?k8 ?a9 ?l9 ?c9 ?k9 ?a10 ?l10 ?c10 ?k10 ?a11 ?l11 ?c11 ?k11 ?a12 ?l12 ?c12 ?k12 ?a13 ?l13 ?c13 ?k13 ?a14 ?l14 ?c14 ?k14 ?a15 ?l15 ?c15 ?k15 ?a16 ?l16 ?c16 ?k16 ?a17 ?l17 ?c17 ?k17 ?a18 ?l18 ?c18 ?k18 ?a19 ?l19 ?c19 ?k19 ?a20 ?l20 ?c20 ?k20 ?a21 ?l21 ?c21 ?k21 ?a22 ?l22 ?c22 ?k22 ?a23 ?l23 ?c23 ?k23 ?a24 ?l24 ?c24 ?k24 ?a25 ?l25 ?c25 ?k25 ?a26 ?l26 ?c26 ?k26 ?a27 ?l27 ?c27 ?k27 ?a28 ?l28 ?c28 ?k28 ?a29 ?l29 ?c29 ?k29 ?a30 ?l30 ?c30 ?k30 ?a31 ?l31 ?c31 ?k31 ?a32 ?l32 ?c32 ?k32 ?a33 ?l33 ?c33 ?k33 ?a34 ?l34 ?c34 ?k34 ?a35 ?l35 ?c35 ?k35 ?a36 ?l36 ?c36 ?k36 ?a37 ?l37 ?c37 ?k37 ?tv37 ?tw37 ?tn37 ?a38 ?l38 ?c38 ?k38 ?tv38 ?tw38 ?tn38 ?a39 ?l39 ?c39 ?k39 ?tv39 ?tw39 ?tn39 ?a40 ?l40 ?c40 ?k40 ?a41 ?l41 ?c41 ?k41 ?ne37_38 ?ne37_39 ?ne38_39 ?pg ?hd ?po ?sa ?mk ?kc ?n0 ?n1 ?n2 ?n3 ?q1 ?q2 ?q3 ?q4 ?w1 ?w2 ?w3 ?no0 ?no1 ?no2 ?no3 ?no4 ?no5 ?no6 ?aP ?xCE0 ?xOE0 ?xRE0 ?xsE0 ?xbE0 ?xtE0 ?xkE0 ?xiE0 ?xfE0 ?lE0 ?cE0 ?kE0 ?xgaE0 ?xggE0 ?xhdE0 ?xnoE0 ?xpE0 ?xCE1 ?xOE1 ?xRE1 ?xsE1 ?xbE1 ?xtE1 ?xkE1 ?xiE1 ?xfE1 ?lE1 ?cE1 ?kE1 ?xgaE1 ?xggE1 ?xhdE1 ?xnoE1 ?xpE1 ?xCE2 ?xOE2 ?xRE2 ?xsE2 ?xbE2 ?xtE2 ?xkE2 ?xiE2 ?xfE2 ?lE2 ?cE2 ?kE2 ?xgaE2 ?xggE2 ?xhdE2 ?xnoE2 ?xpE2 ?xCE3 ?xOE3 ?xRE3 ?xsE3 ?xbE3 ?xtE3 ?xkE3 ?xiE3 ?xfE3 ?lE3 ?cE3 ?kE3 ?xgaE3 ?xggE3 ?xhdE3 ?xnoE3 ?xpE3 ?xCE4 ?xOE4 ?xRE4 ?xsE4 ?xbE4 ?xtE4 ?xkE4 ?xiE4 ?xfE4 ?lE4 ?cE4 ?kE4 ?xgaE4 ?xggE4 ?xhdE4 ?xnoE4 ?xpE4 ?xCE5 ?xOE5 ?xRE5 ?xsE5 ?xbE5 ?xtE5 ?xkE5 ?xiE5 ?xfE5 ?lE5 ?cE5 ?kE5 ?xgaE5 ?xggE5 ?xhdE5 ?xnoE5 ?xpE5 ?xCE6 ?xOE6 ?xRE6 ?xsE6 ?xbE6 ?xtE6 ?xkE6 ?xiE6 ?xfE6 ?lE6 ?cE6 ?kE6 ?xgaE6 ?xggE6 ?xhdE6 ?xnoE6 ?xpE6 ?xCE7 ?xOE7 ?xRE7 ?xsE7 ?xbE7 ?xtE7 ?xkE7 ?xiE7 ?xfE7 ?lE7 ?cE7 ?kE7 ?xgaE7 ?xggE7 ?xhdE7 ?xnoE7 ?xpE7 ?xx0_0 ?xx1_0 ?xx1_1 ?xx2_0 ?xx2_1 ?xx2_2 ?xx3_0 ?xx3_1 ?xx3_2 ?xx3_3 ?xx4_0 ?xx4_1 ?xx4_2 ?xx4_3 ?xx4_4 ?xx5_0 ?xx5_1 ?xx5_2 ?xx5_3 ?xx5_4 ?xx5_5 ?xx6_0 ?xx6_1 ?xx6_2 ?xx6_3 ?xx6_4 ?xx6_5 ?xx6_6 ?xx7_0 ?xx7_1 ?xx7_2 ?xx7_3 ?xx7_4 ?xx7_5 ?xx7_6 ?xx7_7 ?z0 ?z1 ?z2 ?z3 ?z4 ?z5 ?z6 ?z7 ?z8 ?z9 ?z10 ?z11 ?z12 ?z13 ?z14 ?y0 ?y1 ?y2 ?y3
    (case aC => k_is)
    (case aM0 => k_is)
    (case iM0 => k_is)
    (case lM0 => k_is)
    (case cM0 => k_is)
    (case kM0 => k_is)
    (case aM1 => k_is)
    (case gM1 => k_is)
    (case tM1 => k_is)
    (case rM1 => k_is)
    (case lM1 => k_is)
    (case cM1 => k_is)
    (case kM1 => k_is)
    (case aM2 => k_is)
    (case gM2 => k_is)
    (case tM2 => k_is)
    (case rM2 => k_is)
    (case lM2 => k_is)
    (case cM2 => k_is)
    (case kM2 => k_is)
    (case aM3 => k_is)
    (case iM3 => k_is)
    (case lM3 => k_is)
    (case cM3 => k_is)
    (case kM3 => k_is)
    (case aM4 => k_is)
    (case iM4 => k_is)
    (case lM4 => k_is)
    (case cM4 => k_is)
    (case kM4 => k_is)
    (case aM5 => k_is)
    (case iM5 => k_is)
    (case lM5 => k_is)
    (case cM5 => k_is)
    (case kM5 => k_is)
    (case a0 => k_is)
    (case l0 => k_is)
    (case c0 => k_is)
    (case k0 => k_is)
    (case a1 => k_is)
    (case l1 => k_is)
    (case c1 => k_is)
    (case k1 => k_is)
    (case a2 => k_is)
    (case l2 => k_is)
    (case c2 => k_is)
    (case k2 => k_is)
    (case a3 => k_is)
    (case l3 => k_is)
    (case c3 => k_is)
    (case k3 => k_is)
    (case a4 => k_is)
    (case l4 => k_is)
    (case c4 => k_is)
    (case k4 => k_is)
    (case a5 => k_is)
    (case l5 => k_is)
    (case c5 => k_is)
    (case k5 => k_is)
    (case a6 => k_is)
    (case l6 => k_is)
    (case c6 => k_is)
    (case k6 => k_is)
    (case a7 => k_is)
    (case l7 => k_is)
    (case c7 => k_is)
    (case k7 => k_is)
    (case a8 => k_is)
    (case l8 => k_is)
    (case c8 => k_is)
    (case k8 => k_is)
    (case a9 => k_is)
    (case l9 => k_is)
    (case c9 => k_is)
    (case k9 => k_is)
    (case a10 => k_is)
    (case l10 => k_is)
    (case c10 => k_is)
    (case k10 => k_is)
    (case a11 => k_is)
    (case l11 => k_is)
    (case c11 => k_is)
    (case k11 => k_is)
    (case a12 => k_is)
    (case l12 => k_is)
    (case c12 => k_is)
    (case k12 => k_is)
    (case a13 => k_is)
    (case l13 => k_is)
    (case c13 => k_is)
    (case k13 => k_is)
    (case a14 => k_is)
    (case l14 => k_is)
    (case c14 => k_is)
    (case k14 => k_is)
    (case a15 => k_is)
    (case l15 => k_is)
    (case c15 => k_is)
    (case k15 => k_is)
    (case a16 => k_is)
    (case l16 => k_is)
    (case c16 => k_is)
    (case k16 => k_is)
    (case a17 => k_is)
    (case l17 => k_is)
    (case c17 => k_is)
    (case k17 => k_is)
    (case a18 => k_is)
    (case l18 => k_is)
    (case c18 => k_is)
    (case k18 => k_is)
    (case a19 => k_is)
    (case l19 => k_is)
    (case c19 => k_is)
    (case k19 => k_is)
    (case a20 => k_is)
    (case l20 => k_is)
    (case c20 => k_is)
    (case k20 => k_is)
    (case a21 => k_is)
    (case l21 => k_is)
    (case c21 => k_is)
    (case k21 => k_is)
    (case a22 => k_is)
    (case l22 => k_is)
    (case c22 => k_is)
    (case k22 => k_is)
    (case a23 => k_is)
    (case l23 => k_is)
    (case c23 => k_is)
    (case k23 => k_is)
    (case a24 => k_is)
    (case l24 => k_is)
    (case c24 => k_is)
    (case k24 => k_is)
    (case a25 => k_is)
    (case l25 => k_is)
    (case c25 => k_is)
    (case k25 => k_is)
    (case a26 => k_is)
    (case l26 => k_is)
    (case c26 => k_is)
    (case k26 => k_is)
    (case a27 => k_is)
    (case l27 => k_is)
    (case c27 => k_is)
    (case k27 => k_is)
    (case a28 => k_is)
    (case l28 => k_is)
    (case c28 => k_is)
    (case k28 => k_is)
    (case a29 => k_is)
    (case l29 => k_is)
    (case c29 => k_is)
    (case k29 => k_is)
    (case a30 => k_is)
    (case l30 => k_is)
    (case c30 => k_is)
    (case k30 => k_is)
    (case a31 => k_is)
    (case l31 => k_is)
    (case c31 => k_is)
    (case k31 => k_is)
    (case a32 => k_is)
    (case l32 => k_is)
    (case c32 => k_is)
    (case k32 => k_is)
    (case a33 => k_is)
    (case l33 => k_is)
    (case c33 => k_is)
    (case k33 => k_is)
    (case a34 => k_is)
    (case l34 => k_is)
    (case c34 => k_is)
    (case k34 => k_is)
    (case a35 => k_is)
    (case l35 => k_is)
    (case c35 => k_is)
    (case k35 => k_is)
    (case a36 => k_is)
    (case l36 => k_is)
    (case c36 => k_is)
    (case k36 => k_is)
    (case a37 => k_is)
    (case l37 => k_is)
    (case c37 => k_is)
    (case k37 => k_is)
    (case tv37 => k_is)
    (case tw37 => rfl)
    (case tn37 => kernel_rfl)
    (case a38 => k_is)
    (case l38 => k_is)
    (case c38 => k_is)
    (case k38 => k_is)
    (case tv38 => k_is)
    (case tw38 => rfl)
    (case tn38 => kernel_rfl)
    (case a39 => k_is)
    (case l39 => k_is)
    (case c39 => k_is)
    (case k39 => k_is)
    (case tv39 => k_is)
    (case tw39 => rfl)
    (case tn39 => kernel_rfl)
    (case a40 => k_is)
    (case l40 => k_is)
    (case c40 => k_is)
    (case k40 => k_is)
    (case a41 => k_is)
    (case l41 => k_is)
    (case c41 => k_is)
    (case k41 => k_is)
    (case ne37_38 => decide)
    (case ne37_39 => decide)
    (case ne38_39 => decide)
    (case pg => k_is)
    (case hd => k_is)
    (case po => k_is)
    (case sa => k_is)
    (case mk => k_is)
    (case kc => k_is)
    (case n0 => k_is)
    (case n1 => k_is)
    (case n2 => k_is)
    (case n3 => k_is)
    (case q1 => k_is)
    (case q2 => k_is)
    (case q3 => k_is)
    (case q4 => k_is)
    (case w1 => k_is)
    (case w2 => k_is)
    (case w3 => k_is)
    (case no0 => k_is)
    (case no1 => k_is)
    (case no2 => k_is)
    (case no3 => k_is)
    (case no4 => k_is)
    (case no5 => k_is)
    (case no6 => k_is)
    (case aP => k_is)
    (case xCE0 => k_is)
    (case xOE0 => k_is)
    (case xRE0 => rfl)
    (case xsE0 => k_is)
    (case xbE0 => k_is)
    (case xtE0 => k_is)
    (case xkE0 => k_is)
    (case xiE0 => k_is)
    (case xfE0 => k_is)
    (case lE0 => k_is)
    (case cE0 => k_is)
    (case kE0 => k_is)
    (case xgaE0 => k_is)
    (case xggE0 => k_is)
    (case xhdE0 => k_is)
    (case xnoE0 => k_is)
    (case xpE0 => k_is)
    (case xCE1 => k_is)
    (case xOE1 => k_is)
    (case xRE1 => rfl)
    (case xsE1 => k_is)
    (case xbE1 => k_is)
    (case xtE1 => k_is)
    (case xkE1 => k_is)
    (case xiE1 => k_is)
    (case xfE1 => k_is)
    (case lE1 => k_is)
    (case cE1 => k_is)
    (case kE1 => k_is)
    (case xgaE1 => k_is)
    (case xggE1 => k_is)
    (case xhdE1 => k_is)
    (case xnoE1 => k_is)
    (case xpE1 => k_is)
    (case xCE2 => k_is)
    (case xOE2 => k_is)
    (case xRE2 => rfl)
    (case xsE2 => k_is)
    (case xbE2 => k_is)
    (case xtE2 => k_is)
    (case xkE2 => k_is)
    (case xiE2 => k_is)
    (case xfE2 => k_is)
    (case lE2 => k_is)
    (case cE2 => k_is)
    (case kE2 => k_is)
    (case xgaE2 => k_is)
    (case xggE2 => k_is)
    (case xhdE2 => k_is)
    (case xnoE2 => k_is)
    (case xpE2 => k_is)
    (case xCE3 => k_is)
    (case xOE3 => k_is)
    (case xRE3 => rfl)
    (case xsE3 => k_is)
    (case xbE3 => k_is)
    (case xtE3 => k_is)
    (case xkE3 => k_is)
    (case xiE3 => k_is)
    (case xfE3 => k_is)
    (case lE3 => k_is)
    (case cE3 => k_is)
    (case kE3 => k_is)
    (case xgaE3 => k_is)
    (case xggE3 => k_is)
    (case xhdE3 => k_is)
    (case xnoE3 => k_is)
    (case xpE3 => k_is)
    (case xCE4 => k_is)
    (case xOE4 => k_is)
    (case xRE4 => rfl)
    (case xsE4 => k_is)
    (case xbE4 => k_is)
    (case xtE4 => k_is)
    (case xkE4 => k_is)
    (case xiE4 => k_is)
    (case xfE4 => k_is)
    (case lE4 => k_is)
    (case cE4 => k_is)
    (case kE4 => k_is)
    (case xgaE4 => k_is)
    (case xggE4 => k_is)
    (case xhdE4 => k_is)
    (case xnoE4 => k_is)
    (case xpE4 => k_is)
    (case xCE5 => k_is)
    (case xOE5 => k_is)
    (case xRE5 => rfl)
    (case xsE5 => k_is)
    (case xbE5 => k_is)
    (case xtE5 => k_is)
    (case xkE5 => k_is)
    (case xiE5 => k_is)
    (case xfE5 => k_is)
    (case lE5 => k_is)
    (case cE5 => k_is)
    (case kE5 => k_is)
    (case xgaE5 => k_is)
    (case xggE5 => k_is)
    (case xhdE5 => k_is)
    (case xnoE5 => k_is)
    (case xpE5 => k_is)
    (case xCE6 => k_is)
    (case xOE6 => k_is)
    (case xRE6 => rfl)
    (case xsE6 => k_is)
    (case xbE6 => k_is)
    (case xtE6 => k_is)
    (case xkE6 => k_is)
    (case xiE6 => k_is)
    (case xfE6 => k_is)
    (case lE6 => k_is)
    (case cE6 => k_is)
    (case kE6 => k_is)
    (case xgaE6 => k_is)
    (case xggE6 => k_is)
    (case xhdE6 => k_is)
    (case xnoE6 => k_is)
    (case xpE6 => k_is)
    (case xCE7 => k_is)
    (case xOE7 => k_is)
    (case xRE7 => rfl)
    (case xsE7 => k_is)
    (case xbE7 => k_is)
    (case xtE7 => k_is)
    (case xkE7 => k_is)
    (case xiE7 => k_is)
    (case xfE7 => k_is)
    (case lE7 => k_is)
    (case cE7 => k_is)
    (case kE7 => k_is)
    (case xgaE7 => k_is)
    (case xggE7 => k_is)
    (case xhdE7 => k_is)
    (case xnoE7 => k_is)
    (case xpE7 => k_is)
    (case xx0_0 => k_is)
    (case xx1_0 => k_is)
    (case xx1_1 => k_is)
    (case xx2_0 => k_is)
    (case xx2_1 => k_is)
    (case xx2_2 => k_is)
    (case xx3_0 => k_is)
    (case xx3_1 => k_is)
    (case xx3_2 => k_is)
    (case xx3_3 => k_is)
    (case xx4_0 => k_is)
    (case xx4_1 => k_is)
    (case xx4_2 => k_is)
    (case xx4_3 => k_is)
    (case xx4_4 => k_is)
    (case xx5_0 => k_is)
    (case xx5_1 => k_is)
    (case xx5_2 => k_is)
    (case xx5_3 => k_is)
    (case xx5_4 => k_is)
    (case xx5_5 => k_is)
    (case xx6_0 => k_is)
    (case xx6_1 => k_is)
    (case xx6_2 => k_is)
    (case xx6_3 => k_is)
    (case xx6_4 => k_is)
    (case xx6_5 => k_is)
    (case xx6_6 => k_is)
    (case xx7_0 => k_is)
    (case xx7_1 => k_is)
    (case xx7_2 => k_is)
    (case xx7_3 => k_is)
    (case xx7_4 => k_is)
    (case xx7_5 => k_is)
    (case xx7_6 => k_is)
    (case xx7_7 => k_is)
    (case z0 => k_is)
    (case z1 => k_is)
    (case z2 => k_is)
    (case z3 => k_is)
    (case z4 => k_is)
    (case z5 => k_is)
    (case z6 => k_is)
    (case z7 => k_is)
    (case z8 => k_is)
    (case z9 => k_is)
    (case z10 => k_is)
    (case z11 => k_is)
    (case z12 => k_is)
    (case z13 => k_is)
    (case z14 => k_is)
    (case y0 => k_is)
    (case y1 => k_is)
    (case y2 => k_is)
    (case y3 => k_is)
