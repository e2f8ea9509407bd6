import PyProof.Rows.All
import Wide.All
import OpenK.AllK
import Wide.FinOn
import HandS.ForMost
import HandS.IsInst
import HandS.SortInts
import HandS.Walk
import KE.DataMinMax
import PyProof.Rows.StrStep
import KE.KRevSl
import HandS.Style
import KE.DatumOrd
import PySem.Challenge.RW_suretexts_k11_whole_rings_turned
set_option Elab.async false
set_option maxRecDepth 100000
set_option linter.all false
namespace My
/-! ### reading round and round -/
def rd (l : List Nat) (p n : Nat) : List Nat := (List.range n).map fun k => l.getD ((p + k) % l.length) 0
theorem rd_len (l : List Nat) (p n : Nat) : (rd l p n).length = n := by simp [rd]
theorem rd_zero (l : List Nat) (p : Nat) : rd l p 0 = [] := rfl
theorem rd_succ (l : List Nat) (p n : Nat) : rd l p (n + 1) = rd l p n ++ [l.getD ((p + n) % l.length) 0] := by
  simp [rd, List.range_succ]
theorem rd_get (l : List Nat) (p n k : Nat) (h : k < n) : (rd l p n)[k]? = some (l.getD ((p + k) % l.length) 0) := by
  simp [rd, h]
theorem rd_drop (l : List Nat) (p n k : Nat) : (rd l p n).drop k = rd l (p + k) (n - k) := by
  apply List.ext_getElem?
  intro i
  rw [List.getElem?_drop]
  by_cases h : k + i < n
  · rw [rd_get _ _ _ _ h, rd_get _ _ _ _ (by omega), Nat.add_assoc]
  · rw [List.getElem?_eq_none (by rw [rd_len]; omega), List.getElem?_eq_none (by rw [rd_len]; omega)]
theorem rd_mod (l : List Nat) (p n : Nat) : rd l (p % l.length) n = rd l p n := by
  unfold rd
  apply List.map_congr_left
  intro k _
  rw [Nat.mod_add_mod]
theorem rd_self (l : List Nat) : rd l 0 l.length = l := by
  apply List.ext_getElem?
  intro i
  by_cases h : i < l.length
  · rw [rd_get _ _ _ _ h, Nat.zero_add, Nat.mod_eq_of_lt h, List.getElem?_eq_getElem h, List.getD_eq_getElem?_getD, List.getElem?_eq_getElem h]
    rfl
  · rw [List.getElem?_eq_none (by rw [rd_len]; omega), List.getElem?_eq_none (by omega)]
/-- turned -/
theorem rd_turn (l : List Nat) (p : Nat) (h : p < l.length) : rd l p l.length = l.drop p ++ l.take p := by
  apply List.ext_getElem?
  intro i
  by_cases hi : i < l.length
  · rw [rd_get _ _ _ _ hi]
    by_cases h2 : i < l.length - p
    · rw [List.getElem?_append_left (by rw [List.length_drop]; exact h2), List.getElem?_drop, Nat.mod_eq_of_lt (by omega), List.getElem?_eq_getElem (by omega), List.getD_eq_getElem?_getD, List.getElem?_eq_getElem (by omega)]
      rfl
    · rw [List.getElem?_append_right (by rw [List.length_drop]; omega), List.length_drop, List.getElem?_take_of_lt (by omega)]
      have e : (p + i) % l.length = i - (l.length - p) := by
        rw [Nat.mod_eq_sub_mod (by omega), Nat.mod_eq_of_lt (by omega)]
        omega
      rw [e, List.getElem?_eq_getElem (by omega), List.getD_eq_getElem?_getD, List.getElem?_eq_getElem (by omega)]
      rfl
  · rw [List.getElem?_eq_none (by rw [rd_len]; omega), List.getElem?_eq_none (by rw [List.length_append, List.length_drop, List.length_take]; omega)]
/-- reading from a turned ring -/
theorem rd_turned (l : List Nat) (b p n : Nat) (hl : 0 < l.length) : rd (rd l b l.length) p n = rd l (b + p) n := by
  unfold rd
  apply List.map_congr_left
  intro k _
  have e : ((List.range l.length).map fun k => l.getD ((b + k) % l.length) 0).length = l.length := by simp
  rw [e]
  have h2 : (p + k) % l.length < l.length := Nat.mod_lt _ hl
  rw [List.getD_eq_getElem?_getD, List.getElem?_map, List.getElem?_range h2]
  show l.getD ((b + (p + k) % l.length) % l.length) 0 = _
  rw [Nat.add_mod_mod, Nat.add_assoc]

/-! ### beginnings that are endings -/
def Pre (w t : List Nat) (k : Nat) : Prop := k ≤ w.length ∧ w.take k <:+ t
def Longest (w t : List Nat) (k : Nat) : Prop := Pre w t k ∧ ∀ k', Pre w t k' → k' ≤ k
def IsLB (p : List Nat) (b : Nat) : Prop := b < p.length ∧ p.take b <:+ p ∧ ∀ b', b' < p.length → p.take b' <:+ p → b' ≤ b
def At (w t : List Nat) (c k : Nat) : Prop := Pre w t k ∧ ∀ k', Pre w t k' → w[k']? = some c → k' ≤ k
theorem suff_one {a t : List Nat} {x c : Nat} : a ++ [x] <:+ t ++ [c] ↔ a <:+ t ∧ x = c := by
  constructor
  · rintro ⟨u, hu⟩
    rw [← List.append_assoc] at hu
    have h := List.append_inj' hu rfl
    exact ⟨⟨u, h.1⟩, by simpa using h.2⟩
  · rintro ⟨⟨u, hu⟩, rfl⟩
    exact ⟨u, by rw [← hu, List.append_assoc]⟩
theorem pre_succ {w t : List Nat} {c k : Nat} : Pre w (t ++ [c]) (k + 1) ↔ Pre w t k ∧ w[k]? = some c := by
  unfold Pre
  constructor
  · rintro ⟨h1, h2⟩
    have hk : k < w.length := by omega
    rw [List.take_succ_eq_append_getElem hk, suff_one] at h2
    exact ⟨⟨by omega, h2.1⟩, by rw [List.getElem?_eq_getElem hk, h2.2]⟩
  · rintro ⟨⟨h1, h2⟩, h3⟩
    have hk : k < w.length := by
      rw [List.getElem?_eq_some_iff] at h3
      exact h3.1
    rw [List.take_succ_eq_append_getElem hk, suff_one]
    rw [List.getElem?_eq_getElem hk] at h3
    exact ⟨by omega, h2, Option.some.inj h3⟩
theorem pre_zero (w t : List Nat) : Pre w t 0 := ⟨Nat.zero_le _, by simp⟩
theorem at_start {w t : List Nat} {c k : Nat} (h : Longest w t k) : At w t c k := ⟨h.1, fun k' h' _ => h.2 k' h'⟩
theorem at_fall {w t : List Nat} {c k b : Nat} (h : At w t c k) (hne : w[k]? ≠ some c) (hb : IsLB (w.take k) b) : At w t c b := by
  obtain ⟨h1, h2⟩ := h
  obtain ⟨b1, b2, b3⟩ := hb
  have lk : (w.take k).length = k := by rw [List.length_take]; have := h1.1; omega
  rw [lk] at b1 b3
  have tk : ∀ j, j ≤ k → (w.take k).take j = w.take j := fun j hj => by rw [List.take_take, Nat.min_eq_left hj]
  refine ⟨⟨by have := h1.1; omega, ?_⟩, fun k' p' e' => ?_⟩
  · rw [← tk b (by omega)]
    exact b2.trans h1.2
  · have l1 := h2 k' p' e'
    have l2 : k' ≠ k := by rintro rfl; exact hne e'
    have l3 : k' < k := by omega
    refine b3 k' l3 ?_
    rw [tk k' (by omega)]
    refine List.suffix_of_suffix_length_le p'.2 h1.2 ?_
    rw [List.length_take, List.length_take]
    have := h1.1
    omega
theorem at_hit {w t : List Nat} {c k : Nat} (h : At w t c k) (he : w[k]? = some c) : Longest w (t ++ [c]) (k + 1) := by
  refine ⟨pre_succ.mpr ⟨h.1, he⟩, fun k' p' => ?_⟩
  cases k' with
  | zero => omega
  | succ j =>
    have q := pre_succ.mp p'
    have := h.2 j q.1 q.2
    omega
theorem at_miss {w t : List Nat} {c : Nat} (h : At w t c 0) (he : w[0]? ≠ some c) : Longest w (t ++ [c]) 0 := by
  refine ⟨pre_zero _ _, fun k' p' => ?_⟩
  cases k' with
  | zero => omega
  | succ j =>
    have q := pre_succ.mp p'
    have l := h.2 j q.1 q.2
    have e : j = 0 := by omega
    subst e
    exact absurd q.2 he
theorem longest_nil (w : List Nat) : Longest w [] 0 := by
  refine ⟨pre_zero _ _, fun k' p' => ?_⟩
  have h := List.suffix_nil.mp p'.2
  have h2 : (w.take k').length = 0 := by rw [h]; rfl
  rw [List.length_take] at h2
  have := p'.1
  omega
theorem longest_le {w t : List Nat} {k : Nat} (h : Longest w t k) : k ≤ t.length := by
  have h1 := h.1.2.length_le
  rw [List.length_take] at h1
  have := h.1.1
  omega
/-- the longest beginning that ends the letters behind the first one is the longest border -/
theorem lb_of_longest {w : List Nat} {i k : Nat} (hi : i < w.length) (h : Longest w ((w.drop 1).take i) k) : IsLB (w.take (i + 1)) k := by
  have hk := longest_le h
  have ht : ((w.drop 1).take i).length = i := by rw [List.length_take, List.length_drop]; omega
  rw [ht] at hk
  have hl : (w.take (i + 1)).length = i + 1 := by rw [List.length_take]; omega
  have tk : ∀ j, j ≤ i + 1 → (w.take (i + 1)).take j = w.take j := fun j hj => by rw [List.take_take, Nat.min_eq_left hj]
  obtain ⟨a, r, rfl⟩ : ∃ a r, w = a :: r := by
    cases w with
    | nil => simp at hi
    | cons a r => exact ⟨a, r, rfl⟩
  have e : (a :: r).take (i + 1) = a :: ((a :: r).drop 1).take i := by simp
  refine ⟨by omega, ?_, fun b' hb' hs => ?_⟩
  · rw [tk k (by omega), e]
    exact h.1.2.trans (List.suffix_cons _ _)
  · rw [hl] at hb'
    refine h.2 b' ⟨by omega, ?_⟩
    rw [tk b' (by omega), e, List.suffix_cons_iff] at hs
    rcases hs with hs | hs
    · have hq := congrArg List.length hs
      rw [List.length_take, ← e, hl] at hq
      omega
    · exact hs
theorem lb_one {w : List Nat} (h : 0 < w.length) : IsLB (w.take 1) 0 := lb_of_longest h (by simpa using longest_nil w)
theorem lb_unique {p : List Nat} {a b : Nat} (h1 : IsLB p a) (h2 : IsLB p b) : a = b := by
  have := h1.2.2 b h2.1 h2.2.1
  have := h2.2.2 a h1.1 h1.2.1
  omega
/-- the list of the longest borders -/
def Bords (w : List Nat) (L : List Nat) : Prop := L.length = w.length ∧ ∀ j, j < w.length → ∃ b, L[j]? = some b ∧ IsLB (w.take (j + 1)) b
theorem bords_unique {w A B : List Nat} (h1 : Bords w A) (h2 : Bords w B) : A = B := by
  apply List.ext_getElem?
  intro i
  by_cases h : i < w.length
  · obtain ⟨a, ea, la⟩ := h1.2 i h
    obtain ⟨b, eb, lb⟩ := h2.2 i h
    rw [ea, eb, lb_unique la lb]
  · rw [List.getElem?_eq_none (by rw [h1.1]; omega), List.getElem?_eq_none (by rw [h2.1]; omega)]
/-- some first ones of them -/
def BordsTo (w : List Nat) (n : Nat) (L : List Nat) : Prop := L.length = n ∧ ∀ j, j < n → ∃ b, L[j]? = some b ∧ IsLB (w.take (j + 1)) b
theorem bordsTo_one {w : List Nat} (h : 0 < w.length) : BordsTo w 1 [0] := by
  refine ⟨rfl, fun j hj => ?_⟩
  have e : j = 0 := by omega
  subst e
  exact ⟨0, rfl, lb_one h⟩
theorem bordsTo_succ {w L : List Nat} {i k : Nat} (hi : i < w.length) (hB : BordsTo w i L) (h : Longest w ((w.drop 1).take i) k) : BordsTo w (i + 1) (L ++ [k]) := by
  refine ⟨by rw [List.length_append, hB.1]; rfl, fun j hj => ?_⟩
  by_cases hji : j < i
  · obtain ⟨b, e, l⟩ := hB.2 j hji
    exact ⟨b, by rw [List.getElem?_append_left (by rw [hB.1]; exact hji)]; exact e, l⟩
  · have e : j = i := by omega
    subst e
    refine ⟨k, ?_, lb_of_longest hi h⟩
    rw [List.getElem?_append_right (by rw [hB.1]; omega), hB.1, Nat.sub_self]
    rfl
theorem bordsTo_at {w L : List Nat} {n k : Nat} (hB : BordsTo w n L) (h0 : 0 < k) (hk : k ≤ n) : ∃ b, L[k - 1]? = some b ∧ IsLB (w.take k) b ∧ b < k := by
  obtain ⟨b, e, l⟩ := hB.2 (k - 1) (by omega)
  rw [show k - 1 + 1 = k by omega] at l
  refine ⟨b, e, l, ?_⟩
  have := l.1
  rw [List.length_take] at this
  omega
theorem bords_of {w L : List Nat} : BordsTo w w.length L ↔ Bords w L := Iff.rfl

/-! ### a word begins at a place -/
def due (l w : List Nat) : List Nat := (List.range l.length).filter fun p => rd l p w.length == w
theorem mem_due {l w : List Nat} {p : Nat} : p ∈ due l w ↔ p < l.length ∧ rd l p w.length = w := by
  simp [due]
/-- of the first n letters read -/
def dueTo (l w : List Nat) (n : Nat) : List Nat := (List.range n).filter fun p => rd l p w.length == w
theorem dueTo_all (l w : List Nat) : dueTo l w l.length = due l w := rfl
theorem dueTo_succ_yes {l w : List Nat} {n : Nat} (h : rd l n w.length = w) : dueTo l w (n + 1) = dueTo l w n ++ [n] := by
  simp [dueTo, List.range_succ, List.filter_append, h]
theorem dueTo_succ_no {l w : List Nat} {n : Nat} (h : ¬ rd l n w.length = w) : dueTo l w (n + 1) = dueTo l w n := by
  simp [dueTo, List.range_succ, List.filter_append, h]
/-- the whole word was just read -/
theorem longest_full {l w : List Nat} {n k : Nat} (h : Longest w (rd l 0 n) k) : k = w.length ↔ w.length ≤ n ∧ rd l (n - w.length) w.length = w := by
  have key : w <:+ rd l 0 n ↔ w.length ≤ n ∧ rd l (n - w.length) w.length = w := by
    constructor
    · intro hs
      have hl := hs.length_le
      rw [rd_len] at hl
      refine ⟨hl, ?_⟩
      have e := List.suffix_iff_eq_drop.mp hs
      rw [rd_len, rd_drop, Nat.zero_add, show n - (n - w.length) = w.length by omega] at e
      exact e.symm
    · rintro ⟨hl, e⟩
      rw [List.suffix_iff_eq_drop, rd_len, rd_drop, Nat.zero_add, show n - (n - w.length) = w.length by omega]
      exact e.symm
  rw [← key]
  constructor
  · rintro rfl
    have := h.1.2
    rw [List.take_length] at this
    exact this
  · intro hs
    have h1 := h.1.1
    have h2 := h.2 w.length ⟨Nat.le_refl _, by rw [List.take_length]; exact hs⟩
    omega

/-! ### the period -/
theorem getD_lt {l : List Nat} {i : Nat} (h : i < l.length) : l[i]? = some (l.getD i 0) := by
  rw [List.getD_eq_getElem?_getD, List.getElem?_eq_getElem h]
  rfl
theorem line_period {l : List Nat} {b : Nat} (h : IsLB l b) (i : Nat) (hi : i + (l.length - b) < l.length) : l.getD (i + (l.length - b)) 0 = l.getD i 0 := by
  have hb := h.1
  have e := List.suffix_iff_eq_drop.mp h.2.1
  have hl : (l.take b).length = b := by rw [List.length_take]; omega
  rw [hl] at e
  have e2 := congrArg (fun z : List Nat => z[i]?) e
  simp only [List.getElem?_take, List.getElem?_drop] at e2
  rw [if_pos (by omega)] at e2
  rw [List.getD_eq_getElem?_getD, List.getD_eq_getElem?_getD, e2, Nat.add_comm]
theorem line_mult {l : List Nat} {s : Nat} (h : ∀ i, i + s < l.length → l.getD (i + s) 0 = l.getD i 0) : ∀ (m i : Nat), i + m * s < l.length → l.getD (i + m * s) 0 = l.getD i 0
  | 0, i, _ => by simp
  | m + 1, i, hi => by
    have e : i + (m + 1) * s = (i + m * s) + s := by rw [Nat.succ_mul]; omega
    rw [e] at hi ⊢
    rw [h _ hi]
    exact line_mult h m i (by omega)
theorem round_period {l : List Nat} {s : Nat} (_hs : 0 < s) (hsl : s ≤ l.length) (hd : l.length % s = 0) (h : ∀ i, i + s < l.length → l.getD (i + s) 0 = l.getD i 0) (i : Nat) (hi : i < l.length) : l.getD ((i + s) % l.length) 0 = l.getD i 0 := by
  by_cases hlt : i + s < l.length
  · rw [Nat.mod_eq_of_lt hlt]
    exact h i hlt
  · have e1 : (i + s) % l.length = i + s - l.length := by
      rw [Nat.mod_eq_sub_mod (by omega), Nat.mod_eq_of_lt (by omega)]
    rw [e1]
    obtain ⟨q, hq⟩ : ∃ q, l.length = s * q := ⟨l.length / s, by rw [Nat.mul_div_cancel' (Nat.dvd_of_mod_eq_zero hd)]⟩
    have hq0 : 0 < q := by
      rcases Nat.eq_zero_or_pos q with z | z
      · subst z; omega
      · exact z
    obtain ⟨r, rfl⟩ : ∃ r, q = r + 1 := ⟨q - 1, by omega⟩
    have e2 : l.length = r * s + s := by rw [hq, Nat.mul_succ, Nat.mul_comm]
    have e3 : i = (i + s - l.length) + r * s := by omega
    have := line_mult h r (i + s - l.length) (by omega)
    rw [← e3] at this
    exact this.symm
/-- the told period -/
def per (l : List Nat) (b : Nat) : Nat := if l.length % (l.length - b) = 0 then l.length - b else l.length
theorem per_turns {l : List Nat} {b : Nat} (h : IsLB l b) (i : Nat) (hi : i < l.length) : l.getD ((i + per l b) % l.length) 0 = l.getD i 0 := by
  have hb := h.1
  unfold per
  split
  · exact round_period (by omega) (by omega) (by assumption) (fun j hj => line_period h j hj) i hi
  · rw [Nat.add_mod_right, Nat.mod_eq_of_lt hi]
theorem rd_per {l : List Nat} {b : Nat} (h : IsLB l b) (p n : Nat) : rd l (p + per l b) n = rd l p n := by
  have hb := h.1
  unfold rd
  apply List.map_congr_left
  intro k _
  rw [show p + per l b + k = (p + k) + per l b by omega, ← Nat.mod_add_mod]
  rw [per_turns h ((p + k) % l.length) (Nat.mod_lt _ (by omega))]
theorem per_pos {l : List Nat} {b : Nat} (h : IsLB l b) : 0 < per l b ∧ per l b ≤ l.length := by
  have hb := h.1
  unfold per
  split <;> omega

/-! ### rising lists of the same numbers are one list -/
theorem rising_ext : ∀ {a b : List Int}, a.Pairwise (· < ·) → b.Pairwise (· < ·) → (∀ x, x ∈ a ↔ x ∈ b) → a = b
  | [], [], _, _, _ => rfl
  | [], y :: ys, _, _, h => by have := (h y).mpr (by simp); simp at this
  | x :: xs, [], _, _, h => by have := (h x).mp (by simp); simp at this
  | x :: xs, y :: ys, ha, hb, h => by
    rw [List.pairwise_cons] at ha hb
    have e : x = y := by
      have h1 := (h x).mp (by simp)
      have h2 := (h y).mpr (by simp)
      rw [List.mem_cons] at h1 h2
      rcases h1 with h1 | h1
      · exact h1
      · rcases h2 with h2 | h2
        · exact h2.symm
        · have := ha.1 y h2
          have := hb.1 x h1
          omega
    subst e
    congr 1
    refine rising_ext ha.2 hb.2 fun z => ?_
    constructor
    · intro hz
      have := (h z).mp (List.mem_cons_of_mem _ hz)
      rw [List.mem_cons] at this
      rcases this with rfl | this
      · have := ha.1 _ hz; omega
      · exact this
    · intro hz
      have := (h z).mpr (List.mem_cons_of_mem _ hz)
      rw [List.mem_cons] at this
      rcases this with rfl | this
      · have := hb.1 _ hz; omega
      · exact this
theorem rising_of {s : List Int} (h : s.Pairwise (· ≤ ·)) (n : s.Nodup) : s.Pairwise (· < ·) := by
  have := h.and n
  exact this.imp fun ⟨h1, h2⟩ => by omega
/-- sorted, and the same numbers, none twice: that is it -/
theorem sorted_is {s m d : List Int} (hp : List.Perm s m) (hs : s.Pairwise (· ≤ ·)) (hn : m.Nodup) (hd : d.Pairwise (· < ·)) (h : ∀ x, x ∈ m ↔ x ∈ d) : s = d := by
  refine rising_ext (rising_of hs (hp.nodup_iff.mpr hn)) hd fun x => ?_
  rw [hp.mem_iff]
  exact h x
theorem due_rising (l w : List Nat) : ((due l w).map fun n : Nat => (n : Int)).Pairwise (· < ·) := by
  rw [List.pairwise_map]
  refine List.Pairwise.imp (fun {a b} (h : a < b) => by omega) ?_
  exact List.Pairwise.filter _ List.pairwise_lt_range
end My
namespace My
/-! ### turnings in their order -/
def rot (l : List Nat) (p : Nat) : List Nat := rd l p l.length
theorem rot_len (l : List Nat) (p : Nat) : (rot l p).length = l.length := rd_len _ _ _
def gt (l : List Nat) (i : Nat) : Nat := l.getD (i % l.length) 0
theorem rd_gt (l : List Nat) (p n : Nat) : rd l p n = (List.range n).map fun k => gt l (p + k) := rfl
theorem rd_split (l : List Nat) (p a b : Nat) : rd l p (a + b) = rd l p a ++ rd l (p + a) b := by
  induction b with
  | zero => simp [rd_zero]
  | succ b ih => rw [← Nat.add_assoc, rd_succ, ih, rd_succ, List.append_assoc, Nat.add_assoc]
theorem rd_cons (l : List Nat) (p n : Nat) : rd l p (n + 1) = gt l p :: rd l (p + 1) n := by
  rw [Nat.add_comm n 1, rd_split]
  rfl
theorem rd_congr {l : List Nat} {p q n : Nat} (h : ∀ j, j < n → gt l (p + j) = gt l (q + j)) : rd l p n = rd l q n := by
  rw [rd_gt, rd_gt]
  apply List.map_congr_left
  intro k hk
  exact h k (List.mem_range.mp hk)
theorem gt_congr {l : List Nat} {p q n : Nat} (h : rd l p n = rd l q n) (j : Nat) (hj : j < n) : gt l (p + j) = gt l (q + j) := by
  have e := congrArg (fun z : List Nat => z[j]?) h
  simp only [rd_get _ _ _ _ hj] at e
  exact Option.some.inj e
theorem lt_append {a x y : List Nat} (h : x < y) : a ++ x < a ++ y := by
  induction a with
  | nil => exact h
  | cons c r ih =>
    rw [List.cons_append, List.cons_append, List.cons_lt_cons_iff]
    exact .inr ⟨rfl, ih⟩
/-- alike for k letters, then less: less -/
theorem rot_lt {l : List Nat} {p q k : Nat} (hk : k < l.length) (h : ∀ j, j < k → gt l (p + j) = gt l (q + j)) (hl : gt l (p + k) < gt l (q + k)) : rot l p < rot l q := by
  unfold rot
  rw [show l.length = k + ((l.length - k - 1) + 1) by omega, rd_split l p, rd_split l q, rd_congr h]
  apply lt_append
  rw [rd_cons, rd_cons, List.cons_lt_cons_iff]
  exact .inl hl
def Bad (l : List Nat) (p : Nat) : Prop := ∃ q, rot l q < rot l p
def Opt (l : List Nat) (p : Nat) : Prop := ∀ q, ¬ rot l q < rot l p
theorem opt_bad {l : List Nat} {p : Nat} (h : Opt l p) (b : Bad l p) : False := by
  obtain ⟨q, hq⟩ := b
  exact h q hq
theorem rot_mod (l : List Nat) (p : Nat) : rot l (p % l.length) = rot l p := rd_mod _ _ _
/-- there is a least one -/
theorem opt_ex {l : List Nat} (h0 : 0 < l.length) : ∃ p, p < l.length ∧ Opt l p := by
  have key : ∀ n, 0 < n → ∃ p, p < n ∧ ∀ q, q < n → ¬ rot l q < rot l p := by
    intro n
    induction n with
    | zero => intro h; omega
    | succ n ih =>
      intro _
      rcases Nat.eq_zero_or_pos n with z | z
      · subst z
        refine ⟨0, by omega, fun q hq => ?_⟩
        have e : q = 0 := by omega
        subst e
        exact List.lt_irrefl _
      · obtain ⟨p, hp, hm⟩ := ih z
        by_cases c : rot l n < rot l p
        · refine ⟨n, by omega, fun q hq hlt => ?_⟩
          by_cases e : q = n
          · subst e; exact List.lt_irrefl _ hlt
          · exact hm q (by omega) (List.lt_trans hlt c)
        · refine ⟨p, by omega, fun q hq => ?_⟩
          by_cases e : q = n
          · subst e; exact c
          · exact hm q (by omega)
  obtain ⟨p, hp, hm⟩ := key l.length h0
  refine ⟨p, hp, fun q => ?_⟩
  rw [← rot_mod l q]
  exact hm _ (Nat.mod_lt _ h0)
structure Two (l : List Nat) (one two alike : Nat) : Prop where
  ne : one ≠ two
  in_ : one < l.length ∨ two < l.length
  same : ∀ j, j < alike → gt l (one + j) = gt l (two + j)
  bad : ∀ p, p < max one two → p ≠ one → p ≠ two → Bad l p
  b1 : one ≤ 2 * l.length
  b2 : two ≤ 2 * l.length + 1
  b3 : alike ≤ l.length
theorem two_start {l : List Nat} (h : 0 < l.length) : Two l 0 1 0 := by
  refine ⟨by omega, .inl h, fun j hj => by omega, fun p hp h0 h1 => ?_, by omega, by omega, by omega⟩
  have : max 0 1 = 1 := rfl
  omega
theorem two_alike {l : List Nat} {one two alike : Nat} (h : Two l one two alike) (ha : alike < l.length) (e : gt l (one + alike) = gt l (two + alike)) : Two l one two (alike + 1) := by
  refine ⟨h.ne, h.in_, fun j hj => ?_, h.bad, h.b1, h.b2, by omega⟩
  by_cases c : j = alike
  · subst c; exact e
  · exact h.same j (by omega)
theorem bad_run {l : List Nat} {a b alike : Nat} (ha : alike < l.length) (hs : ∀ j, j < alike → gt l (a + j) = gt l (b + j)) (hg : gt l (b + alike) < gt l (a + alike)) {p : Nat} (h1 : a ≤ p) (h2 : p ≤ a + alike) : Bad l p := by
  refine ⟨b + (p - a), rot_lt (k := alike - (p - a)) (by omega) (fun j hj => ?_) ?_⟩
  · have := hs (p - a + j) (by omega)
    rw [show b + (p - a) + j = b + (p - a + j) by omega, show p + j = a + (p - a + j) by omega]
    exact this.symm
  · rw [show b + (p - a) + (alike - (p - a)) = b + alike by omega, show p + (alike - (p - a)) = a + alike by omega]
    exact hg
theorem two_one {l : List Nat} {one two alike : Nat} (h : Two l one two alike) (h1 : one < l.length) (h2 : two < l.length) (ha : alike < l.length) (hg : gt l (two + alike) < gt l (one + alike)) :
    Two l (one + alike + 1) (if one + alike + 1 = two then two + 1 else two) 0 := by
  have run := fun p => bad_run (p := p) ha h.same hg
  have old := h.bad
  by_cases c : one + alike + 1 = two
  · rw [if_pos c]
    refine ⟨by omega, .inl (by omega), fun j hj => by omega, fun p hp n1 n2 => ?_, by omega, by omega, by omega⟩
    by_cases p1 : p < one
    · exact old p (by omega) (by omega) (by omega)
    · exact run p (by omega) (by omega)
  · rw [if_neg c]
    refine ⟨by omega, .inr h2, fun j hj => by omega, fun p hp n1 n2 => ?_, by omega, by omega, by omega⟩
    by_cases p1 : p < one
    · exact old p (by omega) (by omega) (by omega)
    · by_cases p2 : p ≤ one + alike
      · exact run p (by omega) p2
      · exact old p (by omega) (by omega) n2
theorem two_two {l : List Nat} {one two alike : Nat} (h : Two l one two alike) (h1 : one < l.length) (h2 : two < l.length) (ha : alike < l.length) (hg : gt l (one + alike) < gt l (two + alike)) :
    Two l one (if one = two + alike + 1 then two + alike + 1 + 1 else two + alike + 1) 0 := by
  have run := fun p => bad_run (p := p) ha (fun j hj => (h.same j hj).symm) hg
  have old := h.bad
  by_cases c : one = two + alike + 1
  · rw [if_pos c]
    refine ⟨by omega, .inl h1, fun j hj => by omega, fun p hp n1 n2 => ?_, by omega, by omega, by omega⟩
    by_cases p1 : p < two
    · exact old p (by omega) (by omega) (by omega)
    · exact run p (by omega) (by omega)
  · rw [if_neg c]
    refine ⟨by omega, .inl h1, fun j hj => by omega, fun p hp n1 n2 => ?_, by omega, by omega, by omega⟩
    by_cases p1 : p < two
    · exact old p (by omega) (by omega) (by omega)
    · by_cases p2 : p ≤ two + alike
      · exact run p (by omega) p2
      · exact old p (by omega) n1 (by omega)
theorem rot_shift {l : List Nat} {a b : Nat} (h0 : 0 < l.length) (h : rot l a = rot l b) (i : Nat) : rot l (a + i) = rot l (b + i) := by
  unfold rot at *
  refine rd_congr fun j _ => ?_
  have := gt_congr h ((i + j) % l.length) (Nat.mod_lt _ h0)
  unfold gt at *
  rw [Nat.add_mod_mod, Nat.add_mod_mod] at this
  rw [Nat.add_assoc, Nat.add_assoc]
  exact this
theorem two_end {l : List Nat} {one two alike : Nat} (h0 : 0 < l.length) (h : Two l one two alike) (e : ¬ (one < l.length ∧ two < l.length ∧ alike < l.length)) : min one two < l.length ∧ Opt l (min one two) := by
  obtain ⟨p, hp, ho⟩ := opt_ex h0
  have hne := h.ne
  by_cases c1 : one < l.length
  · by_cases c2 : two < l.length
    · have e3 : rot l one = rot l two := rd_congr fun j hj => h.same j (by omega)
      refine ⟨by omega, ?_⟩
      have both : rot l (min one two) = rot l (max one two) := by
        rcases Nat.lt_or_ge one two with z | z
        · rw [Nat.min_eq_left (by omega), Nat.max_eq_right (by omega)]; exact e3
        · rw [Nat.min_eq_right (by omega), Nat.max_eq_left (by omega)]; exact e3.symm
      have lo_opt : ∀ p, Opt l p → Opt l (min one two) := by
        intro p
        induction p using Nat.strongRecOn with
        | _ p ih =>
          intro ho
          by_cases q1 : p = min one two
          · rw [← q1]; exact ho
          by_cases q2 : p = max one two
          · unfold Opt
            rw [both, ← q2]
            exact ho
          by_cases q3 : p < max one two
          · exact (opt_bad ho (h.bad p q3 (by omega) (by omega))).elim
          · have hs := rot_shift h0 both (p - max one two)
            rw [show max one two + (p - max one two) = p by omega] at hs
            refine ih (min one two + (p - max one two)) (by omega) ?_
            unfold Opt
            rw [hs]
            exact ho
      exact lo_opt p ho
    · have ep : p = one := by
        by_cases q : p = one
        · exact q
        · exact (opt_bad ho (h.bad p (by omega) q (by omega))).elim
      rw [Nat.min_eq_left (by omega), ← ep]
      exact ⟨hp, ho⟩
  · have c2 : two < l.length := by rcases h.in_ with z | z <;> omega
    have ep : p = two := by
      by_cases q : p = two
      · exact q
      · exact (opt_bad ho (h.bad p (by omega) (by omega) q)).elim
    rw [Nat.min_eq_right (by omega), ← ep]
    exact ⟨hp, ho⟩
/-! ### the normal -/
def IsLeast (l m : List Nat) : Prop := ∃ p, p < l.length ∧ m = rot l p ∧ Opt l p
theorem least_unique {l a b : List Nat} (h1 : IsLeast l a) (h2 : IsLeast l b) : a = b := by
  obtain ⟨p, _, rfl, ho⟩ := h1
  obtain ⟨q, _, rfl, hq⟩ := h2
  exact List.le_antisymm (List.not_lt.mp (ho q)) (List.not_lt.mp (hq p))
theorem rot_rot (l : List Nat) (b p : Nat) (h0 : 0 < l.length) : rot (rot l b) p = rot l (b + p) := by
  unfold rot
  rw [rd_len]
  exact rd_turned l b p l.length h0
theorem least_rot {l m : List Nat} {b : Nat} (h0 : 0 < l.length) (h : IsLeast (rot l b) m) : IsLeast l m := by
  obtain ⟨p, hp, rfl, ho⟩ := h
  rw [rot_rot _ _ _ h0]
  refine ⟨(b + p) % l.length, Nat.mod_lt _ h0, (rot_mod _ _).symm, fun q hq => ?_⟩
  rw [rot_mod] at hq
  refine ho (q + (l.length - b % l.length)) ?_
  rw [rot_rot _ _ _ h0, rot_rot _ _ _ h0]
  have e : rot l (b + (q + (l.length - b % l.length))) = rot l q := by
    rw [← rot_mod]
    have h1 := Nat.div_add_mod b l.length
    have h2 : b % l.length < l.length := Nat.mod_lt _ h0
    have e : b + (q + (l.length - b % l.length)) = q + l.length * (b / l.length + 1) := by
      rw [Nat.mul_succ]
      omega
    rw [e, Nat.add_mul_mod_self_left, rot_mod]
  rw [e]
  exact hq
/-- one ring is the other one turned exactly if they have one normal -/
theorem alike_iff {l o a b : List Nat} (h0 : 0 < l.length) (h1 : 0 < o.length) (ha : IsLeast l a) (hb : IsLeast o b) : a = b ↔ ∃ p, p < l.length ∧ o = rot l p := by
  constructor
  · rintro rfl
    obtain ⟨p, _, e1, _⟩ := ha
    obtain ⟨q, hq, e2, _⟩ := hb
    have en : o.length = l.length := by
      have e3 := congrArg List.length e1
      have e4 := congrArg List.length e2
      rw [rot_len] at e3 e4
      omega
    have e5 : rot a (o.length - q) = o := by
      rw [e2, rot_rot _ _ _ h1, show q + (o.length - q) = o.length by omega, ← rot_mod, Nat.mod_self]
      exact rd_self o
    rw [e1, rot_rot _ _ _ h0] at e5
    exact ⟨(p + (o.length - q)) % l.length, Nat.mod_lt _ h0, by rw [rot_mod]; exact e5.symm⟩
  · rintro ⟨p, _, rfl⟩
    exact least_unique ha (least_rot h0 hb)
/-! ### the period is the least -/
theorem rot_zero (l : List Nat) : rot l 0 = l := rd_self l
theorem per_cyc {l : List Nat} {d : Nat} (h0 : 0 < l.length) (h : rot l d = l) (q : Nat) : gt l (q + d) = gt l q := by
  have h2 : rot l d = rot l 0 := by rw [h, rot_zero]
  have h3 := rot_shift h0 h2 q
  have := gt_congr h3 0 (by omega)
  rw [Nat.zero_add, Nat.add_comm d q] at this
  exact this
theorem per_mult {l : List Nat} {d : Nat} (h0 : 0 < l.length) (h : rot l d = l) : ∀ (k q : Nat), gt l (q + k * d) = gt l q
  | 0, q => by simp
  | k + 1, q => by
    rw [Nat.succ_mul, ← Nat.add_assoc, per_cyc h0 h]
    exact per_mult h0 h k q
theorem cyc_rot {l : List Nat} {d : Nat} (h : ∀ q, q < l.length → gt l (q + d) = gt l q) : rot l d = l := by
  have e : rd l d l.length = rd l 0 l.length := rd_congr fun j hj => by rw [Nat.zero_add, Nat.add_comm]; exact h j hj
  unfold rot
  rw [e, rd_self]
theorem least_per {l : List Nat} (h0 : 0 < l.length) : ∃ d, 0 < d ∧ d ≤ l.length ∧ rot l d = l ∧ ∀ p, 0 < p → p < d → rot l p ≠ l := by
  have key : ∀ n, 0 < n → rot l n = l → ∃ d, 0 < d ∧ d ≤ n ∧ rot l d = l ∧ ∀ p, 0 < p → p < d → rot l p ≠ l := by
    intro n
    induction n using Nat.strongRecOn with
    | _ n ih =>
      intro hn hr
      by_cases c : ∃ p, 0 < p ∧ p < n ∧ rot l p = l
      · obtain ⟨p, p0, pn, pr⟩ := c
        obtain ⟨d, d0, dn, dr, dm⟩ := ih p pn p0 pr
        exact ⟨d, d0, by omega, dr, dm⟩
      · exact ⟨n, hn, Nat.le_refl _, hr, fun p p0 pn pr => c ⟨p, p0, pn, pr⟩⟩
  exact key l.length h0 (by rw [← rot_mod, Nat.mod_self, rot_zero])
theorem per_divides {l : List Nat} {d : Nat} (h0 : 0 < l.length) (d0 : 0 < d) (hr : rot l d = l) (hm : ∀ p, 0 < p → p < d → rot l p ≠ l) : l.length % d = 0 := by
  by_cases c : l.length % d = 0
  · exact c
  · exfalso
    have hlt : l.length % d < d := Nat.mod_lt _ d0
    refine hm (l.length % d) (by omega) hlt (cyc_rot fun q _ => ?_)
    have e := Nat.div_add_mod l.length d
    have h1 := per_mult h0 hr (l.length / d) (q + l.length % d)
    rw [← h1, show q + l.length % d + l.length / d * d = q + l.length by rw [Nat.mul_comm (l.length / d) d]; omega]
    unfold gt
    rw [Nat.add_mod_right]
theorem gt_lt {l : List Nat} {i : Nat} (h : i < l.length) : gt l i = l.getD i 0 := by
  unfold gt
  rw [Nat.mod_eq_of_lt h]
theorem per_is {l : List Nat} {b d : Nat} (h : IsLB l b) (d0 : 0 < d) (dn : d ≤ l.length) (hr : rot l d = l) (hm : ∀ p, 0 < p → p < d → rot l p ≠ l) : per l b = d := by
  have hb := h.1
  have h0 : 0 < l.length := by omega
  have sd : l.length - b ≤ d := by
    by_cases c : d = l.length
    · omega
    · have e : rd l d l.length = l := hr
      rw [rd_turn l d (by omega)] at e
      have e2 : l.take (l.length - d) = l.drop d := by
        have := congrArg (List.take (l.length - d)) e
        rw [List.take_append_of_le_length (by rw [List.length_drop]; omega), List.take_of_length_le (by rw [List.length_drop]; omega)] at this
        exact this.symm
      have hs : l.take (l.length - d) <:+ l := by
        rw [e2]
        exact List.drop_suffix _ _
      have := h.2.2 (l.length - d) (by omega) hs
      omega
  have back : (∀ q, q < l.length → gt l (q + (l.length - b)) = gt l q) → d ≤ l.length - b := fun hc => by
    by_cases c : d ≤ l.length - b
    · exact c
    · exact absurd (cyc_rot hc) (hm _ (by omega) (by omega))
  have hline := line_period h
  unfold per
  split
  · rename_i c
    have := back fun q hq => by
      unfold gt
      rw [Nat.mod_eq_of_lt hq]
      exact round_period (by omega) (by omega) c hline q hq
    omega
  · rename_i c
    by_cases cd : d = l.length
    · exact cd.symm
    · exfalso
      have dd := per_divides h0 d0 hr hm
      have d2 : d + d ≤ l.length := by
        have e := Nat.div_add_mod l.length d
        rw [dd, Nat.add_zero] at e
        have q2 : 2 ≤ l.length / d := by
          rcases Nat.lt_or_ge (l.length / d) 2 with z | z
          · exfalso
            have : l.length / d = 0 ∨ l.length / d = 1 := by
              generalize l.length / d = x at z ⊢
              omega
            rcases this with z | z <;> rw [z] at e <;> omega
          · exact z
        have := Nat.mul_le_mul_left d q2
        omega
      have hcyc : ∀ q, q < l.length → gt l (q + (l.length - b)) = gt l q := fun q hq => by
        by_cases c1 : q + (l.length - b) < l.length
        · rw [gt_lt c1, gt_lt hq]
          exact hline q c1
        · have e1 : gt l q = gt l (q - d) := by
            have := per_cyc h0 hr (q - d)
            rw [show q - d + d = q by omega] at this
            exact this
          have e2 : gt l (q - d + (l.length - b)) = gt l (q - d) := by
            rw [gt_lt (by omega), gt_lt (by omega)]
            exact hline (q - d) (by omega)
          have e3 := per_cyc h0 hr (q - d + (l.length - b))
          rw [show q - d + (l.length - b) + d = q + (l.length - b) by omega] at e3
          rw [e3, e2, e1]
      have := back hcyc
      have e : d = l.length - b := by omega
      rw [← e] at c
      exact c dd
theorem per_facts {l : List Nat} {b : Nat} (h : IsLB l b) : 0 < per l b ∧ per l b ≤ l.length ∧ rot l (per l b) = l ∧ (∀ p, 0 < p → p < per l b → rot l p ≠ l) ∧ l.length % per l b = 0 := by
  have h0 : 0 < l.length := by have := h.1; omega
  obtain ⟨d, d0, dn, dr, dm⟩ := least_per h0
  rw [per_is h d0 dn dr dm]
  exact ⟨d0, dn, dr, dm, per_divides h0 d0 dr dm⟩
/-- as many unlike turnings as the period -/
theorem rot_per {l : List Nat} {d : Nat} (h0 : 0 < l.length) (_d0 : 0 < d) (h : rot l d = l) (p : Nat) : rot l p = rot l (p % d) := by
  unfold rot
  refine rd_congr fun j _ => ?_
  have e := Nat.div_add_mod p d
  have := per_mult h0 h (p / d) (p % d + j)
  rw [← this, show p % d + j + p / d * d = p + j by rw [Nat.mul_comm (p / d) d]; omega]
theorem rot_unlike {l : List Nat} {d : Nat} (h0 : 0 < l.length) (dn : d ≤ l.length) (hm : ∀ p, 0 < p → p < d → rot l p ≠ l) {p q : Nat} (hp : p < q) (hq : q < d) : rot l p ≠ rot l q := by
  intro e
  have h1 := rot_shift h0 e (l.length - p)
  rw [show p + (l.length - p) = l.length by omega, ← rot_mod, Nat.mod_self, rot_zero, ← rot_mod, show q + (l.length - p) = (q - p) + l.length by omega, Nat.add_mod_right, rot_mod] at h1
  exact hm (q - p) (by omega) (by omega) h1.symm
/-- the root again and again -/
theorem root_again {l : List Nat} {d : Nat} (h0 : 0 < l.length) (h : rot l d = l) : ∀ k, k * d ≤ l.length → (List.replicate k (l.take d)).flatten = l.take (k * d)
  | 0, _ => by simp
  | k + 1, hk => by
    rw [Nat.succ_mul] at hk
    rw [List.replicate_succ', List.flatten_append, root_again h0 h k (by omega), List.flatten_singleton, Nat.succ_mul, List.take_add]
    congr 1
    apply List.ext_getElem?
    intro i
    by_cases hi : i < d
    · rw [List.getElem?_take_of_lt hi, List.getElem?_take_of_lt hi, List.getElem?_drop, getD_lt (by omega), getD_lt (by omega)]
      have := per_mult h0 h k i
      rw [gt_lt (by omega), gt_lt (by omega)] at this
      rw [Nat.add_comm (k * d) i, this]
    · rw [List.getElem?_eq_none (by rw [List.length_take]; omega), List.getElem?_eq_none (by rw [List.length_take, List.length_drop]; omega)]
end My
namespace My
open PySem L2 PyProof.Rows
/-- a text by its letters -/
abbrev T (l : List Nat) : V := .str ⟨l.toArray⟩
section
variable {X : Cx}
theorem mul_flat (l : List Nat) (n : Nat) : ((List.replicate n l.toArray).foldl (· ++ ·) (#[] : Array Nat)) = (List.replicate n l).flatten.toArray := by
  have h : ∀ (m : Nat) (acc : List Nat), (List.replicate m l.toArray).foldl (· ++ ·) acc.toArray = (acc ++ (List.replicate m l).flatten).toArray := by
    intro m
    induction m with
    | zero => intro acc; simp
    | succ m ih =>
      intro acc
      rw [List.replicate_succ, List.foldl_cons]
      have e : acc.toArray ++ l.toArray = (acc ++ l).toArray := by simp
      rw [e, ih, List.replicate_succ, List.flatten_cons, List.append_assoc]
  have := h n []
  simpa using this
theorem op_mul_str : OpR X (binaryOp .Mult) (fun x y H Q => ∃ l n, x = T l ∧ y = .int (n : Nat) ∧ 1 ≤ n ∧ n ≤ 1000 ∧ l.length ≤ 1000 ∧ Q (T (List.replicate n l).flatten) H) := by
  intro pins s σ H x y v u Q I rx ry h
  obtain ⟨l, n, rfl, rfl, h1, h2, h3, q⟩ := h
  obtain ⟨t, rfl⟩ := rx
  obtain ⟨t', rfl⟩ := ry
  have hlen : (⟨l.toArray⟩ : Str).length = l.length := by simp [Str.length]
  have ok : MulOk ⟨l.toArray⟩ (n : Int) := by
    refine ⟨?_, fun _ _ => ?_, fun _ _ => ?_⟩
    · have a1 : decide ((n : Int) < -(2 ^ 63 : Int)) = false := decide_eq_false (by omega)
      have a2 : decide ((n : Int) ≥ 2 ^ 63) = false := decide_eq_false (by omega)
      rw [a1, a2]
      rfl
    · rw [hlen]
      have : (1000000 : Int) ≤ (2 ^ 63 - 1) / (n : Int) := by
        rw [Int.le_ediv_iff_mul_le (by omega)]
        omega
      omega
    · rw [hlen]
      have e : (n : Int).toNat = n := by omega
      rw [e]
      have : l.length * n ≤ 1000 * 1000 := Nat.mul_le_mul h3 h2
      have z : (1000000 : Nat) ≤ sizeLine := by decide
      simp [Builtin.Str.tooLong]
      omega
  refine SB.mul ok fun t'' k => ?_
  have em : Txt.mul ⟨l.toArray⟩ (n : Int) = ⟨(List.replicate n l).flatten.toArray⟩ := by
    unfold Txt.mul
    rw [if_neg (by omega)]
    split
    · rename_i c
      rw [hlen] at c
      simp at c
      rcases c with c | c
      · have : n = 1 := by omega
        subst this
        simp
      · subst c
        simp
    · have e : (n : Int).toNat = n := by omega
      rw [e]
      exact congrArg Str.mk (mul_flat l n)
  rw [em]
  exact ⟨.str _, H, I.tok _, ⟨_, rfl⟩, q⟩
theorem call_repr_bl : CallR X (.builtin "repr") (fun xs H Q => ∃ b, xs = [.bl b] ∧ Q (.str (if b then "True" else "False")) H) := by
  intro pins s σ H xs us Q I r h
  obtain ⟨b, rfl, q⟩ := h
  obtain ⟨u, rfl, e⟩ := vals1 r
  cases e
  exact PySem.P.repr_of_bool ⟨.str _, H, I.tok _, ⟨_, rfl⟩, q⟩
/-- a module's constant that is an int -/
theorem pe_globI {x : Str} {n : Int} {pos : Pos} (h : ∃ t, X.mg x = some (.int n t)) (hg : Gl X x := by rfl) (hd : (x == ("__debug__" : Str)) = false := by decide) : PE X (.Name x pos) (tC (.int n)) := by
  obtain ⟨t, e⟩ := h
  exact pe_glob (v := .int n) hg e ⟨t, rfl⟩ hd
variable {CX : CXT} {k : Nat} {f : Addr} {fd : FuncData} {ps ks : List Str} {sp : Sp} {E : XK} {x : Str} {p pos : Pos} {kws : List Keyword} {tk : TA} {g : List Value → List Value → List Value} {gV : List V → List V → List V}
/-- f(a=.., b=..) -/
theorem pe_callKK (F : FnOk X.prog X.w X.K X.mg X.base CX k f fd ps sp) (hr : Room k X.A) (hg : Gl X x) (hm : X.mg x = some (.ref f)) (hk : PySem.W.keepIn X.K (.ref f) = true) (hb : KBinds X.K fd ps ks g gV) (hx : Passes CX X E)
    (hkw : PK X kws tk) (hall : (backToKw pos (keywordEach kws X.env)).all (·.1.isSome) = true := by rfl) (hks : (backToKw pos (keywordEach kws X.env)).filterMap (·.1) = ks := by rfl)
    (hdb : (x == ("__debug__" : Str)) = false := by decide)
    (hpl : ((backTo pos (starEach [] X.env)).any (·.1) || (backToKw pos (keywordEach kws X.env)).any (·.1.isNone)) = false := by rfl) :
    PE X (.Call (.Name x p) [] kws pos) (tCallK sp gV E tNil tk) := by
  refine ⟨fun pins s σ H Q I h => ?_⟩
  refine wpAny_Call_Name_kw (ld_glob I hg hm ?_ hdb)
  refine PySem.W.callWith_KW0 (h₀ := X.base) I.ok.mod.kin hk hall (thn (hkw.run pos pins s σ H _ I h) fun ws s2 ⟨zs, H2, I2, rz, q2⟩ => ⟨I2.kIn, ?_⟩) hpl
  rw [hks]
  exact run_fnk F hr hb hx I2 .nil rz q2
end
/-! ### a def that stands, and one that keeps a promise -/
def Def (K : PySem.W.Frag) (mg : Str → Option Value) (x : Str) (st : Stmt) (ps : List Str) : Prop := ∃ (f : Addr) (fd : FuncData), Fun K x x st f fd ∧ mg x = some (.ref f) ∧ Binds K fd ps []
section
variable {P : Program} {w : World} {K : PySem.W.Frag} {mg : Str → Option Value} {base : Heap}
def Good (P : Program) (w : World) (K : PySem.W.Frag) (mg : Str → Option Value) (base : Heap) (x : Str) (st : Stmt) (ps : List Str) (k : Nat) (sp : Sp) : Prop := ∃ (f : Addr) (fd : FuncData), FnOk P w K mg base CX0 k f fd ps sp ∧ mg x = some (.ref f) ∧ PySem.W.keepIn K (.ref f) = true ∧ Binds K fd ps [] ∧ Fun K x x st f fd
theorem Def.good {x : Str} {st : Stmt} {ps : List Str} {k : Nat} {sp : Sp} (D : Def K mg x st ps) (h : ∀ f fd, Fun K x x st f fd → FnOk P w K mg base CX0 k f fd ps sp) : Good P w K mg base x st ps k sp := by
  obtain ⟨f, fd, F, m, b⟩ := D
  exact ⟨f, fd, h f fd F, m, F.kp, b, F⟩
theorem def_mk {h : Heap} (X : K.In h) (G : h.Ns mainGlobals mg) {x : Str} {st : Stmt} {ps : List Str} {f : Addr} {oc : Value} {od an : Option Addr} {osl : Array (Option Value)} {kV doc pm cdv ct : Value} (a : PySem.W.nsIn K mainGlobals x = some (some (.ref f)))
    (l : K.lookup f = some ⟨oc, od, .func (PySem.W.fnOf x x (defArgs st) (defBody st) (defScope st) .none kV doc pm an cdv ct), osl⟩) (c : PySem.W.codeIn K cdv x = true) (k : PySem.W.keepIn K (.ref f) = true)
    (hb : ∀ (kV doc pm : Value) (an : Option Addr) (cdv ct : Value) (us : List Value), us.length = ps.length → bindArgs (PySem.W.fnOf x x (defArgs st) (defBody st) (defScope st) .none kV doc pm an cdv ct) ⟨us, []⟩ = pure (ps.zip us)) : Def K mg x st ps :=
  ⟨f, _, fun_mk l c k, PySem.W.mg_of X G a, (fun_mk l c k).binds hb⟩
theorem fun_kbinds {x qual : Str} {st : Stmt} {f : Addr} {fd : FuncData} {ps ks : List Str} (F : Fun K x qual st f fd) (g : List Value → List Value → List Value) (gV : List V → List V → List V)
    (hrel : ∀ {vs : List V} {us : List Value} {zs : List V} {ws : List Value}, Vals vs us → Vals zs ws → Vals (gV vs zs) (g us ws))
    (h : ∀ (kV doc pm : Value) (an : Option Addr) (cdv ct : Value) (us ws : List Value), (g us ws).length = ps.length → bindArgs (PySem.W.fnOf x qual (defArgs st) (defBody st) (defScope st) .none kV doc pm an cdv ct) ⟨us, ks.zip ws⟩ = pure (ps.zip (g us ws))) : KBinds K fd ps ks g gV := by
  obtain ⟨oc, od, kV, doc, pm, an, cdv, ct, osl, rfl, lk, hcd⟩ := F.ex
  exact ⟨fun s us ws X hl => .of_eq (h kV doc pm an cdv ct us ws hl), hrel⟩
/-- two keywords, in the parameters' order, or turned; one -/
def g12 {α : Type} : List α → List α → List α | [], [a, b] => [a, b] | _, _ => []
def g21 {α : Type} : List α → List α → List α | [], [a, b] => [b, a] | _, _ => []
def g1 {α : Type} : List α → List α → List α | [], [a] => [a] | _, _ => []
theorem g12_inv {α : Type} {us ws : List α} (h : (g12 us ws).length = 2) : us = [] ∧ ∃ a b, ws = [a, b] := by
  match us, ws, h with
  | [], [a, b], _ => exact ⟨rfl, a, b, rfl⟩
  | [], [], h => exact absurd h (by simp [g12, g21, g1])
  | [], [_], h => exact absurd h (by simp [g12])
  | [], _ :: _ :: _ :: _, h => exact absurd h (by simp [g12])
  | _ :: _, _, h => exact absurd h (by simp [g12])
theorem g21_inv {α : Type} {us ws : List α} (h : (g21 us ws).length = 2) : us = [] ∧ ∃ a b, ws = [a, b] := by
  match us, ws, h with
  | [], [a, b], _ => exact ⟨rfl, a, b, rfl⟩
  | [], [], h => exact absurd h (by simp [g12, g21, g1])
  | [], [_], h => exact absurd h (by simp [g21])
  | [], _ :: _ :: _ :: _, h => exact absurd h (by simp [g21])
  | _ :: _, _, h => exact absurd h (by simp [g21])
theorem g1_inv {α : Type} {us ws : List α} (h : (g1 us ws).length = 1) : us = [] ∧ ∃ a, ws = [a] := by
  match us, ws, h with
  | [], [a], _ => exact ⟨rfl, a, rfl⟩
  | [], [], h => exact absurd h (by simp [g12, g21, g1])
  | [], _ :: _ :: _, h => exact absurd h (by simp [g1])
  | _ :: _, _, h => exact absurd h (by simp [g1])
theorem rel12 {vs : List V} {us : List Value} {zs : List V} {ws : List Value} (a : Vals vs us) (b : Vals zs ws) : Vals (g12 vs zs) (g12 us ws) := by
  cases a with
  | nil =>
    cases b with
    | nil => exact .nil
    | cons r b =>
      cases b with
      | nil => exact .nil
      | cons r2 b =>
        cases b with
        | nil => exact .cons r (.cons r2 .nil)
        | cons r3 b => exact .nil
  | cons r a => exact .nil
theorem rel21 {vs : List V} {us : List Value} {zs : List V} {ws : List Value} (a : Vals vs us) (b : Vals zs ws) : Vals (g21 vs zs) (g21 us ws) := by
  cases a with
  | nil =>
    cases b with
    | nil => exact .nil
    | cons r b =>
      cases b with
      | nil => exact .nil
      | cons r2 b =>
        cases b with
        | nil => exact .cons r2 (.cons r .nil)
        | cons r3 b => exact .nil
  | cons r a => exact .nil
theorem rel1 {vs : List V} {us : List Value} {zs : List V} {ws : List Value} (a : Vals vs us) (b : Vals zs ws) : Vals (g1 vs zs) (g1 us ws) := by
  cases a with
  | nil =>
    cases b with
    | nil => exact .nil
    | cons r b =>
      cases b with
      | nil => exact .cons r .nil
      | cons r3 b => exact .nil
  | cons r a => exact .nil
end
end My
namespace My
open PySem L2 PyProof.Rows
theorem bl_is1 {x : Bool} {Q : VK} {H : Hp} (h : x = true) (q : Q (.bl true) H) : Q (.bl x) H := by
  rw [h]
  exact q
/-! ### a list that nobody asks for any more is forgotten -/
section
variable {X : Cx} {pins : List (Addr × Obj)} {σ : L2.St} {H1 H2 : Hp} {s : Shared} {D : Addr} {xs : List V}
theorem inv_drop (I : Inv X pins σ H1 s) (e : H1 = upd H2 D (.lst xs)) (n : H2 D = none) : Inv X pins σ H2 s := by
  subst e
  have off : ∀ b, upd H2 D (.lst xs) b = none → H2 b = none := fun b h => by
    by_cases hb : b = D
    · rw [hb]; exact n
    · rw [upd_ne hb] at h; exact h
  have back : ∀ b o, o ≠ HO.lst xs → upd H2 D (.lst xs) b = some o → H2 b = some o := fun b o ho h => by
    by_cases hb : b = D
    · subst hb
      rw [upd_same] at h
      exact absurd (Option.some.inj h).symm ho
    · rw [upd_ne hb] at h; exact h
  refine ⟨I.ok, I.os, I.bare, ?_, I.loc, I.cell, off _ I.free, fun x c h => off _ (I.freeC x c h), fun p hp => ?_, ?_, I.len⟩
  · have u := I.base
    refine ⟨u.keep, u.slot, fun b o h1 h2 h3 => off _ (u.free b o h1 h2 h3), u.there, fun b ys h => back _ _ (by intro z; cases z) (u.tups b ys h), fun b o v h => back _ _ (by intro z; cases z) (u.frzs b o v h), fun b ps h => ?_⟩
    obtain ⟨more, h⟩ := u.tbls b ps h
    exact ⟨more, back _ _ (by intro z; cases z) h⟩
  · obtain ⟨a, b, c⟩ := I.pin p hp
    exact ⟨a, off _ b, c⟩
  · intro a o h
    have ha : a ≠ D := fun z => by rw [z, n] at h; cases h
    refine (I.hok a o (by rw [upd_ne ha]; exact h)).stay (fun _ _ _ z => z) (fun b h => back _ _ (by intro z; cases z) h) (fun b ys h => back _ _ (by intro z; cases z) h)
theorem pe_drop {e : Expr} {te : TE} (he : PE X e te) : PE X e (fun σ H Q => te σ H fun v H1 => ∃ D xs H2, H1 = upd H2 D (.lst xs) ∧ H2 D = none ∧ Q v H2) := by
  refine ⟨fun pins s σ H Q I h => ?_⟩
  exact wpAny_mono (he.run pins s σ H _ I h) (fun u s1 ⟨v, H1, I1, r, D, xs, H2, e, n, q⟩ => ⟨v, H2, inv_drop I1 e n, r, q⟩) fun _ _ h => h
end
end My
namespace My
open PySem L2 PyProof.Rows
/-! ### contracts of defs that are called where nothing is being shown -/
structure FnG (P : Program) (w : World) (K : PySem.W.Frag) (mg : Str → Option Value) (base : Heap) (k : Nat) (f : Addr) (fd : FuncData) (ps : List Str) (sp : Sp) : Prop where
  len : ∀ vs H Q E, sp vs H Q E → vs.length = ps.length
  run : ∀ (A : Around) (outer : List Env) (s : Shared) (H : Hp) (args : Args) (us : List Value) (vs : List V) (Q : VK) (E : XK), Room k A → A.guards = some [] → Env0 P w K mg base A outer s H → BindsTo s fd args (ps.zip us) → Vals vs us → sp vs H Q E →
    codeAny (model P w) A (.call (.ref f) args) (CR CX0 outer P w H s Q E) s
section
variable {P : Program} {w : World} {K : PySem.W.Frag} {mg : Str → Option Value} {base : Heap}
theorem FnG.ofOk {k : Nat} {f : Addr} {fd : FuncData} {ps : List Str} {sp : Sp} (F : FnOk P w K mg base CX0 k f fd ps sp) : FnG P w K mg base k f fd ps sp :=
  ⟨F.len, fun A outer s H args us vs Q E hr _ he hb hv hs => F.run A outer s H args us vs Q E hr he hb hv hs⟩
theorem FnG.ofBody {x qual : Str} {st : Stmt} {f : Addr} {fd : FuncData} {N ps : List Str} {k : Nat} {sp : Sp} (F : Fun K x qual st f fd) (S : FnScope N ps (defScope st)) (len : ∀ vs H Q E, sp vs H Q E → vs.length = ps.length)
    (body : ∀ (cdv : Value) (A : Around) (outer : List Env) (s : Shared) (H : Hp) (vs : List V) (Q : VK) (E : XK), Room k (A.deeper (envOfC qual (defScope st) s.heap.objs.size f cdv)) → A.guards = some [] → sp vs H Q E →
      ∃ t, PSs (cxOf CX0 P w K mg base N qual (defScope st) f cdv A outer s H E).nox (defBody st) t ∧ t { nx := fun _ H' => Q .non H', rt := Q } (start N vs) H) : FnG P w K mg base (k + 1) f fd ps sp := by
  obtain ⟨oc, od, kV, doc, pm, an, cdv, ct, osl, rfl, lk, hcd⟩ := F.ex
  constructor
  · exact len
  intro A outer s H args us vs Q E room quiet env bound rel want
  have many := len _ _ _ _ want
  have inK : K.In s.heap := env.mod.kin.keeps (fun b o e => (env.bs b o e).1)
  have unlimited : s.heap.NoLimit := env.mod.nolimit.keeps (fun b o e => (env.bs b o e).1)
  have kinds : ∀ y ∈ ps.zip us, (defScope st).names.lookup y.1 = some .local ∨ ((defScope st).names.lookup y.1 = some .cell ∧ ((cellsFrom (s.heap.objs.size + 1) (defScope st).names []).lookup y.1).isSome = true) := by
    rintro ⟨n, v⟩ hy
    exact (S.par n (List.of_mem_zip hy).1).imp id (fun q => ⟨q, PySem.W.cellsFrom_some _ _ _ (.inl q)⟩)
  refine codeAny_call_function room.depth (inK _ _ lk) rfl S.co S.gen rfl (PySem.W.codeRec_of inK hcd) (bound _ _ _ _ (wpAny_newFunctionEnv_cells S.kind kinds ?_))
  rintro env' rfl s1 x
  obtain ⟨t, ht, hq⟩ := body cdv A outer s H vs Q E (room.deeper _) quiet want
  have I := inv_start (CX := CX0) (E := E) S room.hd env many rel x
  refine ⟨unlimited.keeps x.toInCall.keep, codeAny_func (wpAny_mono (ht.nox.run [] s1 (start N vs) H _ I hq) ?_ (fun _ _ h => h))⟩
  intro fl s' hs
  cases fl with
  | ret u =>
    obtain ⟨v, σ', H', J, rv, q⟩ := hs
    exact ⟨v, H', J.os, J.bare, J.base, J.hok, rv, q⟩
  | next =>
    obtain ⟨σ', H', J, q⟩ := hs
    exact ⟨V.non, H', J.os, J.bare, J.base, J.hok, (rfl : RelV V.non Value.none), q⟩
  | brk => exact hs.elim fun _ h => h.elim fun _ h => h.2.elim
  | cont => exact hs.elim fun _ h => h.elim fun _ h => h.2.elim
end
section
variable {X : Cx} {k : Nat} {f : Addr} {fd : FuncData} {ps ks : List Str} {sp : Sp} {ds : List Value} {x : Str} {p pos : Pos} {e : Expr} {es : List Expr} {kws : List Keyword} {t tk : TA} {g : List Value → List Value → List Value} {gV : List V → List V → List V}
theorem run_fnG {pins : List (Addr × Obj)} {σ : L2.St} {H : Hp} {s : Shared} {Q : VK} {us ws : List Value} {vs zs : List V} (F : FnG X.prog X.w X.K X.mg X.base k f fd ps sp) (hr : Room k X.A) (quiet : X.A.guards = some []) (hb : KBinds X.K fd ps ks g gV)
    (I : Inv X pins σ H s) (r : Vals vs us) (rz : Vals zs ws) (h : sp (gV vs zs) H Q E0) : wpAny (model X.prog X.w) X.A (call (.ref f) us (ks.zip ws)) (EP X pins σ Q) X.xe s := by
  have r2 := hb.rel r rz
  have many : (g us ws).length = ps.length := r2.length.symm.trans (F.len _ _ _ _ h)
  refine wpAny_call (codeAny_mono (F.run X.A X.stack s H _ _ _ Q E0 hr quiet I.env0 (hb.to s us ws I.kIn many) r2 h) ?_)
  rintro (e | fl) s' hq
  · exact False.elim hq
  cases fl with
  | ret u => exact I.after hq
  | next | brk | cont => exact hq.elim
/-- arguments by place alone -/
theorem KBinds.none {K : PySem.W.Frag} {fd : FuncData} {ps : List Str} (b : Binds K fd ps []) : KBinds K fd ps [] (fun us _ => us) (fun vs _ => vs) := by
  refine ⟨fun s us ws X hl => ?_, fun r _ => r⟩
  have := b s us X (by rw [List.append_nil]; exact hl)
  rw [List.append_nil] at this
  exact this
theorem pe_callG (F : FnG X.prog X.w X.K X.mg X.base k f fd ps sp) (hr : Room k X.A) (quiet : X.A.guards = some []) (hg : Gl X x) (hm : X.mg x = some (.ref f)) (hk : PySem.W.keepIn X.K (.ref f) = true) (hb : Binds X.K fd ps [])
    (ha : PA X (e :: es) t) (hdb : (x == ("__debug__" : Str)) = false := by decide) (he : starEach (e :: es) X.env = (false, eval e X.env) :: starEach es X.env := by rfl) (hpl : (backTo pos (starEach es X.env)).any (·.1) = false := by rfl) :
    PE X (.Call (.Name x p) (e :: es) [] pos) (tCall sp [] E0 t) := by
  constructor
  intro pins s σ H Q I h
  refine wpAny_Call_Name_kw (ld_glob I hg hm (PySem.W.callWith_K (h₀ := X.base) I.ok.mod.kin hk (thn (ha.run pos pins s σ H _ I h) ?_) he hpl) hdb)
  rintro us s1 ⟨vs, H1, I1, r, q⟩
  refine ⟨I1.kIn, ?_⟩
  have q' : sp vs H1 Q E0 := by
    have q2 : sp (vs ++ []) H1 Q E0 := q
    rwa [List.append_nil] at q2
  exact run_fnG (ws := []) (zs := []) F hr quiet (KBinds.none hb) I1 r .nil q'
end
/-! ### a law whose promise is kept where nothing is being shown -/
theorem quiet_caller : callerA.guards = some [] := rfl
/-- from an abstract heap in which at most the script is told -/
theorem law_from {P : Program} {w : World} {K : PySem.W.Frag} {mg mb : Str → Option Value} {k : Nat} {fa a : Addr} {fd : FuncData} {x : Str} {sp : Sp} {s₁ : Shared} {vs : List Value} {H : Hp}
    (inK : K.In s₁.heap) (main : s₁.heap.Ns mainGlobals mg) (bui : s₁.heap.Ns builtinsNs mb) (same : ∀ x : Str, x ≠ "__name__" → mb x = bootBuiltins x) (lim : s₁.heap.NoLimit) (gens : s₁.gens = #[])
    (at_a : s₁.heap.get? a = some { cls := .type "list", data := .seq vs.toArray }) (room : Room k callerA)
    (F : ∀ base : Heap, K.In base → base.Ns mainGlobals mg → FnG P w K mg base k fa fd [x] sp) (bound : ∀ (s : Shared) (u : Value), BindsTo s fd ⟨[u], []⟩ [(x, u)])
    (only : Only H) (hok : HOk P w H s₁.heap) (isA : ∀ b, H b ≠ none → b = a) (notK : H a ≠ none → K.lookup a = none) (want : sp [.ref a] H (fun v _ => v = .bl true) fun _ _ _ => False) :
    codeAny (model P w) callerA (.call (.ref fa) ⟨[.ref a], []⟩) (fun r s' => r = .ok (.ret (.bool true)) ∧ OldK s₁.heap s'.heap ∧ s'.os = s₁.os ∧ AllBare s'.gens) s₁ := by
  have free : ∀ b, b ≠ a → H b = none := by
    intro b hb
    cases q : H b with
    | none => rfl
    | some u => exact absurd (isA b (fun z => by rw [z] at q; cases q)) hb
  have shown : ∀ {b : Addr} {o : Obj}, s₁.heap.get? b = some o → H b = none → (hidT s₁.heap H).get? b = some o := fun e n => hidT_get e n
  have names : ∀ {b : Addr} {m : Str → Option Value}, s₁.heap.Ns b m → (hidT s₁.heap H).Ns b m := by
    rintro b m ⟨o, es, ep, e, d, r⟩
    refine ⟨o, es, ep, shown e (free b ?_), d, r⟩
    rintro rfl
    rw [at_a] at e
    cases e
    exact nomatch d
  have inHid : K.In (hidT s₁.heap H) := by
    intro b o e
    refine shown (inK b o e) ?_
    cases q : H b with
    | none => rfl
    | some u =>
      have ne : H b ≠ none := fun z => by rw [z] at q; cases q
      have eb := isA b ne
      subst eb
      rw [notK ne] at e
      cases e
  obtain ⟨mc, l1, l2⟩ := lim
  have env : Env0 P w K mg (hidT s₁.heap H) callerA [] s₁ H := {
    frames := rfl
    mod := ⟨inHid, names main, ⟨mb, names bui, same⟩, ⟨mc, names l1, l2⟩⟩
    bs := fun _ _ e => of_hidT e
    bsz := Nat.le_of_eq (hidT_size _ _)
    funs := trivial
    frf := fun b hb => nomatch (show b ∈ ([] : List Addr) from hb)
    hok := hok
    bare := .of_eq gens }
  refine codeAny_mono ((F _ inHid (names main)).run callerA [] s₁ H ⟨[.ref a], []⟩ [.ref a] [.ref a] _ _ room quiet_caller env (bound s₁ (.ref a)) (.cons rfl .nil) want) ?_
  rintro (e | fl) s' h
  · exact False.elim h
  cases fl with
  | next | brk | cont => exact False.elim h
  | ret u =>
    obtain ⟨v, H', os, bare, un, hok', rel, q⟩ := h
    cases (show v = .bl true from q)
    cases (show u = Value.bool true from rel)
    refine ⟨rfl, .of_keep ?_, os, bare⟩
    intro b o e
    rcases only b with z | ⟨ob, xs, z⟩
    · exact un.keep b o e z (fun m => nomatch (show b ∈ ([] : List Addr) from m)) (fun m => nomatch m)
    · have z2 := un.frzs b ob _ z
      have e1 := (hok b _ z).1
      rw [e] at e1
      cases e1
      exact (hok' b _ z2).1
theorem law_callG {P : Program} {w : World} {K : PySem.W.Frag} {mg mb : Str → Option Value} {k : Nat} {fa a : Addr} {fd : FuncData} {x : Str} {sp : Sp} {s₁ : Shared} {vs : List Value} {ns : List Int}
    (inK : K.In s₁.heap) (main : s₁.heap.Ns mainGlobals mg) (bui : s₁.heap.Ns builtinsNs mb) (same : ∀ x : Str, x ≠ "__name__" → mb x = bootBuiltins x) (lim : s₁.heap.NoLimit) (gens : s₁.gens = #[])
    (at_a : s₁.heap.get? a = some { cls := .type "list", data := .seq vs.toArray }) (hints : IntsAre vs ns) (short : ns.length ≤ sizeLine) (room : Room k callerA)
    (F : ∀ base : Heap, K.In base → base.Ns mainGlobals mg → FnG P w K mg base k fa fd [x] sp) (bound : ∀ (s : Shared) (u : Value), BindsTo s fd ⟨[u], []⟩ [(x, u)])
    (want : ∀ H : Hp, Only H → SqL K H a (ns.map V.int) → sp [.ref a] H (fun v _ => v = .bl true) fun _ _ _ => False) :
    codeAny (model P w) callerA (.call (.ref fa) ⟨[.ref a], []⟩) (fun r s' => r = .ok (.ret (.bool true)) ∧ OldK s₁.heap s'.heap ∧ s'.os = s₁.os ∧ AllBare s'.gens) s₁ := by
  have rel := vals_ints hints
  have many := hints.length
  have go := fun (H : Hp) (o : Only H) hok isA notK w => law_from (mb := mb) inK main bui same lim gens at_a room F bound (H := H) o hok isA notK w
  cases hk : K.lookup a with
  | some o =>
    have e := inK a o hk
    rw [at_a] at e
    cases e
    have nobody : Only (fun _ => none) := fun _ => .inl rfl
    refine go _ nobody (fun b u z => nomatch (show (none : Option HO) = some u from z)) (fun b z => absurd rfl z) (fun z => absurd rfl z) (want _ nobody (.inr ⟨_, vs.toArray, _, hk, rfl, rfl, rfl, ?_, ?_⟩))
    · rw [List.size_toArray, many]
      exact short
    · simpa using rel
  | none =>
    have key : ∃ H : Hp, H = fun b => if b = a then some (.frz { cls := .type "list", data := .seq vs.toArray } (.lst (ns.map V.int))) else none := ⟨_, rfl⟩
    obtain ⟨H, eH⟩ := key
    have there : H a = some (.frz { cls := .type "list", data := .seq vs.toArray } (.lst (ns.map V.int))) := by rw [eH]; exact if_pos rfl
    have else_ : ∀ b, b ≠ a → H b = none := fun b hb => by rw [eH]; exact if_neg hb
    have only : Only H := fun b => by
      by_cases hb : b = a
      · rw [hb]; exact .inr ⟨_, _, there⟩
      · exact .inl (else_ b hb)
    refine go H only (fun b u z => ?_) (fun b z => ?_) (fun _ => hk) (want H only (.inl (.inr ⟨_, there⟩)))
    · by_cases hb : b = a
      · subst hb
        rw [there] at z
        cases z
        exact ⟨at_a, by rw [List.length_map]; exact short, vs, _, rel, at_a⟩
      · rw [else_ b hb] at z
        cases z
    · by_cases hb : b = a
      · exact hb
      · exact absurd (else_ b hb) z
theorem walk_ofG {l : PySem.W.OpenLaw} {n k : Nat} {q : Program} {loose : List Str} {XP : (Str → Option Value) → Heap → Prop} {YP : World → Heap → Prop} {d : DefRec} {K : Params → PySem.W.Frag} {sp : World → Sp} {x : Str}
    (hn : l.most = some n) (hn2 : n ≤ sizeLine) (hdf : d.params.defaults = []) (room : Room k callerA) (hY : ∀ (w : World) (h : Heap), YP w h → (K w.params).In h)
    (F : ∀ (w : World) (mg : Str → Option Value) (fa : Addr) (h : Heap), (K w.params).In h → h.Ns mainGlobals mg → mg d.name = some (.ref fa) →
      ∃ fd : FuncData, (∀ (s : Shared) (u : Value), BindsTo s fd ⟨[u], []⟩ [(x, u)]) ∧ ∀ base : Heap, (K w.params).In base → base.Ns mainGlobals mg → FnG l.prog w (K w.params) mg base k fa fd [x] (sp w))
    (want : ∀ (w : World) (H : Hp) (a : Addr) (ns : List Int), ns.length ≤ n → Only H → SqL (K w.params) H a (ns.map V.int) → sp w [.ref a] H (fun v _ => v = .bl true) fun _ _ _ => False) :
    PySem.W.WalkO q loose XP YP l.row.toRowW d [] (fun f vs => PySem.call f vs) := by
  apply Att.attach_call hn hdf
  intro w s₀ s₁ mg mb fa o pm cd doc a vs ns G Y ho hd hcd hmg hobj hints hlen hg
  have inK := hY w _ Y
  obtain ⟨fd, bound, hF⟩ := F w mg fa _ inK G.T.g hmg
  exact law_callG inK G.T.g G.T.b G.T.builtins G.T.nolimit hg hobj hints (Nat.le_trans hlen hn2) room hF bound (fun H hO hS => want w H a ns hlen hO hS)
/-! ### repr of a list -/
section
variable {X : Cx}
theorem call_repr_data (quiet : X.A.guards = some []) (hu : X.A.units + 70 < cLine) : CallR X (.builtin "repr") (fun xs H Q => ∃ a d, xs = [.ref a] ∧ Dp X.K H (.ref a) d ∧ d.showable = true ∧ d.hasDict = false ∧ d.depth ≤ 60 ∧ d.shown.length ≤ sizeLine ∧ Q (.str d.shown) H) := by
  intro pins s σ H xs us Q I r h
  obtain ⟨a, d, rfl, hd, hs, hnd, hdp, hz, q⟩ := h
  obtain ⟨u, rfl, e⟩ := vals1 r
  cases e
  obtain ⟨as, rd⟩ := Dp.reads I d _ _ hd (rfl : RelV (.ref a) (.ref a))
  exact repr_of_reads' rd hs (PyData.noDict_hsm hnd) quiet (by omega) (fun _ _ e => e) (fun h' u tk hk => ⟨.str _, H, I.kept hk, ⟨_, rfl⟩, q⟩) hz
end
end My
namespace My
open PySem L2 PyProof.Rows
section
variable {X : Cx}
/-- the least of some texts -/
theorem minD_strs : ∀ (xs : List (List Nat)) (x : List Nat), ∃ m, PySem.W.minD (.str ⟨x.toArray⟩) (xs.map fun t => PyData.str ⟨t.toArray⟩) = .str ⟨m.toArray⟩ ∧ m ∈ x :: xs ∧ ∀ t ∈ x :: xs, ¬ t < m
  | [], x => ⟨x, rfl, List.mem_cons_self, fun t ht => by
    rw [List.mem_singleton.mp ht]
    exact List.lt_irrefl _⟩
  | y :: ys, x => by
    have e : PySem.W.minD (.str ⟨x.toArray⟩) ((y :: ys).map fun t => PyData.str ⟨t.toArray⟩) = PySem.W.minD (if y < x then .str ⟨y.toArray⟩ else .str ⟨x.toArray⟩) (ys.map fun t => PyData.str ⟨t.toArray⟩) := by
      unfold PySem.W.minD
      rw [List.map_cons, List.foldl_cons]
      show List.foldl _ (if PySem.W.dataLt (.str ⟨y.toArray⟩) (.str ⟨x.toArray⟩) = true then _ else _) _ = _
      rw [PySem.W.dataLt_str]
      show List.foldl _ (if decide (y.toArray.toList < x.toArray.toList) = true then _ else _) _ = _
      rw [List.toList_toArray, List.toList_toArray]
      by_cases c : y < x
      · rw [if_pos (decide_eq_true c), if_pos c]
      · rw [if_neg (by rw [decide_eq_false c]; exact Bool.false_ne_true), if_neg c]
    by_cases c : y < x
    · rw [if_pos c] at e
      obtain ⟨m, h1, h2, h3⟩ := minD_strs ys y
      refine ⟨m, e.trans h1, List.mem_cons_of_mem _ h2, fun t ht => ?_⟩
      rcases List.mem_cons.mp ht with rfl | ht
      · intro z
        exact h3 y List.mem_cons_self (List.lt_trans c z)
      · exact h3 t ht
    · rw [if_neg c] at e
      obtain ⟨m, h1, h2, h3⟩ := minD_strs ys x
      refine ⟨m, e.trans h1, ?_, fun t ht => ?_⟩
      · rcases List.mem_cons.mp h2 with h | h
        · rw [h]; exact List.mem_cons_self
        · exact List.mem_cons_of_mem _ (List.mem_cons_of_mem _ h)
      · rcases List.mem_cons.mp ht with rfl | ht
        · exact h3 _ List.mem_cons_self
        · rcases List.mem_cons.mp ht with rfl | ht
          · intro z
            have h4 := h3 x List.mem_cons_self
            exact h4 (List.lt_of_le_of_lt (List.not_lt.mp c) z)
          · exact h3 t (List.mem_cons_of_mem _ ht)
theorem dpAll_T {K : PySem.W.Frag} {H : Hp} : ∀ l : List (List Nat), DpAll K H (l.map T) (l.map fun t => PyData.str ⟨t.toArray⟩)
  | [] => .nil
  | t :: r => .cons (.str _) (dpAll_T r)
theorem depthAll_T : ∀ l : List (List Nat), PyData.depthAll (l.map fun t => PyData.str ⟨t.toArray⟩) = 0
  | [] => rfl
  | t :: r => by
    show max 0 (PyData.depthAll (r.map fun t => PyData.str ⟨t.toArray⟩)) = 0
    rw [depthAll_T r]
    rfl
theorem cr_minS (hc : X.calm = true) (hu : X.A.units + 64 < cLine) : CallR X (.builtin "min") (fun xs H Q => ∃ a, ∃ l : List (List Nat), xs = [.ref a] ∧ SqL X.K H a (l.map T) ∧ l ≠ [] ∧ ∀ m, m ∈ l → (∀ t ∈ l, ¬ t < m) → Q (T m) H) := by
  intro pins s σ H xs us Q I r h
  obtain ⟨a, l, rfl, hs, hne, q⟩ := h
  obtain ⟨its, rv, hl, _⟩ := I.list hs
  rw [Vals.ref1 r]
  obtain ⟨as, rd⟩ := Dp.readsAll I _ _ _ (dpAll_T l) rv
  cases l with
  | nil => exact absurd rfl hne
  | cons x xs =>
    refine PySem.W.min_list_data (I.ok.hd hc) hl.isList (x := .str ⟨x.toArray⟩) (xs := xs.map fun t => PyData.str ⟨t.toArray⟩) (by simpa using rd) ⟨fun y hy z hz => ?_, fun y hy => ?_⟩ ?_ fun i v h' tk bs hi rv hk => ?_
    · obtain ⟨_, _, rfl⟩ := List.mem_map.mp (show y ∈ (x :: xs).map fun t => PyData.str ⟨t.toArray⟩ from hy)
      obtain ⟨_, _, rfl⟩ := List.mem_map.mp (show z ∈ (x :: xs).map fun t => PyData.str ⟨t.toArray⟩ from hz)
      simp only [PySem.W.alike]
    · obtain ⟨_, _, rfl⟩ := List.mem_map.mp (show y ∈ (x :: xs).map fun t => PyData.str ⟨t.toArray⟩ from hy)
      intro z
      cases z
    · have := depthAll_T (x :: xs)
      rw [List.map_cons] at this
      rw [this]
      omega
    · obtain ⟨m, h1, h2, h3⟩ := minD_strs xs x
      rw [h1] at rv
      cases rv
      exact ⟨T m, H, I.kept hk, ⟨_, rfl⟩, q m h2 h3⟩
/-- within a comprehension, over the def's own written part -/
theorem ix_listK {K : PySem.W.Frag} (h : X.K = K) : IxR X (rIxL K) := h ▸ ix_list
/-- s[::-1] -/
theorem rev_text (l : List Nat) (uk : Tok) : Txt.sliceBy ⟨l.toArray⟩ none none (-1, uk) = ⟨l.reverse.toArray⟩ := by
  unfold Txt.sliceBy
  rw [if_neg (by simp)]
  refine congrArg Str.mk ?_
  show ((Builtin.Str.strSliceIndices none none (-1) (⟨l.toArray⟩ : Str).length).filterMap (l.toArray[·]?)).toArray = _
  have e : Builtin.Str.strSliceIndices none none (-1) (⟨l.toArray⟩ : Str).length = sliceRange ((l.toArray.size : Nat) - 1 : Int) (-1) (-1) := rfl
  rw [e, PySem.W.krv_sliceRange, PySem.W.krv_range, List.filterMap_reverse, PySem.W.krv_all]
theorem pe_revS {e : Expr} {te : TE} {k : Nat} {p1 p2 p3 pos : Pos} (he : PE X e te) : PE X (.Subscript e (.Slice none none (some (.UnaryOp .USub (.Constant (.int 1) k p1) p2)) p3) pos) (fun σ H Q => te σ H fun x H1 => ∃ l, x = T l ∧ l.length ≤ 1000 ∧ Q (T l.reverse) H1) := by
  constructor
  intro pins s σ H Q I h
  refine Subscript_ (thn (he.run pins s σ H _ I h) ?_)
  rintro v s1 ⟨x, H1, I1, r1, l, rfl, hl, q⟩
  obtain ⟨t, rfl⟩ := r1
  have minus : PO X (some (.UnaryOp .USub (.Constant (.int 1) k p1) p2)) (tPart (tUn (rU fun i => .int (-i)) (tC (.int 1)))) := po_some (pe_un un_neg pe_int)
  refine wpAny_Slice (thn (po_none.run pins s1 σ H1 (fun o H2 => o = none ∧ H2 = H1) I1 ⟨rfl, rfl⟩) ?_)
  rintro vl s2 ⟨o1, H2, I2, pl, rfl, rfl⟩
  refine thn (po_none.run pins s2 σ H2 (fun o H3 => o = none ∧ H3 = H2) I2 ⟨rfl, rfl⟩) ?_
  rintro vu s3 ⟨o2, H3, I3, pu, rfl, rfl⟩
  refine thn (minus.run pins s3 σ H3 (fun o H4 => o = some (-1) ∧ H4 = H3) I3 ⟨1, rfl, -1, rfl, rfl, rfl⟩) ?_
  rintro vs s4 ⟨o3, H4, I4, ps, rfl, rfl⟩
  obtain ⟨o1, rfl, e1⟩ := IsPart.raw pl
  obtain ⟨o2, rfl, e2⟩ := IsPart.raw pu
  obtain ⟨o3, rfl, e3⟩ := IsPart.raw ps
  cases o1 with
  | some z => cases e1
  | none =>
  cases o2 with
  | some z => cases e2
  | none =>
  cases o3 with
  | none => cases e3
  | some z =>
  obtain ⟨j, uk⟩ := z
  have ej : j = -1 := Option.some.inj e3
  subst ej
  have hlen : (⟨l.toArray⟩ : Str).length = l.length := by simp [Str.length]
  have hz : (⟨l.toArray⟩ : Str).length ≤ sizeLine := by rw [hlen]; exact Nat.le_of_lt (small1000 hl)
  refine tail_any (ops := [.ref s4.heap.objs.size, .str ⟨l.toArray⟩ t]) (typeIs_str _ _ _) F.slot_str_getitem.lookup (wpAny_getItem_str_slice (l := none) (u := none) (st := some (-1, uk)) ⟨_, Heap.get?_push_size _ rfl, rfl, rfl⟩ rfl ?_) (by with_unfolding_all rfl)
  refine post_val_or_str ⟨Nat.le_trans (Txt.sliceBy_le _ none none (-1, uk) (by show (-1 : Int) ≠ 0; decide)) hz, fun t' c => ?_⟩
  have I5 : Inv X pins σ H4 { s4 with heap := s4.heap.push { cls := .type "slice", data := .fields #[.none, .none, .int (-1) uk] } } := I4.kept (t' := s4.toks) fun b ob q => Heap.get?_push_of_some _ q
  have e := rev_text l uk
  unfold Txt.sliceBy at e
  exact ⟨.str _, H4, I5.tok _, ⟨_, rfl⟩, by rw [e]; exact q⟩
end
section
variable {P : Program} {w : World} {K : PySem.W.Frag} {mg : Str → Option Value} {base : Heap}
def GoodG (P : Program) (w : World) (K : PySem.W.Frag) (mg : Str → Option Value) (base : Heap) (x : Str) (st : Stmt) (ps : List Str) (k : Nat) (sp : Sp) : Prop := ∃ (f : Addr) (fd : FuncData), FnG P w K mg base k f fd ps sp ∧ mg x = some (.ref f) ∧ PySem.W.keepIn K (.ref f) = true ∧ Binds K fd ps [] ∧ Fun K x x st f fd
theorem Def.goodG {x : Str} {st : Stmt} {ps : List Str} {k : Nat} {sp : Sp} (D : Def K mg x st ps) (h : ∀ f fd, Fun K x x st f fd → FnG P w K mg base k f fd ps sp) : GoodG P w K mg base x st ps k sp := by
  obtain ⟨f, fd, F, m, b⟩ := D
  exact ⟨f, fd, h f fd F, m, F.kp, b, F⟩
end
end My
namespace My
open PySem L2 PyProof.Rows
def topS (i : Nat) : Stmt := PySem.Challenge.pw_suretexts_k11_whole_rings_turned.main.body.getD i (.Pass ⟨0, 0, 0, 0⟩)
abbrev sis_integer : Stmt := topS 5
theorem scis_integer : FnScope ["value"] ["value"] (defScope sis_integer) := ⟨rfl, rfl, rfl, by decide +kernel, rfl, by decide +kernel, by decide +kernel⟩
abbrev sis_count : Stmt := topS 6
theorem scis_count : FnScope ["value"] ["value"] (defScope sis_count) := ⟨rfl, rfl, rfl, by decide +kernel, rfl, by decide +kernel, by decide +kernel⟩
abbrev sis_letter : Stmt := topS 7
theorem scis_letter : FnScope ["sign"] ["sign"] (defScope sis_letter) := ⟨rfl, rfl, rfl, by decide +kernel, rfl, by decide +kernel, by decide +kernel⟩
abbrev sleast_start : Stmt := topS 9
theorem scleast_start : FnScope ["cycle", "size", "one", "two", "alike", "near", "far"] ["cycle"] (defScope sleast_start) := ⟨rfl, rfl, rfl, by decide +kernel, rfl, by decide +kernel, by decide +kernel⟩
abbrev slongest_borders : Stmt := topS 10
theorem sclongest_borders : FnScope ["word", "lengths", "kept", "sign"] ["word"] (defScope slongest_borders) := ⟨rfl, rfl, rfl, by decide +kernel, rfl, by decide +kernel, by decide +kernel⟩
abbrev sis_text : Stmt := topS 13
theorem scis_text : FnScope ["value", "sign"] ["value"] (defScope sis_text) := ⟨rfl, rfl, rfl, by decide +kernel, rfl, by decide +kernel, by decide +kernel⟩
abbrev sis_ring : Stmt := topS 14
theorem scis_ring : FnScope ["value"] ["value"] (defScope sis_ring) := ⟨rfl, rfl, rfl, by decide +kernel, rfl, by decide +kernel, by decide +kernel⟩
abbrev sneed_ring : Stmt := topS 15
theorem scneed_ring : FnScope ["ring"] ["ring"] (defScope sneed_ring) := ⟨rfl, rfl, rfl, by decide +kernel, rfl, by decide +kernel, by decide +kernel⟩
abbrev sturned : Stmt := topS 16
theorem scturned : FnScope ["ring", "by"] ["ring", "by"] (defScope sturned) := ⟨rfl, rfl, rfl, by decide +kernel, rfl, by decide +kernel, by decide +kernel⟩
abbrev s_turned_to : Stmt := topS 17
theorem sc_turned_to : FnScope ["ring", "place"] ["ring", "place"] (defScope s_turned_to) := ⟨rfl, rfl, rfl, by decide +kernel, rfl, by decide +kernel, by decide +kernel⟩
abbrev splain_normal : Stmt := topS 18
theorem scplain_normal : FnScope ["ring", "place"] ["ring"] (defScope splain_normal) := ⟨rfl, rfl, rfl, by decide +kernel, rfl, by decide +kernel, by decide +kernel⟩
abbrev snormal : Stmt := topS 19
theorem scnormal : FnScope ["ring"] ["ring"] (defScope snormal) := ⟨rfl, rfl, rfl, by decide +kernel, rfl, by decide +kernel, by decide +kernel⟩
abbrev sare_alike : Stmt := topS 20
theorem scare_alike : FnScope ["ring", "other"] ["ring", "other"] (defScope sare_alike) := ⟨rfl, rfl, rfl, by decide +kernel, rfl, by decide +kernel, by decide +kernel⟩
abbrev speriod_of : Stmt := topS 21
theorem scperiod_of : FnScope ["ring", "step"] ["ring"] (defScope speriod_of) := ⟨rfl, rfl, rfl, by decide +kernel, rfl, by decide +kernel, by decide +kernel⟩
abbrev sroot_of : Stmt := topS 22
theorem scroot_of : FnScope ["ring"] ["ring"] (defScope sroot_of) := ⟨rfl, rfl, rfl, by decide +kernel, rfl, by decide +kernel, by decide +kernel⟩
abbrev s_law_pot : Stmt := topS 24
theorem sc_law_pot : FnScope ["_law_script", "_law_k", "_law_cell"] ["_law_script", "_law_k"] (defScope s_law_pot) := ⟨rfl, rfl, rfl, by decide +kernel, rfl, by decide +kernel, by decide +kernel⟩
abbrev s_law_draw : Stmt := topS 25
theorem sc_law_draw : FnScope ["_law_pot_here", "_law_size", "_law_digit"] ["_law_pot_here", "_law_size"] (defScope s_law_draw) := ⟨rfl, rfl, rfl, by decide +kernel, rfl, by decide +kernel, by decide +kernel⟩
abbrev s_law_pick : Stmt := topS 26
theorem sc_law_pick : FnScope ["_law_pot_here", "_law_some"] ["_law_pot_here", "_law_some"] (defScope s_law_pick) := ⟨rfl, rfl, rfl, by decide +kernel, rfl, by decide +kernel, by decide +kernel⟩
abbrev s_law_ring : Stmt := topS 27
theorem sc_law_ring : FnScope ["_law_pot_here", "_law_most", "_law_letters", "_law_found", "_law_turn"] ["_law_pot_here", "_law_most"] (defScope s_law_ring) := ⟨rfl, rfl, rfl, by decide +kernel, rfl, by decide +kernel, by decide +kernel⟩
abbrev s_law_round : Stmt := topS 28
theorem sc_law_round : FnScope ["_law_ring_here", "_law_place", "_law_many", "_law_found"] ["_law_ring_here", "_law_place", "_law_many"] (defScope s_law_round) := ⟨rfl, rfl, rfl, by decide +kernel, rfl, by decide +kernel, by decide +kernel⟩
abbrev s_law_ring_right : Stmt := topS 29
theorem sc_law_ring_right : FnScope ["_law_ring_here", "_law_by", "_law_rows", "_law_same", "_law_period", "_law_unlike", "_law_place", "_law_row"] ["_law_ring_here", "_law_by"] (defScope s_law_ring_right) := ⟨rfl, rfl, rfl, by decide +kernel, rfl, by decide +kernel, by decide +kernel⟩
abbrev s_law_alike_right : Stmt := topS 30
theorem sc_law_alike_right : FnScope ["_law_ring_here", "_law_other", "_law_rows", "_law_told", "_law_place"] ["_law_ring_here", "_law_other"] (defScope s_law_alike_right) := ⟨rfl, rfl, rfl, by decide +kernel, rfl, by decide +kernel, by decide +kernel⟩
abbrev slaw : Stmt := topS 31
theorem sclaw : FnScope ["_law_script", "_law_pot_here", "_law_turn", "_law_ring_here", "_law_at", "_law_bent", "_law_others", "_law_other"] ["_law_script"] (defScope slaw) := ⟨rfl, rfl, rfl, by decide +kernel, rfl, by decide +kernel, by decide +kernel⟩
structure Bs (mg : Str → Option Value) : Prop where
  isinstance : mg "isinstance" = none
  int : mg "int" = none
  bool : mg "bool" = none
  str : mg "str" = none
  len : mg "len" = none
  range : mg "range" = none
  abs : mg "abs" = none
  max : mg "max" = none
  divmod : mg "divmod" = none
  min : mg "min" = none
  dict : mg "dict" = none
  repr : mg "repr" = none
  all : mg "all" = none
structure Glo (mg : Str → Option Value) : Prop where
  MOST_LETTERS : ∃ t, mg "MOST_LETTERS" = some (.int 400 t)
/-! ### texts as lists of letters -/
def Wd (l : List Nat) : Prop := 0 < l.length ∧ l.length ≤ 100 ∧ ∀ c ∈ l, 97 ≤ c ∧ c ≤ 122
abbrev iv (L : List Nat) : List V := L.map fun n : Nat => V.int (n : Int)
theorem T_len (l : List Nat) : (⟨l.toArray⟩ : Str).length = l.length := by simp [Str.length]
theorem T_line {l : List Nat} (h : l.length ≤ 1000) : (⟨l.toArray⟩ : Str).length ≤ sizeLine := by
  rw [T_len]
  exact Nat.le_of_lt (small1000 h)
theorem T_app (a b : List Nat) : (⟨a.toArray⟩ : Str) ++ (⟨b.toArray⟩ : Str) = ⟨(a ++ b).toArray⟩ := by
  exact congrArg Str.mk (show a.toArray ++ b.toArray = (a ++ b).toArray by simp)
theorem T_inj {a b : List Nat} : T a = T b ↔ a = b := by
  constructor
  · intro h
    have h2 : (⟨a.toArray⟩ : Str) = ⟨b.toArray⟩ := V.str.inj h
    have h3 : a.toArray = b.toArray := Str.mk.inj h2
    simpa using congrArg Array.toList h3
  · rintro rfl
    rfl
theorem T_nil : Str.ofString "" = ⟨([] : List Nat).toArray⟩ := by decide +kernel
theorem at_nat {l : List Nat} {i c : Nat} (h : l[i]? = some c) : atI (⟨l.toArray⟩ : Str).cps.toList (i : Int) = some c := by
  show atI l.toArray.toList (i : Int) = some c
  exact atI_nat (by simpa using h)
theorem same_new {H : Hp} {p : Addr} (h : H p = none) (o : HO) : Same H (upd H p o) := fun b u q => by rw [upd_ne (ne_of_none q h)]; exact q
theorem cut_from {l : List Nat} {p : Nat} : cutS ⟨l.toArray⟩ (some (p : Int)) none = ⟨(l.drop p).toArray⟩ := by
  unfold cutS
  rw [T_len, HT.sIx_nat, HT.sIx_none]
  refine congrArg Str.mk ?_
  show ((l.toArray.toList.drop (min p l.length)).take (l.length - min p l.length)).toArray = _
  rw [List.toList_toArray]
  congr 1
  rw [List.take_of_length_le (by rw [List.length_drop]; omega)]
  rcases Nat.le_total p l.length with h | h
  · rw [Nat.min_eq_left h]
  · rw [Nat.min_eq_right h, List.drop_eq_nil_of_le h, List.drop_eq_nil_of_le (Nat.le_refl _)]
theorem cut_to {l : List Nat} {p : Nat} : cutS ⟨l.toArray⟩ none (some (p : Int)) = ⟨(l.take p).toArray⟩ := by
  unfold cutS
  rw [T_len, HT.sIx_nat, HT.sIx_none]
  refine congrArg Str.mk ?_
  show ((l.toArray.toList.drop 0).take (min p l.length - 0)).toArray = _
  rw [List.toList_toArray, List.drop_zero, Nat.sub_zero]
  congr 1
  rcases Nat.le_total p l.length with h | h
  · rw [Nat.min_eq_left h]
  · rw [Nat.min_eq_right h, List.take_of_length_le h, List.take_of_length_le (Nat.le_refl _)]
theorem iteNo {c A B : Prop} [Decidable c] (h : ¬ c) (b : B) : if decide c = true then A else B := by
  rw [decide_eq_false h]
  exact iteF b
theorem iteNot {c A B : Prop} [Decidable c] (h : ¬ c) (a : A) : if (!decide c) = true then A else B := by
  rw [decide_eq_false h]
  exact iteT a
theorem iteNN {c A B : Prop} [Decidable c] (h : ¬ c) (b : B) : if (!!decide c) = true then A else B := by
  rw [decide_eq_false h]
  exact iteF b
theorem of_a : Str.ofString "a" = ⟨#[97]⟩ := by decide +kernel
theorem of_z : Str.ofString "z" = ⟨#[122]⟩ := by decide +kernel
theorem not_lt_one {a b : Nat} (h : b ≤ a) : ¬ ([a] : List Nat) < [b] := by
  intro z
  rw [List.cons_lt_cons_iff] at z
  rcases z with z | ⟨_, z⟩
  · omega
  · exact absurd z (List.lt_irrefl _)
theorem iv_at {L : List Nat} {j b : Nat} (h : L[j]? = some b) : atI (iv L) (j : Int) = some (.int (b : Int)) := by
  refine atI_nat ?_
  rw [iv, List.getElem?_map, h]
  rfl
theorem iv_app (L : List Nat) (n : Nat) : iv (L ++ [n]) = iv L ++ [V.int (n : Int)] := by
  unfold iv
  rw [List.map_append]
  rfl
theorem same_upd {H H' : Hp} {p : Addr} {o : HO} (h : Same H H') (np : H p = none) : Same H (upd H' p o) := fun b u q => by
  rw [upd_ne (ne_of_none q np)]
  exact h b u q
theorem iteYes {c A B : Prop} [Decidable c] (h : c) (a : A) : if decide c = true then A else B := by
  rw [decide_eq_true h]
  exact iteT a
theorem bl_true {c : Prop} [Decidable c] {Q : VK} {H : Hp} (h : c) (q : Q (.bl true) H) : Q (.bl (decide c)) H := by
  rw [decide_eq_true h]
  exact q
section
variable {P : Program} {w : World} {K : PySem.W.Frag} {mg : Str → Option Value} {base : Heap}
def spis_integer (_ : PySem.W.Frag) : Sp := fun vs H Q _ => ∃ n : Int, vs = [.int n] ∧ Q (.bl true) H
theorem okis_integer (D : Def K mg "is_integer" sis_integer ["value"]) (B : Bs mg) (Glb : Glo mg) :
    Good P w K mg base "is_integer" sis_integer ["value"] 1 (spis_integer K) := by
  refine D.good fun f fd F => ?_
  refine F.ok scis_integer (fun vs H Q E h => ?_) (fun cdv A outer s H vs Q E hr h => ?_)
  · obtain ⟨n, rfl, q⟩ := h
    first | rfl | (rcases h with ⟨_, _, rfl, _⟩ | ⟨_, rfl, _⟩ <;> rfl)
  obtain ⟨n, rfl, q⟩ := h
  refine ⟨_, (pss_one (ps_ret (pe_and (pe_callB call_isi (by rfl) B.isinstance (by decide +kernel) (pa_cons (pv 0) (pa_cons (pe_bltn (v := .ty "int") (by rfl) B.int (by decide +kernel) rfl) pa_nil))) (pe_one (pe_not (pe_callB call_isi (by rfl) B.isinstance (by decide +kernel) (pa_cons (pv 0) (pa_cons (pe_bltn (v := .ty "bool") (by rfl) B.bool (by decide +kernel) rfl) pa_nil)))))))), ?_⟩
  exact ⟨_, rfl, _, _, _, _, true, rfl, .ty _, .base (.int n), kit_ty (by decide +kernel), _, rfl, iteT ⟨_, rfl, _, _, _, _, false, rfl, .ty _, .base (.int n), kit_ty (by decide +kernel), _, rfl, q⟩⟩
def spis_count (_ : PySem.W.Frag) : Sp := fun vs H Q _ => ∃ n : Nat, vs = [.int (n : Int)] ∧ Q (.bl true) H
theorem okis_count (D : Def K mg "is_count" sis_count ["value"]) (B : Bs mg) (Glb : Glo mg)
    (his_integer : Good P w K mg base "is_integer" sis_integer ["value"] 1 (spis_integer K)) :
    Good P w K mg base "is_count" sis_count ["value"] 2 (spis_count K) := by
  refine D.good fun f fd F => ?_
  obtain ⟨fis_integer, dis_integer, Ois_integer, mis_integer, kis_integer, bis_integer, Fis_integer⟩ := his_integer
  refine F.ok scis_count (fun vs H Q E h => ?_) (fun cdv A outer s H vs Q E hr h => ?_)
  · obtain ⟨n, rfl, q⟩ := h
    first | rfl | (rcases h with ⟨_, _, rfl, _⟩ | ⟨_, rfl, _⟩ <;> rfl)
  obtain ⟨n, rfl, q⟩ := h
  refine ⟨_, (pss_one (ps_ret (pe_and (pe_call Ois_integer hr rfl mis_integer kis_integer bis_integer .nil pass0 (pa_cons (pv 0) pa_nil)) (pe_one (pe_cmpR op_ge (pv 0) pe_int (nomark _)))))), ?_⟩
  exact ⟨_, rfl, n, rfl, _, rfl, iteT ⟨_, rfl, _, _, rfl, rfl, bl_true (by omega) q⟩⟩
def spis_letter (_ : PySem.W.Frag) : Sp := fun vs H Q _ => ∃ c : Nat, vs = [.str ⟨#[c]⟩] ∧ 97 ≤ c ∧ c ≤ 122 ∧ Q (.bl true) H
theorem okis_letter (D : Def K mg "is_letter" sis_letter ["sign"]) (B : Bs mg) (Glb : Glo mg) :
    Good P w K mg base "is_letter" sis_letter ["sign"] 1 (spis_letter K) := by
  refine D.good fun f fd F => ?_
  refine F.ok scis_letter (fun vs H Q E h => ?_) (fun cdv A outer s H vs Q E hr h => ?_)
  · obtain ⟨c, rfl, h1, h2, q⟩ := h
    first | rfl | (rcases h with ⟨_, _, rfl, _⟩ | ⟨_, rfl, _⟩ <;> rfl)
  obtain ⟨c, rfl, h1, h2, q⟩ := h
  refine ⟨_, (pss_one (ps_ret (pe_chain op_le_str op_le_str pe_str (pv 0) pe_str))), ?_⟩
  have k1 : ¬ ((⟨#[c]⟩ : Str).cps.toList < (Str.ofString "a").cps.toList) := by
    rw [of_a]
    exact not_lt_one h1
  have k2 : ¬ ((Str.ofString "z").cps.toList < (⟨#[c]⟩ : Str).cps.toList) := by
    rw [of_z]
    exact not_lt_one h2
  refine ⟨_, rfl, _, _, rfl, rfl, _, rfl, iteNot k1 ⟨_, _, rfl, rfl, ?_⟩⟩
  show Q (.bl (!decide _)) _
  rw [decide_eq_false k2]
  exact q
def spis_text (_ : PySem.W.Frag) : Sp := fun vs H Q _ => ∃ l, vs = [T l] ∧ Wd l ∧ Q (.bl true) H
theorem okis_text (D : Def K mg "is_text" sis_text ["value"]) (B : Bs mg) (Glb : Glo mg)
    (his_letter : Good P w K mg base "is_letter" sis_letter ["sign"] 1 (spis_letter K)) :
    Good P w K mg base "is_text" sis_text ["value"] 2 (spis_text K) := by
  refine D.good fun f fd F => ?_
  obtain ⟨fis_letter, dis_letter, Ois_letter, mis_letter, kis_letter, bis_letter, Fis_letter⟩ := his_letter
  refine F.ok scis_text (fun vs H Q E h => ?_) (fun cdv A outer s H vs Q E hr h => ?_)
  · obtain ⟨l, rfl, hl, q⟩ := h
    first | rfl | (rcases h with ⟨_, _, rfl, _⟩ | ⟨_, rfl, _⟩ <;> rfl)
  obtain ⟨l, rfl, hl, q⟩ := h
  refine ⟨_, (pss_cons (ps_if (PW.pt (pw_or (pt_not (pt_val (pe_callB call_isi (by rfl) B.isinstance (by decide +kernel) (pa_cons (pv 0) (pa_cons (pe_bltn (v := .ty "str") (by rfl) B.str (by decide +kernel) rfl) pa_nil))))) (pw_or1 (pt_cmpR op_gt (pe_callB call_len_str (by rfl) B.len (by decide +kernel) (pa_cons (pv 0) pa_nil)) (pe_globI Glb.MOST_LETTERS) (nomark _)))))
    (pss_one (ps_ret pe_bl)) pss_nil)
  (pss_one (ps_ret (pe_drop (pe_callB (cr_all rfl) (by rfl) B.all (by decide +kernel) (pa_cons (pe_lc (own := [("sign", 1)]) (g := gName 1) (by rfl) scis_text.nd (pi_str (pv 0)) (blkOk_by (own := [("sign", 1)]) (N := ["value", "sign"]) (sc := defScope sis_text) (by decide +kernel)) (fun _ _ _ _ _ => (pg_name (i := 1) scis_text.nd rfl (by first | exact Or.inl rfl | exact Or.inr rfl))) (fun _ _ _ _ _ => pts_nil) (fun _ _ _ _ _ => (pe_call Ois_letter hr rfl mis_letter kis_letter bis_letter .nil pass0 (pa_cons (pv 1) pa_nil)))) pa_nil)))))), ?_⟩
  have hlen := hl.2.1
  refine ⟨_, rfl, _, _, _, _, true, rfl, .ty _, .base (.str _), kit_ty (by decide +kernel), _, rfl, iteF ⟨_, rfl, _, rfl, T_line (by omega), _, _, rfl, rfl, _, rfl, iteNo (by rw [T_len]; omega) ?_⟩⟩
  refine ⟨_, rfl, _, rfl, fun D nD => lc_it walk_str (fun i H' => H' = upd H D (.lst ((List.replicate i true).map V.bl))) rfl (fun _ _ _ _ => trivial) ?_ ?_⟩
  · rintro i y H1 H2 hi rfl ⟨rfl, c, hc, rfl⟩
    have hm := hl.2.2 c (by
      have := Array.mem_of_getElem? hc
      simpa using this)
    refine ⟨rfl, _, rfl, c, rfl, hm.1, hm.2, _, upd_same, ?_, ?_⟩
    · rw [List.length_map, List.length_replicate]
      have hi2 : i < (⟨l.toArray⟩ : Str).length := hi
      exact Nat.lt_of_lt_of_le (by rw [T_len] at hi2; omega : i < 1000) (by decide)
    · rw [upd_upd, List.replicate_succ', List.map_append]
      rfl
  · rintro H1 rfl
    refine ⟨D, _, rfl, SqL.of upd_same, D, _, H, rfl, nD, bl_is1 ?_ q⟩
    rw [List.all_eq_true]
    intro b hb
    rw [List.eq_of_mem_replicate hb]
    rfl
def spis_ring (_ : PySem.W.Frag) : Sp := fun vs H Q _ => ∃ l, vs = [T l] ∧ Wd l ∧ Q (.bl true) H
theorem okis_ring (D : Def K mg "is_ring" sis_ring ["value"]) (B : Bs mg) (Glb : Glo mg)
    (his_text : Good P w K mg base "is_text" sis_text ["value"] 2 (spis_text K)) :
    Good P w K mg base "is_ring" sis_ring ["value"] 3 (spis_ring K) := by
  refine D.good fun f fd F => ?_
  obtain ⟨fis_text, dis_text, Ois_text, mis_text, kis_text, bis_text, Fis_text⟩ := his_text
  refine F.ok scis_ring (fun vs H Q E h => ?_) (fun cdv A outer s H vs Q E hr h => ?_)
  · obtain ⟨l, rfl, hl, q⟩ := h
    first | rfl | (rcases h with ⟨_, _, rfl, _⟩ | ⟨_, rfl, _⟩ <;> rfl)
  obtain ⟨l, rfl, hl, q⟩ := h
  refine ⟨_, (pss_one (ps_ret (pe_and (pe_call Ois_text hr rfl mis_text kis_text bis_text .nil pass0 (pa_cons (pv 0) pa_nil)) (pe_one (pe_cmpR op_ne (pv 0) pe_str (nomark _)))))), ?_⟩
  refine ⟨_, rfl, l, rfl, hl, _, rfl, iteT ⟨_, rfl, rfl, ?_⟩⟩
  have e : ¬ (T l = V.str (Str.ofString "")) := by
    rw [T_nil, T_inj]
    intro z
    have := hl.1
    rw [z] at this
    exact absurd this (by decide)
  show Q (.bl (!decide (T l = V.str (Str.ofString "")))) H
  rw [decide_eq_false e]
  exact q
def spneed_ring (_ : PySem.W.Frag) : Sp := fun vs H Q _ => ∃ l, vs = [T l] ∧ Wd l ∧ Q .non H
theorem okneed_ring (D : Def K mg "need_ring" sneed_ring ["ring"]) (B : Bs mg) (Glb : Glo mg)
    (his_ring : Good P w K mg base "is_ring" sis_ring ["value"] 3 (spis_ring K)) :
    Good P w K mg base "need_ring" sneed_ring ["ring"] 4 (spneed_ring K) := by
  refine D.good fun f fd F => ?_
  obtain ⟨fis_ring, dis_ring, Ois_ring, mis_ring, kis_ring, bis_ring, Fis_ring⟩ := his_ring
  refine F.ok scneed_ring (fun vs H Q E h => ?_) (fun cdv A outer s H vs Q E hr h => ?_)
  · obtain ⟨l, rfl, hl, q⟩ := h
    first | rfl | (rcases h with ⟨_, _, rfl, _⟩ | ⟨_, rfl, _⟩ <;> rfl)
  obtain ⟨l, rfl, hl, q⟩ := h
  refine ⟨_, (pss_one (ps_if (pt_not (pt_val (pe_call Ois_ring hr rfl mis_ring kis_ring bis_ring .nil pass0 (pa_cons (pv 0) pa_nil))))
    (pss_one ps_never) pss_nil)), ?_⟩
  exact ⟨_, rfl, l, rfl, hl, _, rfl, iteF q⟩
def sp_turned_to (_ : PySem.W.Frag) : Sp := fun vs H Q _ => ∃ l, ∃ p : Nat, vs = [T l, .int (p : Int)] ∧ Wd l ∧ p < l.length ∧ Q (T (rd l p l.length)) H
theorem ok_turned_to (D : Def K mg "_turned_to" s_turned_to ["ring", "place"]) (B : Bs mg) (Glb : Glo mg) :
    Good P w K mg base "_turned_to" s_turned_to ["ring", "place"] 1 (sp_turned_to K) := by
  refine D.good fun f fd F => ?_
  refine F.ok sc_turned_to (fun vs H Q E h => ?_) (fun cdv A outer s H vs Q E hr h => ?_)
  · obtain ⟨l, p, rfl, hl, hp, q⟩ := h
    first | rfl | (rcases h with ⟨_, _, rfl, _⟩ | ⟨_, rfl, _⟩ <;> rfl)
  obtain ⟨l, p, rfl, hl, hp, q⟩ := h
  refine ⟨_, (pss_one (ps_ret (pe_op op_add_str (pe_slice sl_str (pv 0) (po_some (pv 1)) po_none) (pe_slice sl_str (pv 0) po_none (po_some (pv 1)))))), ?_⟩
  have hlen := hl.2.1
  refine ⟨_, rfl, _, rfl, _, rfl, _, rfl, T_line (by omega), _, rfl, _, rfl, _, rfl, _, rfl, T_line (by omega), _, _, rfl, rfl, ?_⟩
  rw [cut_from, cut_to, T_app, ← rd_turn l p hp]
  exact ⟨by rw [T_len, T_len, List.length_drop, List.length_take]; exact Nat.le_of_lt (small1000 (by omega)), q⟩
def spturned (_ : PySem.W.Frag) : Sp := fun vs H Q _ => ∃ l, ∃ b : Nat, vs = [T l, .int (b : Int)] ∧ Wd l ∧ Q (T (rd l b l.length)) H
theorem okturned (D : Def K mg "turned" sturned ["ring", "by"]) (B : Bs mg) (Glb : Glo mg)
    (hneed_ring : Good P w K mg base "need_ring" sneed_ring ["ring"] 4 (spneed_ring K))
    (h_turned_to : Good P w K mg base "_turned_to" s_turned_to ["ring", "place"] 1 (sp_turned_to K))
    (his_count : Good P w K mg base "is_count" sis_count ["value"] 2 (spis_count K)) :
    Good P w K mg base "turned" sturned ["ring", "by"] 5 (spturned K) := by
  refine D.good fun f fd F => ?_
  obtain ⟨fneed_ring, dneed_ring, Oneed_ring, mneed_ring, kneed_ring, bneed_ring, Fneed_ring⟩ := hneed_ring
  obtain ⟨f_turned_to, d_turned_to, O_turned_to, m_turned_to, k_turned_to, b_turned_to, F_turned_to⟩ := h_turned_to
  obtain ⟨fis_count, dis_count, Ois_count, mis_count, kis_count, bis_count, Fis_count⟩ := his_count
  refine F.ok scturned (fun vs H Q E h => ?_) (fun cdv A outer s H vs Q E hr h => ?_)
  · obtain ⟨l, b, rfl, hl, q⟩ := h
    first | rfl | (rcases h with ⟨_, _, rfl, _⟩ | ⟨_, rfl, _⟩ <;> rfl)
  obtain ⟨l, b, rfl, hl, q⟩ := h
  refine ⟨_, (pss_cons (ps_expr (pe_call Oneed_ring hr rfl mneed_ring kneed_ring bneed_ring .nil pass0 (pa_cons (pv 0) pa_nil)))
  (pss_cons (ps_if (pt_not (pt_val (pe_call Ois_count (hr.mono (by decide)) rfl mis_count kis_count bis_count .nil pass0 (pa_cons (pv 1) pa_nil))))
    (pss_one ps_never) pss_nil)
  (pss_one (ps_ret (pe_call O_turned_to (hr.mono (by decide)) rfl m_turned_to k_turned_to b_turned_to .nil pass0 (pa_cons (pv 0) (pa_cons (pe_op op_mod (pv 1) (pe_callB call_len_str (by rfl) B.len (by decide +kernel) (pa_cons (pv 0) pa_nil))) pa_nil))))))), ?_⟩
  have hlen := hl.2.1
  have h0 := hl.1
  refine ⟨_, rfl, l, rfl, hl, _, rfl, b, rfl, _, rfl, iteF ?_⟩
  refine ⟨_, rfl, _, rfl, _, rfl, _, rfl, T_line (by omega), _, _, rfl, rfl, (by rw [T_len]; omega), l, b % l.length, ?_, hl, Nat.mod_lt _ h0, ?_⟩
  · rw [T_len]
    rfl
  · rw [rd_mod]
    exact q
def splongest_borders (_ : PySem.W.Frag) : Sp := fun vs H Q _ => ∃ l, vs = [T l] ∧ Wd l ∧ ∀ L p H', Bords l L → Same H H' → H p = none → H' p = some (.lst (iv L)) → Q (.ref p) H'
theorem oklongest_borders (D : Def K mg "longest_borders" slongest_borders ["word"]) (B : Bs mg) (Glb : Glo mg) :
    Good P w K mg base "longest_borders" slongest_borders ["word"] 1 (splongest_borders K) := by
  refine D.good fun f fd F => ?_
  refine F.ok sclongest_borders (fun vs H Q E h => ?_) (fun cdv A outer s H vs Q E hr h => ?_)
  · obtain ⟨l, rfl, hl, q⟩ := h
    first | rfl | (rcases h with ⟨_, _, rfl, _⟩ | ⟨_, rfl, _⟩ <;> rfl)
  obtain ⟨l, rfl, hl, q⟩ := h
  refine ⟨_, (pss_cons (ps_set (i := 1) sclongest_borders.nd rfl (by first | exact Or.inl rfl | exact Or.inr rfl) (pe_lst (pa_cons pe_int pa_nil)))
  (pss_cons (ps_set (i := 2) sclongest_borders.nd rfl (by first | exact Or.inl rfl | exact Or.inr rfl) pe_int)
  (pss_cons (ps_for PassesOwn.never rfl (pi_str (pe_slice sl_str (pv 0) (po_some pe_int) po_none)) (pg_name (i := 3) sclongest_borders.nd rfl (by first | exact Or.inl rfl | exact Or.inr rfl))
    (pss_cons (ps_while PassesOwn.never (PW.pt (pw_and (pt_cmpR op_gt (pv 2) pe_int (nomark _)) (pw_and1 (pt_cmpR op_ne (pe_ix ix_str (pv 0) (pv 2) (fun _ _ => rfl)) (pv 3) (nomark _)))))
    (pss_one (ps_set (i := 2) sclongest_borders.nd rfl (by first | exact Or.inl rfl | exact Or.inr rfl) (pe_ix ix_list (pv 1) (pe_op op_sub (pv 2) pe_int) (fun _ _ => rfl)))))
  (pss_cons (ps_if (pt_cmpR op_eq (pe_ix ix_str (pv 0) (pv 2) (fun _ _ => rfl)) (pv 3) (nomark _))
    (pss_one (ps_aug (i := 2) sclongest_borders.nd rfl (by first | exact Or.inl rfl | exact Or.inr rfl) pe_int ip_add)) pss_nil)
  (pss_one (ps_expr (pe_bm PySem.F.plainAttrs_list PySem.F.slot_list_append PySem.F.type_list_append mt_append (pv 1) (pa_cons (pv 2) pa_nil)))))))
  (pss_one (ps_ret (pv 1)))))), ?_⟩
  have hlen := hl.2.1
  have h0 := hl.1
  refine ⟨(by show 1 ≤ sizeLine; decide), fun p np => ?_⟩
  refine ⟨_, rfl, _, rfl, _, rfl, T_line (by omega), ?_⟩
  rw [show cutS ⟨l.toArray⟩ (some (1 : Int)) none = ⟨(l.drop 1).toArray⟩ from cut_from (p := 1)]
  have hsz : (⟨(l.drop 1).toArray⟩ : Str).cps.size = l.length - 1 := by
    show (l.drop 1).toArray.size = _
    rw [List.size_toArray, List.length_drop]
  refine ⟨_, rfl, for_it walk_str (fun i σ H' => ∃ (L : List Nat) (k : Nat) (v : Option V), σ = [some (T l), some (.ref p), some (.int (k : Int)), v] ∧ BordsTo l (i + 1) L ∧ Longest l ((l.drop 1).take i) k ∧ Same H H' ∧ H' p = some (.lst (iv L)))
    ⟨[0], 0, none, rfl, bordsTo_one h0, by simpa using longest_nil l, same_new np _, upd_same⟩ (fun _ _ _ _ _ => trivial) ?_ ?_⟩
  · rintro i x σ H1 H2 hi ⟨L, k, v, rfl, hB, hL, hS, hp⟩ ⟨rfl, c, hc, rfl⟩
    rw [hsz] at hi
    have hci : (l.drop 1)[i]? = some c := by
      have : (l.drop 1).toArray[i]? = some c := hc
      simpa using this
    have hki := longest_le hL
    rw [List.length_take, List.length_drop] at hki
    -- while kept > 0 and word[kept] != sign
    refine ⟨fun m σ H' => ∃ k : Nat, m = k ∧ σ = [some (T l), some (.ref p), some (.int (k : Int)), some (T [c])] ∧ At l ((l.drop 1).take i) c k ∧ k ≤ i ∧ H' = H2, ⟨k, k, rfl, rfl, at_start hL, by omega, rfl⟩, ?_⟩
    rintro m σ H' ⟨k, rfl, rfl, hA, hk, rfl⟩
    refine ⟨_, rfl, _, _, rfl, rfl, _, rfl, ?_⟩
    refine ite2 (fun c1 => ?pos) (fun c1 => ?neg)
    case' pos =>
      have hpos : (0 : Int) < (m : Int) := of_decide_eq_true c1
      have e := getD_lt (l := l) (i := m) (by omega)
      refine ⟨_, rfl, _, rfl, _, _, _, rfl, rfl, T_line (by omega), at_nat e, _, rfl, rfl, _, rfl, ?_⟩
      refine ite2 (fun c2 => ?_) (fun c2 => ?_)
      · have hne : l[m]? ≠ some c := by
          rw [e]
          intro z
          rw [Option.some.inj z] at c2
          simp at c2
        obtain ⟨b, eb, lb, hlt⟩ := bordsTo_at hB (k := m) (by omega) (by omega)
        refine ⟨fun σ' H'' => ∃ k' : Nat, k' < m ∧ σ' = [some (T l), some (.ref p), some (.int (k' : Int)), some (T [c])] ∧ At l ((l.drop 1).take i) c k' ∧ k' ≤ i ∧ H'' = H', fun σ' H'' ⟨k', h, e⟩ => ⟨k', h, k', rfl, e⟩, ?_⟩
        refine ⟨_, rfl, _, rfl, _, _, rfl, rfl, _, _, _, .int (b : Int), rfl, rfl, SqL.of hp, ?_, ?_⟩
        · rw [show (m : Int) - 1 = ((m - 1 : Nat) : Int) by omega]
          exact iv_at eb
        · exact ⟨b, hlt, rfl, at_fall hA hne lb, by omega, rfl⟩
      have fin : m = 0 ∨ l[m]? = some c := by
        right
        rw [e]
        have c3 : T [l.getD m 0] = T [c] := by
          have := Bool.eq_false_iff.mpr c2
          simpa using this
        have := T_inj.mp c3
        simpa using this
    case' neg =>
      have fin : m = 0 ∨ l[m]? = some c := .inl (by
        have : ¬ ((0 : Int) < (m : Int)) := of_decide_eq_false (Bool.eq_false_iff.mpr c1)
        omega)
    all_goals
      have e := getD_lt (l := l) (i := m) (by omega)
      have etk : (l.drop 1).take (i + 1) = (l.drop 1).take i ++ [c] := by
        rw [List.take_add_one, hci]
        rfl
      have hli : i + 1 < l.length := by omega
      have hL2 : L.length = i + 1 := hB.1
      refine ⟨_, rfl, _, rfl, _, _, _, rfl, rfl, T_line (by omega), at_nat e, _, rfl, rfl, _, rfl, ?_⟩
      refine ite2 (fun c2 => ?_) (fun c2 => ?_)
      · have he : l[m]? = some c := by
          rw [e]
          have c3 : T [l.getD m 0] = T [c] := of_decide_eq_true c2
          have := T_inj.mp c3
          simpa using this
        refine ⟨_, rfl, _, _, rfl, rfl, _, rfl, .inl ⟨rfl, _, SqL.of hp⟩, _, rfl, _, _, _, rfl, rfl, hp, ?_, ?_⟩
        · rw [List.length_map, hL2]
          exact small1000 (by omega)
        · have hL3 : Longest l ((l.drop 1).take (i + 1)) (m + 1) := by
            rw [etk]
            exact at_hit hA he
          refine ⟨L ++ [m + 1], m + 1, _, rfl, bordsTo_succ hli hB hL3, hL3, same_upd hS np, ?_⟩
          exact upd_same.trans (congrArg (fun z => some (HO.lst z)) (iv_app _ _).symm)
      · have hne : l[m]? ≠ some c := by
          rw [e]
          intro z
          rw [Option.some.inj z] at c2
          simp at c2
        have hm0 : m = 0 := by
          rcases fin with h | h
          · exact h
          · exact absurd h hne
        subst hm0
        refine ⟨_, rfl, .inl ⟨rfl, _, SqL.of hp⟩, _, rfl, _, _, _, rfl, rfl, hp, ?_, ?_⟩
        · rw [List.length_map, hL2]
          exact small1000 (by omega)
        · have hL3 : Longest l ((l.drop 1).take (i + 1)) 0 := by
            rw [etk]
            exact at_miss hA hne
          refine ⟨L ++ [0], 0, _, rfl, bordsTo_succ hli hB hL3, hL3, same_upd hS np, ?_⟩
          exact upd_same.trans (congrArg (fun z => some (HO.lst z)) (iv_app _ _).symm)
  · rintro σ H1 ⟨L, k, v, rfl, hB, hL, hS, hp⟩
    rw [hsz] at hB
    exact ⟨_, rfl, q L p H1 (by rw [show l.length - 1 + 1 = l.length by omega] at hB; exact hB) hS np hp⟩
end
end My
namespace My
open PySem L2 PyProof.Rows
theorem iv_last {L : List Nat} {b : Nat} (h : L[L.length - 1]? = some b) : atI (iv L) (-1) = some (.int (b : Int)) := by
  rw [← List.getLast?_eq_getElem?, List.getLast?_eq_some_iff] at h
  obtain ⟨ys, e⟩ := h
  rw [e, iv_app]
  exact atI_last _ _
theorem join_T (l : List Nat) : Txt.join (Str.ofString "") (l.map fun c => (⟨#[c]⟩ : Str)) = ⟨l.toArray⟩ := by
  unfold Txt.join
  rw [PySem.StrLaws.glued_eq_join, T_nil]
  exact join_nil_signs ⟨l.toArray⟩
theorem ones_len (l : List Nat) : ((l.map fun c => (⟨#[c]⟩ : Str)).map (·.length)).sum = l.length := by
  induction l with
  | nil => rfl
  | cons a r ih =>
    rw [List.map_cons, List.map_cons, List.sum_cons, ih, List.length_cons]
    show 1 + r.length = r.length + 1
    omega
theorem int_eq {a b : Int} : V.int a = V.int b ↔ a = b := ⟨fun h => V.int.inj h, fun h => by rw [h]⟩
def PotOk (x y : Int) : Prop := 0 ≤ x ∧ 0 ≤ y ∧ y < 2147483588
def PotAt (H : Hp) (a : Addr) : Prop := ∃ x y : Int, H a = some (.lst [.int x, .int y]) ∧ PotOk x y
/-- all but what stands at a is as it was -/
def Kept (a : Addr) (H H' : Hp) : Prop := ∀ b o, H b = some o → b ≠ a → H' b = some o
theorem Kept.trans {a : Addr} {H H1 H2 : Hp} (h : Kept a H H1) (h2 : Kept a H1 H2) : Kept a H H2 := fun b o e n => h2 b o (h b o e n) n
theorem Same.kept {a : Addr} {H H' : Hp} (h : Same H H') : Kept a H H' := fun b o e _ => h b o e
theorem Kept.seq {K : PySem.W.Frag} {a l : Addr} {xs : List V} {H H' : Hp} (h : Kept a H H') (hn : l ≠ a) (q : H l = some (.lst xs)) : H' l = some (.lst xs) := h l _ q hn
section
variable {P : Program} {w : World} {K : PySem.W.Frag} {mg : Str → Option Value} {base : Heap}
def spperiod_of (_ : PySem.W.Frag) : Sp := fun vs H Q _ => ∃ l, vs = [T l] ∧ Wd l ∧ ∀ b H', IsLB l b → Same H H' → Q (.int (per l b : Int)) H'
theorem okperiod_of (D : Def K mg "period_of" speriod_of ["ring"]) (B : Bs mg) (Glb : Glo mg)
    (hneed_ring : Good P w K mg base "need_ring" sneed_ring ["ring"] 4 (spneed_ring K))
    (hlongest_borders : Good P w K mg base "longest_borders" slongest_borders ["word"] 1 (splongest_borders K)) :
    Good P w K mg base "period_of" speriod_of ["ring"] 5 (spperiod_of K) := by
  refine D.good fun f fd F => ?_
  obtain ⟨fneed_ring, dneed_ring, Oneed_ring, mneed_ring, kneed_ring, bneed_ring, Fneed_ring⟩ := hneed_ring
  obtain ⟨flongest_borders, dlongest_borders, Olongest_borders, mlongest_borders, klongest_borders, blongest_borders, Flongest_borders⟩ := hlongest_borders
  refine F.ok scperiod_of (fun vs H Q E h => ?_) (fun cdv A outer s H vs Q E hr h => ?_)
  · obtain ⟨l, rfl, hl, q⟩ := h
    first | rfl | (rcases h with ⟨_, _, rfl, _⟩ | ⟨_, rfl, _⟩ <;> rfl)
  obtain ⟨l, rfl, hl, q⟩ := h
  refine ⟨_, (pss_cons (ps_expr (pe_call Oneed_ring hr rfl mneed_ring kneed_ring bneed_ring .nil pass0 (pa_cons (pv 0) pa_nil)))
  (pss_cons (ps_set (i := 1) scperiod_of.nd rfl (by first | exact Or.inl rfl | exact Or.inr rfl) (pe_op op_sub (pe_callB call_len_str (by rfl) B.len (by decide +kernel) (pa_cons (pv 0) pa_nil)) (pe_ix ix_list (pe_call Olongest_borders (hr.mono (by decide)) rfl mlongest_borders klongest_borders blongest_borders .nil pass0 (pa_cons (pv 0) pa_nil)) (pe_un un_neg pe_int) (fun _ _ => rfl))))
  (pss_one (ps_ret (pe_ifExp (pt_cmpR op_eq (pe_op op_mod (pe_callB call_len_str (by rfl) B.len (by decide +kernel) (pa_cons (pv 0) pa_nil)) (pv 1)) pe_int (nomark _)) (pv 1) (pe_callB call_len_str (by rfl) B.len (by decide +kernel) (pa_cons (pv 0) pa_nil))))))), ?_⟩
  have hlen := hl.2.1
  have h0 := hl.1
  refine ⟨_, rfl, l, rfl, hl, _, rfl, _, rfl, T_line (by omega), _, rfl, l, rfl, hl, fun L p H1 hB hS np hp => ?_⟩
  obtain ⟨b, eb, lb⟩ := hB.2 (l.length - 1) (by omega)
  rw [show l.length - 1 + 1 = l.length by omega, List.take_length] at lb
  have hb := lb.1
  have hL : L.length = l.length := hB.1
  refine ⟨_, rfl, _, _, _, .int (b : Int), rfl, rfl, SqL.of hp, ?_, _, _, rfl, rfl, ?_⟩
  · exact iv_last (by rw [hL]; exact eb)
  dsimp only
  rw [T_len, show ((l.length : Nat) : Int) - (b : Int) = ((l.length - b : Nat) : Int) by omega]
  refine ⟨_, rfl, _, rfl, T_line (by omega), _, rfl, _, _, rfl, rfl, (by show (0 : Int) < ((l.length - b : Nat) : Int); omega), rfl, _, rfl, ?_⟩
  have hper : Q (V.int ((per l b : Nat) : Int)) H1 := q b H1 lb hS
  have em : ((((⟨l.toArray⟩ : Str).length : Nat) : Int) % ((l.length - b : Nat) : Int)) = ((l.length % (l.length - b) : Nat) : Int) := by
    rw [T_len]
    rfl
  refine ite2 (fun c => ?_) (fun c => ?_)
  · have c2 : ((((⟨l.toArray⟩ : Str).length : Nat) : Int) % ((l.length - b : Nat) : Int)) = 0 := int_eq.mp (of_decide_eq_true c)
    rw [em] at c2
    unfold per at hper
    rw [if_pos (by omega)] at hper
    exact ⟨_, rfl, hper⟩
  · have c2 : ¬ V.int ((((⟨l.toArray⟩ : Str).length : Nat) : Int) % ((l.length - b : Nat) : Int)) = V.int 0 := of_decide_eq_false (Bool.eq_false_iff.mpr c)
    rw [int_eq, em] at c2
    unfold per at hper
    rw [if_neg (by omega)] at hper
    refine ⟨_, rfl, _, rfl, T_line (by omega), ?_⟩
    rw [T_len]
    exact hper
def sp_law_pot (K : PySem.W.Frag) : Sp := fun vs H Q _ => ∃ a, ∃ ns : List Int, vs = [.ref a, .int 0] ∧ SqL K H a (ns.map V.int) ∧ ∀ p H', PotAt H' p → Same H H' → H p = none → Q (.ref p) H'
theorem ok_law_pot (D : Def K mg "_law_pot" s_law_pot ["_law_script", "_law_k"]) (B : Bs mg) (Glb : Glo mg) :
    Good P w K mg base "_law_pot" s_law_pot ["_law_script", "_law_k"] 1 (sp_law_pot K) := by
  refine D.good fun f fd F => ?_
  refine F.ok sc_law_pot (fun vs H Q E h => ?_) (fun cdv A outer s H vs Q E hr h => ?_)
  · obtain ⟨a, ns, rfl, hS, q⟩ := h
    first | rfl | (rcases h with ⟨_, _, rfl, _⟩ | ⟨_, rfl, _⟩ <;> rfl)
  obtain ⟨a, ns, rfl, hS, q⟩ := h
  refine ⟨_, (pss_cons (ps_set (i := 2) sc_law_pot.nd rfl (by first | exact Or.inl rfl | exact Or.inr rfl) (pe_op op_add (pe_op op_mul pe_int (pv 1)) pe_int))
  (pss_cons (ps_if (pt_cmpR op_lt (pv 1) (pe_callB call_len_seq (by rfl) B.len (by decide +kernel) (pa_cons (pv 0) pa_nil)) (nomark _))
    (pss_one (ps_set (i := 2) sc_law_pot.nd rfl (by first | exact Or.inl rfl | exact Or.inr rfl) (pe_callB call_abs (by rfl) B.abs (by decide +kernel) (pa_cons (pe_ix ix_list (pv 0) (pv 1) (fun _ _ => rfl)) pa_nil)))) pss_nil)
  (pss_one (ps_ret (pe_lst (pa_cons (pe_callB (call_max2 rfl) (by rfl) B.max (by decide +kernel) (pa_cons pe_int (pa_cons (pe_op op_sub (pv 2) (pe_op op_pow pe_int pe_int)) pa_nil))) (pa_cons (pe_op op_add (pe_op op_mod (pe_callTy call_int1 (by rfl) B.int (by decide +kernel) (pa_cons (pe_op op_add (pe_op op_mul (pe_op op_mod (pe_callTy call_int1 (by rfl) B.int (by decide +kernel) (pa_cons (pv 2) pa_nil)) pe_int) (pe_op op_add (pe_op op_mul pe_int (pv 1)) pe_int)) pe_int) pa_nil)) pe_int) pe_int) pa_nil))))))), ?_⟩
  refine ⟨_, rfl, _, _, rfl, rfl, .inl ⟨by decide, by decide⟩, _, _, rfl, rfl, ?_⟩
  refine ⟨_, rfl, _, rfl, _, _, rfl, .inl hS, _, _, rfl, rfl, _, rfl, ?_⟩
  refine ite2 (fun c1 => ?pos) (fun c1 => ?neg)
  case' pos =>
    obtain ⟨n, rest, rfl⟩ : ∃ n rest, ns = n :: rest := by
      cases ns with
      | nil => exact absurd (of_decide_eq_true c1) (by decide)
      | cons n rest => exact ⟨n, rest, rfl⟩
    refine ⟨_, rfl, _, rfl, _, _, _, .int n, rfl, rfl, hS, atI_nat (j := 0) rfl, _, rfl, ?_⟩
    have hz0 : (0 : Int) ≤ (if n < 0 then -n else n) := by split <;> omega
  case' neg =>
    have hz0 : (0 : Int) ≤ (1063 * 0 + 773) := by decide
  all_goals
    refine ⟨_, rfl, _, _, rfl, rfl, ⟨by decide, by decide, by decide⟩, _, _, rfl, rfl, _, _, rfl, _, rfl, .inl ⟨_, rfl, _, _, rfl, rfl, (by show (0 : Int) < 2147483549; decide), _, rfl, _, _, rfl, rfl, .inl ⟨by decide, by decide⟩, _, _, rfl, rfl, _, _, rfl, rfl, .inl ⟨?_, ?_⟩, _, _, rfl, rfl, .inl ⟨_, rfl, _, _, rfl, rfl, (by show (0 : Int) < 2147483543; decide), _, _, rfl, rfl, (by show 2 ≤ sizeLine; decide), fun p np => ?_⟩⟩⟩
    · omega
    · omega
    · refine q p _ ⟨_, _, upd_same, ?_, ?_, ?_⟩ (same_new np _) np
      · split <;> omega
      · omega
      · omega
def sp_law_draw (_ : PySem.W.Frag) : Sp := fun vs H Q _ => ∃ a n, vs = [.ref a, .int ((n : Nat) : Int)] ∧ PotAt H a ∧ 0 < n ∧ n ≤ 1000 ∧ ∀ (d : Nat) H', d < n → Kept a H H' → PotAt H' a → Q (.int (d : Int)) H'
theorem ok_law_draw (D : Def K mg "_law_draw" s_law_draw ["_law_pot_here", "_law_size"]) (B : Bs mg) (Glb : Glo mg) :
    Good P w K mg base "_law_draw" s_law_draw ["_law_pot_here", "_law_size"] 1 (sp_law_draw K) := by
  refine D.good fun f fd F => ?_
  refine F.ok sc_law_draw (fun vs H Q E h => ?_) (fun cdv A outer s H vs Q E hr h => ?_)
  · obtain ⟨a, n, rfl, ⟨x, y, ha, hx, hy, hy2⟩, hn, hn2, q⟩ := h
    first | rfl | (rcases h with ⟨_, _, rfl, _⟩ | ⟨_, rfl, _⟩ <;> rfl)
  obtain ⟨a, n, rfl, ⟨x, y, ha, hx, hy, hy2⟩, hn, hn2, q⟩ := h
  refine ⟨_, (pss_cons (ps_if (pt_cmpR op_gt (pe_ix ix_list (pv 0) pe_int (fun _ _ => rfl)) pe_int (nomark _))
    (pss_cons (ps_asg (pe_callB call_divmod (by rfl) B.divmod (by decide +kernel) (pa_cons (pe_ix ix_list (pv 0) pe_int (fun _ _ => rfl)) (pa_cons (pv 1) pa_nil))) (pg_tup rfl (pgs_cons (pg_sub (pv 0) pe_int set_list) (pgs_cons (pg_name (i := 2) sc_law_draw.nd rfl (by first | exact Or.inl rfl | exact Or.inr rfl)) pgs_nil))))
  (pss_one (ps_ret (pv 2)))) pss_nil)
  (pss_cons (ps_asg (pe_op op_mod (pe_callTy call_int1 (by rfl) B.int (by decide +kernel) (pa_cons (pe_op op_add (pe_op op_mul (pe_ix ix_list (pv 0) pe_int (fun _ _ => rfl)) pe_int) pe_int) pa_nil)) pe_int) (pg_sub (pv 0) pe_int set_list))
  (pss_one (ps_ret (pe_op op_mod (pe_callTy call_int1 (by rfl) B.int (by decide +kernel) (pa_cons (pe_op op_fdiv (pe_op op_mod (pe_callTy call_int1 (by rfl) B.int (by decide +kernel) (pa_cons (pe_op op_mul (pe_ix ix_list (pv 0) pe_int (fun _ _ => rfl)) (pe_ix ix_list (pv 0) pe_int (fun _ _ => rfl))) pa_nil)) pe_int) pe_int) pa_nil)) (pv 1)))))), ?_⟩
  refine ⟨_, rfl, _, _, _, .int x, rfl, rfl, SqL.of ha, rfl, _, _, rfl, rfl, _, rfl, ?_⟩
  refine ite2 (fun c1 => ?_) (fun c1 => ?_)
  · have hpos : (0 : Int) < x := of_decide_eq_true c1
    refine ⟨_, rfl, _, _, _, .int x, rfl, rfl, SqL.of ha, rfl, _, rfl, _, _, rfl, ⟨by omega, by omega⟩, fun p np => ?_⟩
    have hpa : a ≠ p := ne_of_none ha np
    have ha' : (upd H p (.tup [.int (x / (n : Int)), .int (x % (n : Int))])) a = some (.lst [.int x, .int y]) := by
      rw [upd_ne hpa]
      exact ha
    have ed : (((x % (n : Int)).toNat : Nat) : Int) = x % (n : Int) := Int.toNat_of_nonneg (Int.emod_nonneg _ (by omega))
    have el := Int.emod_lt_of_pos x (show (0 : Int) < (n : Int) by omega)
    refine ⟨_, _, rfl, SqT.of upd_same, rfl, _, _, rfl, _, rfl, _, _, _, 0, rfl, rfl, ha', rfl, _, _, rfl, rfl, ?_⟩
    refine ⟨_, rfl, ?_⟩
    have := q (x % (n : Int)).toNat (upd (upd H p (.tup [.int (x / (n : Int)), .int (x % (n : Int))])) a (.lst [.int (x / (n : Int)), .int y])) (by omega) (fun b o e nb => by rw [upd_ne nb, upd_ne (ne_of_none e np)]; exact e)
      ⟨_, _, upd_same, Int.ediv_nonneg hx (by omega), hy, hy2⟩
    rw [ed] at this
    exact this
  · refine ⟨_, rfl, _, _, _, .int y, rfl, rfl, SqL.of ha, rfl, _, _, rfl, rfl, .inl ⟨by omega, by omega⟩, _, _, rfl, rfl, .inl ⟨_, rfl, _, _, rfl, rfl, (by show (0 : Int) < 2147483587; decide), _, rfl, _, _, _, 1, rfl, rfl, ha, rfl, ?_⟩⟩
    have hz0 : (0 : Int) ≤ (y * 48271 + 18959) % 2147483587 := by omega
    have hz1 : (y * 48271 + 18959) % 2147483587 < (2147483587 : Int) := by omega
    refine ⟨_, rfl, _, _, _, .int ((y * 48271 + 18959) % 2147483587), rfl, rfl, SqL.of upd_same, rfl, _, rfl, _, _, _, .int ((y * 48271 + 18959) % 2147483587), rfl, rfl, SqL.of upd_same, rfl, _, _, rfl, rfl, .inl ⟨by omega, by omega⟩, .inl ⟨_, rfl, _, _, rfl, rfl, (by show (0 : Int) < 2147483549; decide), _, _, rfl, rfl, ⟨by decide, by decide⟩, .inl ⟨_, rfl, _, rfl, _, _, rfl, rfl, (by show (0 : Int) < (n : Int); omega), ?_⟩⟩⟩
    have fin : ∀ z : Int, 0 ≤ z → z < 2147483587 → Q (V.int (z * z % 2147483549 / 13 % (n : Int))) (upd H a (.lst [.int x, .int z])) := fun z hz0 hz1 => by
      have ed : (((z * z % 2147483549 / 13 % (n : Int)).toNat : Nat) : Int) = z * z % 2147483549 / 13 % (n : Int) := Int.toNat_of_nonneg (Int.emod_nonneg _ (by omega))
      have el := Int.emod_lt_of_pos (z * z % 2147483549 / 13) (show (0 : Int) < (n : Int) by omega)
      have := q (z * z % 2147483549 / 13 % (n : Int)).toNat (upd H a (.lst [.int x, .int z])) (by omega) (fun b o e nb => by rw [upd_ne nb]; exact e) ⟨_, _, upd_same, hx, hz0, by omega⟩
      rw [ed] at this
      exact this
    exact fin _ hz0 hz1
def sp_law_pick (K : PySem.W.Frag) : Sp := fun vs H Q _ => ∃ a, (∃ l, ∃ xs : List V, vs = [.ref a, .ref l] ∧ H l = some (.lst xs) ∧ l ≠ a ∧ 0 < xs.length ∧ xs.length ≤ 1000 ∧ PotAt H a ∧ ∀ v H', v ∈ xs → Kept a H H' → PotAt H' a → Q v H')
  ∨ (∃ l : List Nat, vs = [.ref a, T l] ∧ 0 < l.length ∧ l.length ≤ 1000 ∧ PotAt H a ∧ ∀ c H', c ∈ l → Kept a H H' → PotAt H' a → Q (T [c]) H')
theorem ok_law_pick (D : Def K mg "_law_pick" s_law_pick ["_law_pot_here", "_law_some"]) (B : Bs mg) (Glb : Glo mg)
    (h_law_draw : Good P w K mg base "_law_draw" s_law_draw ["_law_pot_here", "_law_size"] 1 (sp_law_draw K)) :
    Good P w K mg base "_law_pick" s_law_pick ["_law_pot_here", "_law_some"] 2 (sp_law_pick K) := by
  refine D.good fun f fd F => ?_
  obtain ⟨f_law_draw, d_law_draw, O_law_draw, m_law_draw, k_law_draw, b_law_draw, F_law_draw⟩ := h_law_draw
  refine F.ok sc_law_pick (fun vs H Q E h => ?_) (fun cdv A outer s H vs Q E hr h => ?_)
  · obtain ⟨a, h⟩ := h
    first | rfl | (rcases h with ⟨_, _, rfl, _⟩ | ⟨_, rfl, _⟩ <;> rfl)
  obtain ⟨a, h⟩ := h
  rcases h with ⟨l, xs, rfl, hl, hla, h0, hlen, hp, q⟩ | ⟨l, rfl, h0, hlen, hp, q⟩
  · refine ⟨_, (pss_one (ps_ret (pe_ix ix_seq (pv 1) (pe_call O_law_draw hr rfl m_law_draw k_law_draw b_law_draw .nil pass0 (pa_cons (pv 0) (pa_cons (pe_callB call_len (by rfl) B.len (by decide +kernel) (pa_cons (pv 1) pa_nil)) pa_nil))) (fun _ _ => rfl)))), ?_⟩
    refine ⟨_, rfl, _, rfl, _, rfl, _, _, rfl, .inl ⟨_, SqL.of hl, rfl⟩, a, xs.length, rfl, hp, h0, hlen, fun d H' hd hk hp' => ?_⟩
    exact .inl ⟨_, _, _, _, rfl, rfl, SqL.of (hk l _ hl hla), atI_nat (List.getElem?_eq_getElem hd), q _ H' (List.getElem_mem hd) hk hp'⟩
  · refine ⟨_, (pss_one (ps_ret (pe_ix ix_seq (pv 1) (pe_call O_law_draw hr rfl m_law_draw k_law_draw b_law_draw .nil pass0 (pa_cons (pv 0) (pa_cons (pe_callB call_len (by rfl) B.len (by decide +kernel) (pa_cons (pv 1) pa_nil)) pa_nil))) (fun _ _ => rfl)))), ?_⟩
    refine ⟨_, rfl, _, rfl, _, rfl, _, l.length, rfl, ⟨T_line hlen, T_len l⟩, a, l.length, rfl, hp, h0, hlen, fun d H' hd hk hp' => ?_⟩
    exact .inr (.inr ⟨_, _, _, rfl, rfl, T_line hlen, at_nat (List.getElem?_eq_getElem hd), q _ H' (List.getElem_mem hd) hk hp'⟩)
def sp_law_round (_ : PySem.W.Frag) : Sp := fun vs H Q _ => ∃ l, ∃ p n : Nat, vs = [T l, .int (p : Int), .int (n : Int)] ∧ Wd l ∧ n ≤ 1000 ∧ Q (T (rd l p n)) H
theorem ok_law_round (D : Def K mg "_law_round" s_law_round ["_law_ring_here", "_law_place", "_law_many"]) (B : Bs mg) (Glb : Glo mg) :
    Good P w K mg base "_law_round" s_law_round ["_law_ring_here", "_law_place", "_law_many"] 1 (sp_law_round K) := by
  refine D.good fun f fd F => ?_
  refine F.ok sc_law_round (fun vs H Q E h => ?_) (fun cdv A outer s H vs Q E hr h => ?_)
  · obtain ⟨l, p, n, rfl, hl, hn, q⟩ := h
    first | rfl | (rcases h with ⟨_, _, rfl, _⟩ | ⟨_, rfl, _⟩ <;> rfl)
  obtain ⟨l, p, n, rfl, hl, hn, q⟩ := h
  refine ⟨_, (pss_cons (ps_set (i := 3) sc_law_round.nd rfl (by first | exact Or.inl rfl | exact Or.inr rfl) pe_str)
  (pss_cons (ps_while PassesOwn.never (pt_cmpR op_lt (pe_callB call_len_str (by rfl) B.len (by decide +kernel) (pa_cons (pv 3) pa_nil)) (pv 2) (nomark _))
    (pss_one (ps_set (i := 3) sc_law_round.nd rfl (by first | exact Or.inl rfl | exact Or.inr rfl) (pe_op op_add_str (pv 3) (pe_ix ix_str (pv 0) (pe_op op_mod (pe_op op_add (pv 1) (pe_callB call_len_str (by rfl) B.len (by decide +kernel) (pa_cons (pv 3) pa_nil))) (pe_callB call_len_str (by rfl) B.len (by decide +kernel) (pa_cons (pv 0) pa_nil))) (fun _ _ => rfl))))))
  (pss_one (ps_ret (pv 3))))), ?_⟩
  have hlen := hl.2.1
  have h0 := hl.1
  refine ⟨fun m σ H' => ∃ i : Nat, m = n - i ∧ i ≤ n ∧ H' = H ∧ σ = [some (T l), some (.int (p : Int)), some (.int (n : Int)), some (T (rd l p i))], ⟨n, 0, rfl, by omega, rfl, ?_⟩, ?_⟩
  · rw [rd_zero]
    show [some (T l), some (V.int (p : Int)), some (V.int (n : Int)), some (V.str (Str.ofString ""))] = _
    rw [T_nil]
  rintro m σ H' ⟨i, rfl, hi, rfl, rfl⟩
  refine ⟨_, rfl, _, rfl, T_line (by rw [rd_len]; omega), _, rfl, _, _, rfl, rfl, _, rfl, ?_⟩
  refine ite2 (fun c1 => ?_) (fun c1 => ?_)
  · have c2 : ((((⟨(rd l p i).toArray⟩ : Str).length : Nat) : Int)) < (n : Int) := of_decide_eq_true c1
    rw [T_len, rd_len] at c2
    have ej : ((p : Int) + (((⟨(rd l p i).toArray⟩ : Str).length : Nat) : Int)) % (((⟨l.toArray⟩ : Str).length : Nat) : Int) = (((p + i) % l.length : Nat) : Int) := by
      rw [T_len, T_len, rd_len]
      rfl
    have e0 := getD_lt (l := l) (i := (p + i) % l.length) (Nat.mod_lt _ h0)
    refine ⟨fun σ' H'' => H'' = H' ∧ σ' = [some (T l), some (.int (p : Int)), some (.int (n : Int)), some (T (rd l p (i + 1)))], fun σ' H'' ⟨e1, e2⟩ => ⟨n - (i + 1), by omega, i + 1, rfl, by omega, e1, e2⟩, ?_⟩
    refine ⟨_, rfl, _, rfl, _, rfl, _, rfl, _, rfl, T_line (by rw [rd_len]; omega), _, _, rfl, rfl, _, rfl, _, rfl, T_line (by omega), _, _, rfl, rfl, (by show (0 : Int) < _; rw [T_len]; omega), _, _, _, rfl, rfl, T_line (by omega), (by rw [ej]; exact at_nat e0), _, _, rfl, rfl, ?_, rfl, ?_⟩
    · rw [T_len, rd_len]
      show i + 1 ≤ sizeLine
      exact Nat.le_of_lt (small1000 (by omega))
    · rw [rd_succ]
      show [some (T l), some (V.int (p : Int)), some (V.int (n : Int)), some (V.str ((⟨(rd l p i).toArray⟩ : Str) ++ (⟨[l.getD ((p + i) % l.length) 0].toArray⟩ : Str)))] = _
      rw [T_app]
  · have c2 : ¬ ((((⟨(rd l p i).toArray⟩ : Str).length : Nat) : Int)) < (n : Int) := of_decide_eq_false (Bool.eq_false_iff.mpr c1)
    rw [T_len, rd_len] at c2
    have e : i = n := by omega
    subst e
    exact ⟨_, rfl, q⟩
theorem PotAt.new {H : Hp} {a p : Addr} {o : HO} (h : PotAt H a) (np : H p = none) : PotAt (upd H p o) a := by
  obtain ⟨x, y, e, h⟩ := h
  refine ⟨x, y, ?_, h⟩
  rw [upd_ne (ne_of_none e np)]
  exact e
theorem Kept.new {H H' : Hp} {a p : Addr} {o : HO} (h : Kept a H H') (np : H' p = none) : Kept a H (upd H' p o) := h.trans (Same.kept (same_new np o))
theorem of_ab : Str.ofString "ab" = ⟨[97, 98].toArray⟩ := by decide +kernel
theorem of_abc : Str.ofString "abc" = ⟨[97, 98, 99].toArray⟩ := by decide +kernel
theorem of_zab : Str.ofString "zab" = ⟨[122, 97, 98].toArray⟩ := by decide +kernel
theorem of_b : Str.ofString "b" = ⟨#[98]⟩ := by decide +kernel
theorem letters_of {v : V} (h : v ∈ [V.str (Str.ofString "ab"), V.str (Str.ofString "abc"), V.str (Str.ofString "a"), V.str (Str.ofString "zab")]) : ∃ l : List Nat, v = T l ∧ 0 < l.length ∧ l.length ≤ 1000 ∧ ∀ c ∈ l, 97 ≤ c ∧ c ≤ 122 := by
  rw [of_ab, of_abc, of_a, of_zab] at h
  rcases List.mem_cons.mp h with h | h
  · exact ⟨_, h, by decide, by decide, by decide⟩
  rcases List.mem_cons.mp h with h | h
  · exact ⟨_, h, by decide, by decide, by decide⟩
  rcases List.mem_cons.mp h with h | h
  · exact ⟨[97], h, by decide, by decide, by decide⟩
  rcases List.mem_cons.mp h with h | h
  · exact ⟨_, h, by decide, by decide, by decide⟩
  · cases h
def sp_law_ring (_ : PySem.W.Frag) : Sp := fun vs H Q _ => ∃ a, ∃ m : Nat, vs = [.ref a, .int (m : Int)] ∧ PotAt H a ∧ 0 < m ∧ m ≤ 10 ∧ ∀ l H', Wd l → l.length ≤ 20 → Kept a H H' → PotAt H' a → Q (T l) H'
theorem ok_law_ring (D : Def K mg "_law_ring" s_law_ring ["_law_pot_here", "_law_most"]) (B : Bs mg) (Glb : Glo mg)
    (h_law_pick : Good P w K mg base "_law_pick" s_law_pick ["_law_pot_here", "_law_some"] 2 (sp_law_pick K))
    (h_law_draw : Good P w K mg base "_law_draw" s_law_draw ["_law_pot_here", "_law_size"] 1 (sp_law_draw K)) :
    Good P w K mg base "_law_ring" s_law_ring ["_law_pot_here", "_law_most"] 3 (sp_law_ring K) := by
  refine D.good fun f fd F => ?_
  obtain ⟨f_law_pick, d_law_pick, O_law_pick, m_law_pick, k_law_pick, b_law_pick, F_law_pick⟩ := h_law_pick
  obtain ⟨f_law_draw, d_law_draw, O_law_draw, m_law_draw, k_law_draw, b_law_draw, F_law_draw⟩ := h_law_draw
  refine F.ok sc_law_ring (fun vs H Q E h => ?_) (fun cdv A outer s H vs Q E hr h => ?_)
  · obtain ⟨a, m, rfl, hp, hm0, hm, q⟩ := h
    first | rfl | (rcases h with ⟨_, _, rfl, _⟩ | ⟨_, rfl, _⟩ <;> rfl)
  obtain ⟨a, m, rfl, hp, hm0, hm, q⟩ := h
  refine ⟨_, (pss_cons (ps_set (i := 2) sc_law_ring.nd rfl (by first | exact Or.inl rfl | exact Or.inr rfl) (pe_call O_law_pick hr rfl m_law_pick k_law_pick b_law_pick .nil pass0 (pa_cons (pv 0) (pa_cons (pe_lst (pa_cons pe_str (pa_cons pe_str (pa_cons pe_str (pa_cons pe_str pa_nil))))) pa_nil))))
  (pss_cons (ps_set (i := 3) sc_law_ring.nd rfl (by first | exact Or.inl rfl | exact Or.inr rfl) pe_str)
  (pss_cons (ps_for PassesOwn.never rfl (pi_range1 (by rfl) B.range (pa_cons (pe_op op_add pe_int (pe_call O_law_draw (hr.mono (by decide)) rfl m_law_draw k_law_draw b_law_draw .nil pass0 (pa_cons (pv 0) (pa_cons (pv 1) pa_nil)))) pa_nil)) (pg_name (i := 4) sc_law_ring.nd rfl (by first | exact Or.inl rfl | exact Or.inr rfl))
    (pss_one (ps_set (i := 3) sc_law_ring.nd rfl (by first | exact Or.inl rfl | exact Or.inr rfl) (pe_op op_add_str (pv 3) (pe_call O_law_pick hr rfl m_law_pick k_law_pick b_law_pick .nil pass0 (pa_cons (pv 0) (pa_cons (pv 2) pa_nil)))))))
  (pss_one (ps_ret (pe_ifExp (PW.pt (pw_and (pt_cmpR op_lt (pe_callB call_len_str (by rfl) B.len (by decide +kernel) (pa_cons (pv 3) pa_nil)) pe_int (nomark _)) (pw_and1 (pt_cmpR op_eq (pe_call O_law_draw (hr.mono (by decide)) rfl m_law_draw k_law_draw b_law_draw .nil pass0 (pa_cons (pv 0) (pa_cons pe_int pa_nil))) pe_int (nomark _))))) (pe_op op_mul_str (pv 3) (pe_op op_add pe_int (pe_call O_law_draw (hr.mono (by decide)) rfl m_law_draw k_law_draw b_law_draw .nil pass0 (pa_cons (pv 0) (pa_cons pe_int pa_nil))))) (pv 3))))))), ?_⟩
  refine ⟨_, rfl, (by show 4 ≤ sizeLine; decide), fun p np => ⟨a, .inl ⟨p, _, rfl, upd_same, ?_, by simp, by simp, hp.new np, fun v H1 hv hk1 hp1 => ?_⟩⟩⟩
  · obtain ⟨x, y, e, _⟩ := hp
    exact (ne_of_none e np).symm
  obtain ⟨ls, rfl, ls0, ls1, ls2⟩ := letters_of hv
  have hk1' : Kept a H H1 := (Same.kept (same_new np _)).trans hk1
  refine ⟨_, rfl, _, rfl, a, m, rfl, hp1, hm0, by omega, fun d H2 hd hk2 hp2 => ?_⟩
  refine ⟨_, _, rfl, rfl, _, rfl, (by omega), (by omega), ?_⟩
  rw [show ((1 : Int) + (d : Int)).toNat = d + 1 by omega]
  refine for_range (lo := 0) (n := d + 1) (fun i σ H' => ∃ (fd : List Nat) (v : Option V), σ = [some (.ref a), some (.int (m : Int)), some (T ls), some (T fd), v] ∧ fd.length = i ∧ (∀ c ∈ fd, 97 ≤ c ∧ c ≤ 122) ∧ Kept a H H' ∧ PotAt H' a)
    ⟨[], none, ?_, rfl, by simp, hk1'.trans hk2, hp2⟩ ?_ ?_
  · show [some (V.ref a), some (V.int (m : Int)), some (T ls), some (V.str (Str.ofString "")), none] = _
    rw [T_nil]
  · rintro i σ H3 hi ⟨fd, v, rfl, hl, hc, hk, hpp⟩
    refine ⟨_, rfl, _, rfl, _, rfl, a, .inr ⟨ls, rfl, ls0, ls1, hpp, fun c H4 hcl hk4 hp4 => ⟨_, _, rfl, rfl, ?_, ?_⟩⟩⟩
    · rw [T_len]
      show fd.length + 1 ≤ sizeLine
      exact Nat.le_of_lt (small1000 (by omega))
    · refine ⟨fd ++ [c], some (.int (0 + (i : Int))), ?_, by rw [List.length_append, hl]; rfl, ?_, hk.trans hk4, hp4⟩
      · show [some (V.ref a), some (V.int (m : Int)), some (T ls), some (V.str ((⟨fd.toArray⟩ : Str) ++ (⟨[c].toArray⟩ : Str))), some (.int (0 + (i : Int)))] = _
        rw [T_app]
      · intro c' hc'
        rcases List.mem_append.mp hc' with h | h
        · exact hc c' h
        · rw [List.mem_singleton.mp h]
          exact ls2 c hcl
  · rintro σ H3 ⟨fd, v, rfl, hl, hc, hk, hpp⟩
    have hwd : Wd fd := ⟨by omega, by omega, hc⟩
    refine ⟨_, rfl, _, rfl, T_line (by omega), _, _, rfl, rfl, _, rfl, ?_⟩
    refine ite2 (fun c1 => ?_) (fun c1 => ?_)
    · have c2 : ((((⟨fd.toArray⟩ : Str).length : Nat) : Int)) < 6 := of_decide_eq_true c1
      rw [T_len] at c2
      refine ⟨_, rfl, a, 3, rfl, hpp, by decide, by decide, fun d2 H4 hd2 hk4 hp4 => ⟨rfl, _, rfl, ?_⟩⟩
      refine ite2 (fun c3 => ?_) (fun c3 => ?_)
      · refine ⟨_, rfl, _, rfl, a, 3, rfl, hp4, by decide, by decide, fun d3 H5 hd3 hk5 hp5 => ⟨_, _, rfl, rfl, fd, 1 + d3, rfl, rfl, by omega, by omega, by omega, ?_⟩⟩
        have hlen : (List.replicate (1 + d3) fd).flatten.length = (1 + d3) * fd.length := by simp
        have hle : (1 + d3) * fd.length ≤ 3 * 5 := Nat.mul_le_mul (by omega) (by omega)
        have hge : 1 * 1 ≤ (1 + d3) * fd.length := Nat.mul_le_mul (by omega) (by omega)
        refine q _ H5 ⟨by omega, by omega, fun c hcm => ?_⟩ (by omega) ((hk.trans hk4).trans hk5) hp5
        obtain ⟨r, hr, hcr⟩ := List.mem_flatten.mp hcm
        rw [List.eq_of_mem_replicate hr] at hcr
        exact hc c hcr
      · exact ⟨_, rfl, q _ H4 hwd (by omega) (hk.trans hk4) hp4⟩
    · exact ⟨_, rfl, q _ H3 hwd (by omega) hk hpp⟩
end
end My
namespace My
open PySem L2 PyProof.Rows
def mu (n one two alike : Nat) : Nat := (4 * n + 4 - one - two) * (n + 1) + (n - alike)
theorem mu_alike {n one two alike : Nat} (h : alike < n) : mu n one two (alike + 1) < mu n one two alike := by
  unfold mu
  omega
theorem mu_step {n one two alike one' two' : Nat} (h : one + two < one' + two') (h2 : one' + two' ≤ 4 * n + 2) : mu n one' two' 0 < mu n one two alike := by
  unfold mu
  have h3 : (4 * n + 4 - one' - two') + 1 ≤ 4 * n + 4 - one - two := by omega
  have h4 := Nat.mul_le_mul_right (n + 1) h3
  rw [Nat.succ_mul] at h4
  omega
theorem wd_rot {l : List Nat} (h : Wd l) (p : Nat) : Wd (rot l p) := ⟨by rw [rot_len]; exact h.1, by rw [rot_len]; exact h.2.1, fun c hc => h.2.2 c (by
  obtain ⟨k, _, rfl⟩ := List.mem_map.mp hc
  have := Nat.mod_lt (p + k) h.1
  rw [List.getD_eq_getElem?_getD, List.getElem?_eq_getElem this]
  exact List.getElem_mem this)⟩
theorem gt_at {l : List Nat} (h0 : 0 < l.length) (i : Nat) : atI (⟨l.toArray⟩ : Str).cps.toList (((i % l.length : Nat) : Int)) = some (gt l i) := at_nat (getD_lt (Nat.mod_lt _ h0))
theorem lt_one {a b : Nat} : ([a] : List Nat) < [b] ↔ a < b := by
  rw [List.cons_lt_cons_iff]
  constructor
  · rintro (h | ⟨_, h⟩)
    · exact h
    · exact absurd h (List.lt_irrefl _)
  · exact .inl
section
variable {P : Program} {w : World} {K : PySem.W.Frag} {mg : Str → Option Value} {base : Heap}
def spleast_start (_ : PySem.W.Frag) : Sp := fun vs H Q _ => ∃ l, vs = [T l] ∧ Wd l ∧ ∀ (p : Nat) (H' : Hp), p < l.length → Opt l p → Same H H' → Q (.int (p : Int)) H'
theorem okleast_start (D : Def K mg "least_start" sleast_start ["cycle"]) (B : Bs mg) (Glb : Glo mg) :
    Good P w K mg base "least_start" sleast_start ["cycle"] 1 (spleast_start K) := by
  refine D.good fun f fd F => ?_
  refine F.ok scleast_start (fun vs H Q E h => ?_) (fun cdv A outer s H vs Q E hr h => ?_)
  · obtain ⟨l, rfl, hl, q⟩ := h
    first | rfl | (rcases h with ⟨_, _, rfl, _⟩ | ⟨_, rfl, _⟩ <;> rfl)
  obtain ⟨l, rfl, hl, q⟩ := h
  refine ⟨_, (pss_cons (ps_set (i := 1) scleast_start.nd rfl (by first | exact Or.inl rfl | exact Or.inr rfl) (pe_callB call_len_str (by rfl) B.len (by decide +kernel) (pa_cons (pv 0) pa_nil)))
  (pss_cons (ps_asg (pe_tup (pa_cons pe_int (pa_cons pe_int (pa_cons pe_int pa_nil)))) (pg_tup rfl (pgs_cons (pg_name (i := 2) scleast_start.nd rfl (by first | exact Or.inl rfl | exact Or.inr rfl)) (pgs_cons (pg_name (i := 3) scleast_start.nd rfl (by first | exact Or.inl rfl | exact Or.inr rfl)) (pgs_cons (pg_name (i := 4) scleast_start.nd rfl (by first | exact Or.inl rfl | exact Or.inr rfl)) pgs_nil)))))
  (pss_cons (ps_while PassesOwn.never (PW.pt (pw_and (pt_cmpR op_lt (pv 2) (pv 1) (nomark _)) (pw_and (pt_cmpR op_lt (pv 3) (pv 1) (nomark _)) (pw_and1 (pt_cmpR op_lt (pv 4) (pv 1) (nomark _))))))
    (pss_cons (ps_set (i := 5) scleast_start.nd rfl (by first | exact Or.inl rfl | exact Or.inr rfl) (pe_ix ix_str (pv 0) (pe_op op_mod (pe_op op_add (pv 2) (pv 4)) (pv 1)) (fun _ _ => rfl)))
  (pss_cons (ps_set (i := 6) scleast_start.nd rfl (by first | exact Or.inl rfl | exact Or.inr rfl) (pe_ix ix_str (pv 0) (pe_op op_mod (pe_op op_add (pv 3) (pv 4)) (pv 1)) (fun _ _ => rfl)))
  (pss_cons (ps_if (pt_cmpR op_eq (pv 5) (pv 6) (nomark _))
    (pss_cons (ps_aug (i := 4) scleast_start.nd rfl (by first | exact Or.inl rfl | exact Or.inr rfl) pe_int ip_add)
  (pss_one ps_continue)) pss_nil)
  (pss_cons (ps_if (pt_cmpR op_gt_str (pv 5) (pv 6) (nomark _))
    (pss_one (ps_set (i := 2) scleast_start.nd rfl (by first | exact Or.inl rfl | exact Or.inr rfl) (pe_op op_add (pe_op op_add (pv 2) (pv 4)) pe_int))) (pss_one (ps_set (i := 3) scleast_start.nd rfl (by first | exact Or.inl rfl | exact Or.inr rfl) (pe_op op_add (pe_op op_add (pv 3) (pv 4)) pe_int))))
  (pss_cons (ps_if (pt_cmpR op_eq (pv 2) (pv 3) (nomark _))
    (pss_one (ps_aug (i := 3) scleast_start.nd rfl (by first | exact Or.inl rfl | exact Or.inr rfl) pe_int ip_add)) pss_nil)
  (pss_one (ps_set (i := 4) scleast_start.nd rfl (by first | exact Or.inl rfl | exact Or.inr rfl) pe_int))))))))
  (pss_one (ps_ret (pe_callB (call_min2 rfl) (by rfl) B.min (by decide +kernel) (pa_cons (pv 2) (pa_cons (pv 3) pa_nil)))))))), ?_⟩
  have hlen := hl.2.1
  have h0 := hl.1
  refine ⟨_, rfl, _, rfl, T_line (by omega), ?_⟩
  rw [T_len]
  refine ⟨(by show 3 ≤ sizeLine; decide), fun tp ntp => ⟨_, _, rfl, SqT.of upd_same, rfl, _, _, rfl, _, _, rfl, _, _, rfl, rfl, ?_⟩⟩
  have hS0 := same_new ntp (.tup [.int 0, .int 1, .int 0])
  generalize upd H tp (.tup [.int 0, .int 1, .int 0]) = H0 at hS0
  refine ⟨fun m σ H' => ∃ (one two alike : Nat) (v1 v2 : Option V), m = mu l.length one two alike ∧ σ = [some (T l), some (.int (l.length : Int)), some (.int (one : Int)), some (.int (two : Int)), some (.int (alike : Int)), v1, v2] ∧ Two l one two alike ∧ H' = H0,
    ⟨_, 0, 1, 0, none, none, rfl, rfl, two_start h0, rfl⟩, ?_⟩
  rintro m σ H' ⟨one, two, alike, v1, v2, rfl, rfl, hT, rfl⟩
  have fin : ¬ (one < l.length ∧ two < l.length ∧ alike < l.length) → Q (V.int (if (two : Int) < (one : Int) then (two : Int) else (one : Int))) H' := fun c => by
    obtain ⟨g1, g2⟩ := two_end h0 hT c
    have e : (if (two : Int) < (one : Int) then (two : Int) else (one : Int)) = ((min one two : Nat) : Int) := by split <;> omega
    rw [e]
    exact q _ _ g1 g2 hS0
  have hne := hT.ne
  have hb1 := hT.b1
  have hb2 := hT.b2
  refine ⟨_, rfl, _, rfl, _, _, rfl, rfl, _, rfl, ?_⟩
  refine ite2 (fun c1 => ?_) (fun c1 => ?_)
  · have d1 : (one : Int) < (l.length : Int) := of_decide_eq_true c1
    refine ⟨_, rfl, _, rfl, _, _, rfl, rfl, _, rfl, ?_⟩
    refine ite2 (fun c2 => ?_) (fun c2 => ?_)
    · have d2 : (two : Int) < (l.length : Int) := of_decide_eq_true c2
      refine ⟨_, rfl, _, rfl, _, _, rfl, rfl, _, rfl, ?_⟩
      refine ite2 (fun c3 => ?_) (fun c3 => ?_)
      · have d3 : (alike : Int) < (l.length : Int) := of_decide_eq_true c3
        refine ⟨fun σ' H'' => ∃ (one' two' alike' : Nat) (v1 v2 : Option V), mu l.length one' two' alike' < mu l.length one two alike ∧ σ' = [some (T l), some (.int (l.length : Int)), some (.int (one' : Int)), some (.int (two' : Int)), some (.int (alike' : Int)), v1, v2] ∧ Two l one' two' alike' ∧ H'' = H',
          fun σ' H'' ⟨o, t, a, w1, w2, hlt, e1, e2, e3⟩ => ⟨_, hlt, o, t, a, w1, w2, rfl, e1, e2, e3⟩, ?_⟩
        have ea : ((one : Int) + (alike : Int)) % (l.length : Int) = (((one + alike) % l.length : Nat) : Int) := rfl
        have eb : ((two : Int) + (alike : Int)) % (l.length : Int) = (((two + alike) % l.length : Nat) : Int) := rfl
        refine ⟨_, rfl, _, rfl, _, rfl, _, _, rfl, rfl, _, rfl, _, _, rfl, rfl, (by show (0 : Int) < (l.length : Int); omega), _, _, gt l (one + alike), rfl, rfl, T_line (by omega), gt_at h0 _, ?_⟩
        refine ⟨_, rfl, _, rfl, _, rfl, _, _, rfl, rfl, _, rfl, _, _, rfl, rfl, (by show (0 : Int) < (l.length : Int); omega), _, _, gt l (two + alike), rfl, rfl, T_line (by omega), gt_at h0 _, ?_⟩
        refine ⟨_, rfl, _, rfl, rfl, _, rfl, ?_⟩
        refine ite2 (fun c4 => ?_) (fun c4 => ?_)
        · have e4 : gt l (one + alike) = gt l (two + alike) := by
            have := T_inj.mp (of_decide_eq_true c4 : T [gt l (one + alike)] = T [gt l (two + alike)])
            simpa using this
          refine ⟨_, rfl, _, _, rfl, rfl, ?_⟩
          exact ⟨one, two, alike + 1, _, _, mu_alike (by omega), rfl, two_alike hT (by omega) e4, rfl⟩
        · have e4 : ¬ gt l (one + alike) = gt l (two + alike) := fun z => by
            have c5 : ¬ T [gt l (one + alike)] = T [gt l (two + alike)] := of_decide_eq_false (Bool.eq_false_iff.mpr c4)
            exact c5 (by rw [z])
          refine ⟨_, rfl, _, rfl, _, _, rfl, rfl, _, rfl, ?_⟩
          refine ite2 (fun c5 => ?_) (fun c5 => ?_)
          · have e5 : gt l (two + alike) < gt l (one + alike) := lt_one.mp (of_decide_eq_true c5)
            have hN := two_one hT (by omega) (by omega) (by omega) e5
            refine ⟨_, rfl, _, rfl, _, _, rfl, rfl, _, _, rfl, rfl, ?_⟩
            refine ⟨_, rfl, _, rfl, rfl, _, rfl, ?_⟩
            refine ite2 (fun c6 => ?_) (fun c6 => ?_)
            · have e6 : one + alike + 1 = two := by
                have := int_eq.mp (of_decide_eq_true c6 : V.int ((one : Int) + (alike : Int) + 1) = V.int (two : Int))
                omega
              rw [if_pos e6] at hN
              refine ⟨_, rfl, _, _, rfl, rfl, ?_⟩
              exact ⟨one + alike + 1, two + 1, 0, _, _, mu_step (by omega) (by omega), rfl, hN, rfl⟩
            · have e6 : ¬ one + alike + 1 = two := fun z => by
                have c7 : ¬ V.int ((one : Int) + (alike : Int) + 1) = V.int (two : Int) := of_decide_eq_false (Bool.eq_false_iff.mpr c6)
                rw [int_eq] at c7
                omega
              rw [if_neg e6] at hN
              exact ⟨one + alike + 1, two, 0, _, _, mu_step (by omega) (by omega), rfl, hN, rfl⟩
          · have e5 : gt l (one + alike) < gt l (two + alike) := by
              have c6 : ¬ ([gt l (two + alike)] : List Nat) < [gt l (one + alike)] := of_decide_eq_false (Bool.eq_false_iff.mpr c5)
              rw [lt_one] at c6
              omega
            have hN := two_two hT (by omega) (by omega) (by omega) e5
            refine ⟨_, rfl, _, rfl, _, _, rfl, rfl, _, _, rfl, rfl, ?_⟩
            refine ⟨_, rfl, _, rfl, rfl, _, rfl, ?_⟩
            refine ite2 (fun c6 => ?_) (fun c6 => ?_)
            · have e6 : one = two + alike + 1 := by
                have := int_eq.mp (of_decide_eq_true c6 : V.int (one : Int) = V.int ((two : Int) + (alike : Int) + 1))
                omega
              rw [if_pos e6] at hN
              refine ⟨_, rfl, _, _, rfl, rfl, ?_⟩
              exact ⟨one, two + alike + 1 + 1, 0, _, _, mu_step (by omega) (by omega), rfl, hN, rfl⟩
            · have e6 : ¬ one = two + alike + 1 := fun z => by
                have c7 : ¬ V.int (one : Int) = V.int ((two : Int) + (alike : Int) + 1) := of_decide_eq_false (Bool.eq_false_iff.mpr c6)
                rw [int_eq] at c7
                omega
              rw [if_neg e6] at hN
              exact ⟨one, two + alike + 1, 0, _, _, mu_step (by omega) (by omega), rfl, hN, rfl⟩
      · have d3 : ¬ (alike : Int) < (l.length : Int) := of_decide_eq_false (Bool.eq_false_iff.mpr c3)
        exact ⟨_, rfl, _, rfl, _, _, rfl, fin (by omega)⟩
    · have d2 : ¬ (two : Int) < (l.length : Int) := of_decide_eq_false (Bool.eq_false_iff.mpr c2)
      exact ⟨_, rfl, _, rfl, _, _, rfl, fin (by omega)⟩
  · have d1 : ¬ (one : Int) < (l.length : Int) := of_decide_eq_false (Bool.eq_false_iff.mpr c1)
    exact ⟨_, rfl, _, rfl, _, _, rfl, fin (by omega)⟩
/-- the rows -/
abbrev rows (l : List Nat) (n : Nat) : List (List Nat) := (List.range n).map (rot l)
theorem rows_succ (l : List Nat) (n : Nat) : rows l (n + 1) = rows l n ++ [rot l n] := by
  unfold rows
  rw [List.range_succ, List.map_append]
  rfl
theorem rows_len (l : List Nat) (n : Nat) : (rows l n).length = n := by simp [rows]
theorem rows_get (l : List Nat) (n p : Nat) (h : p < n) : ((rows l n).map T)[p]? = some (T (rot l p)) := by simp [rows, h]
theorem least_of_min {l m : List Nat} (h0 : 0 < l.length) (h : m ∈ rows l l.length) (hm : ∀ t ∈ rows l l.length, ¬ t < m) : IsLeast l m := by
  obtain ⟨p, hp, rfl⟩ := List.mem_map.mp h
  refine ⟨p, List.mem_range.mp hp, rfl, fun q hq => ?_⟩
  rw [← rot_mod l q] at hq
  exact hm _ (List.mem_map.mpr ⟨q % l.length, List.mem_range.mpr (Nat.mod_lt _ h0), rfl⟩) hq
theorem rows_ne {l : List Nat} (h0 : 0 < l.length) : rows l l.length ≠ [] := fun z => by
  have := rows_len l l.length
  rw [z] at this
  simp at this
  omega
def spplain_normal (_ : PySem.W.Frag) : Sp := fun vs H Q _ => ∃ l, vs = [T l] ∧ Wd l ∧ ∀ m H', IsLeast l m → Same H H' → Q (T m) H'
theorem okplain_normal (D : Def K mg "plain_normal" splain_normal ["ring"]) (B : Bs mg) (Glb : Glo mg)
    (hneed_ring : Good P w K mg base "need_ring" sneed_ring ["ring"] 4 (spneed_ring K))
    (h_turned_to : Good P w K mg base "_turned_to" s_turned_to ["ring", "place"] 1 (sp_turned_to K)) :
    Good P w K mg base "plain_normal" splain_normal ["ring"] 5 (spplain_normal K) := by
  refine D.good fun f fd F => ?_
  obtain ⟨fneed_ring, dneed_ring, Oneed_ring, mneed_ring, kneed_ring, bneed_ring, Fneed_ring⟩ := hneed_ring
  obtain ⟨f_turned_to, d_turned_to, O_turned_to, m_turned_to, k_turned_to, b_turned_to, F_turned_to⟩ := h_turned_to
  refine F.ok scplain_normal (fun vs H Q E h => ?_) (fun cdv A outer s H vs Q E hr h => ?_)
  · obtain ⟨l, rfl, hl, q⟩ := h
    first | rfl | (rcases h with ⟨_, _, rfl, _⟩ | ⟨_, rfl, _⟩ <;> rfl)
  obtain ⟨l, rfl, hl, q⟩ := h
  refine ⟨_, (pss_cons (ps_expr (pe_call Oneed_ring hr rfl mneed_ring kneed_ring bneed_ring .nil pass0 (pa_cons (pv 0) pa_nil)))
  (pss_one (ps_ret (pe_callB (cr_minS rfl hr.units) (by rfl) B.min (by decide +kernel) (pa_cons (pe_lc (own := [("place", 1)]) (g := gName 1) (by rfl) scplain_normal.nd (pi_range1 (by rfl) B.range (pa_cons (pe_callB call_len_str (by rfl) B.len (by decide +kernel) (pa_cons (pv 0) pa_nil)) pa_nil)) (blkOk_by (own := [("place", 1)]) (N := ["ring", "place"]) (sc := defScope splain_normal) (by decide +kernel)) (fun _ _ _ _ _ => (pg_name (i := 1) scplain_normal.nd rfl (by first | exact Or.inl rfl | exact Or.inr rfl))) (fun _ _ _ _ _ => pts_nil) (fun _ _ _ _ _ => (pe_call O_turned_to (hr.mono (by decide)) rfl m_turned_to k_turned_to b_turned_to .nil pass0 (pa_cons (pv 0) (pa_cons (pv 1) pa_nil))))) pa_nil))))), ?_⟩
  have hlen := hl.2.1
  have h0 := hl.1
  refine ⟨_, rfl, l, rfl, hl, _, rfl, _, rfl, T_line (by omega), _, rfl, (by rw [T_len]; omega), (by rw [T_len]; omega), fun D nD => ?_⟩
  rw [show ((((⟨l.toArray⟩ : Str).length : Nat) : Int)).toNat = l.length by rw [T_len]; rfl]
  refine lc_range (lo := 0) (n := l.length) (fun i H' => Same H H' ∧ H' D = some (.lst ((rows l i).map T))) ⟨same_new nD _, upd_same⟩ ?_ ?_
  · rintro i H1 hi ⟨hS, hD⟩
    refine ⟨rfl, _, rfl, _, rfl, l, i, (by rw [Int.zero_add]; rfl), hl, hi, _, hD, ?_, same_upd hS nD, ?_⟩
    · rw [List.length_map, rows_len]
      exact small1000 (by omega)
    · rw [rows_succ, List.map_append]
      exact upd_same
  · rintro H1 ⟨hS, hD⟩
    exact ⟨_, _, rfl, SqL.of hD, rows_ne h0, fun m hm hle => q m H1 (least_of_min h0 hm hle) hS⟩
def spnormal (_ : PySem.W.Frag) : Sp := fun vs H Q _ => ∃ l, vs = [T l] ∧ Wd l ∧ ∀ m H', IsLeast l m → Same H H' → Q (T m) H'
theorem oknormal (D : Def K mg "normal" snormal ["ring"]) (B : Bs mg) (Glb : Glo mg)
    (hneed_ring : Good P w K mg base "need_ring" sneed_ring ["ring"] 4 (spneed_ring K))
    (h_turned_to : Good P w K mg base "_turned_to" s_turned_to ["ring", "place"] 1 (sp_turned_to K))
    (hleast_start : Good P w K mg base "least_start" sleast_start ["cycle"] 1 (spleast_start K)) :
    Good P w K mg base "normal" snormal ["ring"] 5 (spnormal K) := by
  refine D.good fun f fd F => ?_
  obtain ⟨fneed_ring, dneed_ring, Oneed_ring, mneed_ring, kneed_ring, bneed_ring, Fneed_ring⟩ := hneed_ring
  obtain ⟨f_turned_to, d_turned_to, O_turned_to, m_turned_to, k_turned_to, b_turned_to, F_turned_to⟩ := h_turned_to
  obtain ⟨fleast_start, dleast_start, Oleast_start, mleast_start, kleast_start, bleast_start, Fleast_start⟩ := hleast_start
  refine F.ok scnormal (fun vs H Q E h => ?_) (fun cdv A outer s H vs Q E hr h => ?_)
  · obtain ⟨l, rfl, hl, q⟩ := h
    first | rfl | (rcases h with ⟨_, _, rfl, _⟩ | ⟨_, rfl, _⟩ <;> rfl)
  obtain ⟨l, rfl, hl, q⟩ := h
  refine ⟨_, (pss_cons (ps_expr (pe_call Oneed_ring hr rfl mneed_ring kneed_ring bneed_ring .nil pass0 (pa_cons (pv 0) pa_nil)))
  (pss_one (ps_ret (pe_call O_turned_to (hr.mono (by decide)) rfl m_turned_to k_turned_to b_turned_to .nil pass0 (pa_cons (pv 0) (pa_cons (pe_call Oleast_start (hr.mono (by decide)) rfl mleast_start kleast_start bleast_start .nil pass0 (pa_cons (pv 0) pa_nil)) pa_nil)))))), ?_⟩
  exact ⟨_, rfl, l, rfl, hl, _, rfl, _, rfl, l, rfl, hl, fun p H1 hp ho hS => ⟨l, p, rfl, hl, hp, q _ H1 ⟨p, hp, rfl, ho⟩ hS⟩⟩
def spare_alike (_ : PySem.W.Frag) : Sp := fun vs H Q _ => ∃ l o, vs = [T l, T o] ∧ Wd l ∧ Wd o ∧ ∀ (x : Bool) (H' : Hp), (x = true ↔ ∃ p, p < l.length ∧ o = rot l p) → Same H H' → Q (.bl x) H'
theorem alike_bl {l o a b : List Nat} (h0 : 0 < l.length) (h1 : 0 < o.length) (ha : IsLeast l a) (hb : IsLeast o b) : decide (T a = T b) = true ↔ ∃ p, p < l.length ∧ o = rot l p := by
  rw [decide_eq_true_iff, T_inj]
  exact alike_iff h0 h1 ha hb
theorem okare_alike (D : Def K mg "are_alike" sare_alike ["ring", "other"]) (B : Bs mg) (Glb : Glo mg)
    (hneed_ring : Good P w K mg base "need_ring" sneed_ring ["ring"] 4 (spneed_ring K))
    (hnormal : Good P w K mg base "normal" snormal ["ring"] 5 (spnormal K)) :
    Good P w K mg base "are_alike" sare_alike ["ring", "other"] 6 (spare_alike K) := by
  refine D.good fun f fd F => ?_
  obtain ⟨fneed_ring, dneed_ring, Oneed_ring, mneed_ring, kneed_ring, bneed_ring, Fneed_ring⟩ := hneed_ring
  obtain ⟨fnormal, dnormal, Onormal, mnormal, knormal, bnormal, Fnormal⟩ := hnormal
  refine F.ok scare_alike (fun vs H Q E h => ?_) (fun cdv A outer s H vs Q E hr h => ?_)
  · obtain ⟨l, o, rfl, hl, ho, q⟩ := h
    first | rfl | (rcases h with ⟨_, _, rfl, _⟩ | ⟨_, rfl, _⟩ <;> rfl)
  obtain ⟨l, o, rfl, hl, ho, q⟩ := h
  refine ⟨_, (pss_cons (ps_expr (pe_call Oneed_ring (hr.mono (by decide)) rfl mneed_ring kneed_ring bneed_ring .nil pass0 (pa_cons (pv 0) pa_nil)))
  (pss_cons (ps_expr (pe_call Oneed_ring (hr.mono (by decide)) rfl mneed_ring kneed_ring bneed_ring .nil pass0 (pa_cons (pv 1) pa_nil)))
  (pss_one (ps_ret (pe_cmpR op_eq (pe_call Onormal hr rfl mnormal knormal bnormal .nil pass0 (pa_cons (pv 0) pa_nil)) (pe_call Onormal hr rfl mnormal knormal bnormal .nil pass0 (pa_cons (pv 1) pa_nil)) (nomark _)))))), ?_⟩
  exact ⟨_, rfl, l, rfl, hl, _, rfl, o, rfl, ho, _, rfl, l, rfl, hl, fun a H1 ha hS1 => ⟨_, rfl, o, rfl, ho, fun b H2 hb hS2 => ⟨rfl, q _ H2 (alike_bl hl.1 ho.1 ha hb) (hS1.trans hS2)⟩⟩⟩
def sproot_of (_ : PySem.W.Frag) : Sp := fun vs H Q _ => ∃ l, vs = [T l] ∧ Wd l ∧ ∀ b H', IsLB l b → Same H H' → Q (T (l.take (per l b))) H'
theorem okroot_of (D : Def K mg "root_of" sroot_of ["ring"]) (B : Bs mg) (Glb : Glo mg)
    (hperiod_of : Good P w K mg base "period_of" speriod_of ["ring"] 5 (spperiod_of K)) :
    Good P w K mg base "root_of" sroot_of ["ring"] 6 (sproot_of K) := by
  refine D.good fun f fd F => ?_
  obtain ⟨fperiod_of, dperiod_of, Operiod_of, mperiod_of, kperiod_of, bperiod_of, Fperiod_of⟩ := hperiod_of
  refine F.ok scroot_of (fun vs H Q E h => ?_) (fun cdv A outer s H vs Q E hr h => ?_)
  · obtain ⟨l, rfl, hl, q⟩ := h
    first | rfl | (rcases h with ⟨_, _, rfl, _⟩ | ⟨_, rfl, _⟩ <;> rfl)
  obtain ⟨l, rfl, hl, q⟩ := h
  refine ⟨_, (pss_one (ps_ret (pe_slice sl_str (pv 0) po_none (po_some (pe_call Operiod_of hr rfl mperiod_of kperiod_of bperiod_of .nil pass0 (pa_cons (pv 0) pa_nil)))))), ?_⟩
  have hlen := hl.2.1
  refine ⟨_, rfl, _, rfl, l, rfl, hl, fun b H1 lb hS => ⟨_, rfl, _, rfl, T_line (by omega), ?_⟩⟩
  rw [cut_to]
  exact q b H1 lb hS
end
end My
namespace My
open PySem L2 PyProof.Rows
theorem hu70 {k : Nat} {A : Around} (h : Room k A) : A.units + 70 < cLine := by
  have := h.un
  omega
theorem eq_of_iff {x y : Bool} {p : Prop} (h1 : x = true ↔ p) (h2 : y = true ↔ p) : x = y := by
  cases x <;> cases y <;> simp_all
/-- the places at which the ring turned is the ring -/
def sm (l : List Nat) (i : Nat) : List Nat := ((List.range i).filter fun p => rot l (1 + p) == l).map (1 + ·)
theorem sm_yes {l : List Nat} {i : Nat} (h : rot l (1 + i) = l) : sm l (i + 1) = sm l i ++ [1 + i] := by simp [sm, List.range_succ, List.filter_append, h]
theorem sm_no {l : List Nat} {i : Nat} (h : ¬ rot l (1 + i) = l) : sm l (i + 1) = sm l i := by simp [sm, List.range_succ, List.filter_append, h]
theorem sm_len (l : List Nat) (i : Nat) : (sm l i).length ≤ i := by
  have := List.length_filter_le (fun p => rot l (1 + p) == l) (List.range i)
  rw [List.length_range] at this
  unfold sm
  rw [List.length_map]
  exact this
theorem sm_head {l : List Nat} {d : Nat} (d0 : 0 < d) (hr : rot l d = l) (hm : ∀ p, 0 < p → p < d → rot l p ≠ l) : ∀ i, (i < d → sm l i = []) ∧ (d ≤ i → (sm l i)[0]? = some d)
  | 0 => ⟨fun _ => rfl, fun h => by omega⟩
  | i + 1 => by
    obtain ⟨h1, h2⟩ := sm_head d0 hr hm i
    refine ⟨fun h => ?_, fun h => ?_⟩
    · rw [sm_no (hm _ (by omega) (by omega)), h1 (by omega)]
    · by_cases c : d ≤ i
      · have h3 := h2 c
        by_cases e : rot l (1 + i) = l
        · rw [sm_yes e, List.getElem?_append_left (List.getElem?_eq_some_iff.mp h3).1]
          exact h3
        · rw [sm_no e]
          exact h3
      · have e : d = 1 + i := by omega
        rw [sm_yes (by rw [← e]; exact hr), h1 (by omega), e]
        rfl
/-- a dict of the turnings -/
def dkey (l : List Nat) (j : Nat) : Key := Sum.inr ⟨(rot l j).toArray⟩
def dk (l : List Nat) (n : Nat) : List (Key × V) := (List.range n).map fun j => (dkey l j, V.int 1)
theorem dk_succ (l : List Nat) (n : Nat) : dk l (n + 1) = dk l n ++ [(dkey l n, V.int 1)] := by
  unfold dk
  rw [List.range_succ, List.map_append]
  rfl
theorem dkey_inj {l : List Nat} {i j : Nat} (h : dkey l i = dkey l j) : rot l i = rot l j := by
  have h2 : (⟨(rot l i).toArray⟩ : Str) = ⟨(rot l j).toArray⟩ := Sum.inr.inj h
  exact T_inj.mp (congrArg V.str h2)
theorem dk_old {l : List Nat} {n : Nat} {k : Key} (h : (dk l n).any (fun kv => decide (kv.1 = k)) = true) : putK (dk l n) k (.int 1) = dk l n := by
  unfold putK
  rw [if_pos h]
  have e : ∀ kv ∈ dk l n, (if kv.1 = k then (kv.1, V.int 1) else kv) = id kv := by
    intro kv hkv
    obtain ⟨j, _, rfl⟩ := List.mem_map.mp hkv
    by_cases c : dkey l j = k
    · rw [if_pos c]
      rfl
    · rw [if_neg c]
      rfl
  rw [List.map_congr_left e, List.map_id]
theorem merge_dk {l : List Nat} {d : Nat} (h0 : 0 < l.length) (d0 : 0 < d) (dn : d ≤ l.length) (hr : rot l d = l) (hm : ∀ p, 0 < p → p < d → rot l p ≠ l) : ∀ i, mergeK [] (dk l i) = dk l (min i d)
  | 0 => by
    rw [Nat.zero_min]
    rfl
  | i + 1 => by
    have ih := merge_dk h0 d0 dn hr hm i
    rw [dk_succ]
    unfold mergeK at ih ⊢
    rw [List.foldl_append, ih, List.foldl_cons, List.foldl_nil]
    by_cases c : i < d
    · rw [Nat.min_eq_left (by omega), Nat.min_eq_left (by omega), dk_succ]
      apply putK_new
      cases e : valV (dk l i) (dkey l i) with
      | none => rfl
      | some v =>
        obtain ⟨kv, hkv, ek⟩ := List.mem_map.mp (valV_in e)
        obtain ⟨j, hj, rfl⟩ := List.mem_map.mp hkv
        have hji := List.mem_range.mp hj
        exact absurd (dkey_inj ek) (rot_unlike h0 dn hm hji c)
    · rw [Nat.min_eq_right (by omega), Nat.min_eq_right (by omega)]
      apply dk_old
      rw [List.any_eq_true]
      refine ⟨(dkey l (i % d), V.int 1), List.mem_map.mpr ⟨i % d, List.mem_range.mpr (Nat.mod_lt _ d0), rfl⟩, ?_⟩
      apply decide_eq_true
      unfold dkey
      rw [← rot_per h0 d0 hr i]
theorem paired_mono {α β : Type} {F G : α → β → Prop} (h : ∀ a b, F a b → G a b) : ∀ {l1 : List α} {l2 : List β}, Paired F l1 l2 → Paired G l1 l2
  | _, _, .nil => .nil
  | _, _, .cons a r => .cons (h _ _ a) (paired_mono h r)
theorem paired_len {α β : Type} {F : α → β → Prop} : ∀ {l1 : List α} {l2 : List β}, Paired F l1 l2 → l1.length = l2.length
  | _, _, .nil => rfl
  | _, _, .cons _ r => congrArg Nat.succ (paired_len r)
/-! ### lists of ints compared -/
abbrev iz (L : List Int) : List V := L.map V.int
theorem iv_iz (L : List Nat) : iv L = iz (L.map fun n : Nat => (n : Int)) := by
  unfold iv iz
  rw [List.map_map]
  rfl
theorem iteNb {x : Bool} {A B : Prop} (h : x = true) (b : B) : if (!x) = true then A else B := by
  rw [h]
  exact iteF b
theorem bl_is {x : Bool} {Q : VK} {H : Hp} (h : x = true) (q : Q (.bl true) H) : Q (.bl x) H := by
  rw [h]
  exact q
section
variable {P : Program} {w : World} {K : PySem.W.Frag} {mg : Str → Option Value} {base : Heap}
theorem idx_cast {l : List Nat} (b : Nat) : (b : Int) % (((⟨l.toArray⟩ : Str).length : Nat) : Int) = ((b % l.length : Nat) : Int) := by
  rw [T_len]
  rfl
theorem rows_at {l : List Nat} {n p : Nat} (h : p < n) : atI ((rows l n).map T) ((p : Nat) : Int) = some (T (rot l p)) := atI_nat (rows_get l n p h)
def sp_law_ring_right (_ : PySem.W.Frag) : Sp := fun vs H Q _ => ∃ l, ∃ b : Nat, vs = [T l, .int (b : Int)] ∧ Wd l ∧ ∀ H', Same H H' → Q (.bl true) H'
theorem ok_law_ring_right (D : Def K mg "_law_ring_right" s_law_ring_right ["_law_ring_here", "_law_by"]) (B : Bs mg) (Glb : Glo mg)
    (hperiod_of : Good P w K mg base "period_of" speriod_of ["ring"] 5 (spperiod_of K))
    (h_law_round : Good P w K mg base "_law_round" s_law_round ["_law_ring_here", "_law_place", "_law_many"] 1 (sp_law_round K))
    (hturned : Good P w K mg base "turned" sturned ["ring", "by"] 5 (spturned K))
    (hnormal : Good P w K mg base "normal" snormal ["ring"] 5 (spnormal K))
    (hplain_normal : Good P w K mg base "plain_normal" splain_normal ["ring"] 5 (spplain_normal K))
    (hroot_of : Good P w K mg base "root_of" sroot_of ["ring"] 6 (sproot_of K)) :
    Good P w K mg base "_law_ring_right" s_law_ring_right ["_law_ring_here", "_law_by"] 7 (sp_law_ring_right K) := by
  refine D.good fun f fd F => ?_
  obtain ⟨fperiod_of, dperiod_of, Operiod_of, mperiod_of, kperiod_of, bperiod_of, Fperiod_of⟩ := hperiod_of
  obtain ⟨f_law_round, d_law_round, O_law_round, m_law_round, k_law_round, b_law_round, F_law_round⟩ := h_law_round
  obtain ⟨fturned, dturned, Oturned, mturned, kturned, bturned, Fturned⟩ := hturned
  obtain ⟨fnormal, dnormal, Onormal, mnormal, knormal, bnormal, Fnormal⟩ := hnormal
  obtain ⟨fplain_normal, dplain_normal, Oplain_normal, mplain_normal, kplain_normal, bplain_normal, Fplain_normal⟩ := hplain_normal
  obtain ⟨froot_of, droot_of, Oroot_of, mroot_of, kroot_of, broot_of, Froot_of⟩ := hroot_of
  have kb_plain_normal_ring : KBinds K dplain_normal ["ring"] ["ring"] g1 g1 := fun_kbinds Fplain_normal g1 g1 rel1 (fun _ _ _ _ _ _ us ws hl => by
    obtain ⟨rfl, a0, rfl⟩ := g1_inv hl
    rfl)
  have kb_root_of_ring : KBinds K droot_of ["ring"] ["ring"] g1 g1 := fun_kbinds Froot_of g1 g1 rel1 (fun _ _ _ _ _ _ us ws hl => by
    obtain ⟨rfl, a0, rfl⟩ := g1_inv hl
    rfl)
  have kb_turned_by_ring : KBinds K dturned ["ring", "by"] ["by", "ring"] g21 g21 := fun_kbinds Fturned g21 g21 rel21 (fun _ _ _ _ _ _ us ws hl => by
    obtain ⟨rfl, a0, a1, rfl⟩ := g21_inv hl
    rfl)
  refine F.ok sc_law_ring_right (fun vs H Q E h => ?_) (fun cdv A outer s H vs Q E hr h => ?_)
  · obtain ⟨l, b, rfl, hl, q⟩ := h
    first | rfl | (rcases h with ⟨_, _, rfl, _⟩ | ⟨_, rfl, _⟩ <;> rfl)
  obtain ⟨l, b, rfl, hl, q⟩ := h
  refine ⟨_, (pss_cons (ps_set (i := 2) sc_law_ring_right.nd rfl (by first | exact Or.inl rfl | exact Or.inr rfl) (pe_lc (own := [("_law_place", 6)]) (g := gName 6) (by rfl) sc_law_ring_right.nd (pi_range1 (by rfl) B.range (pa_cons (pe_callB call_len_str (by rfl) B.len (by decide +kernel) (pa_cons (pv 0) pa_nil)) pa_nil)) (blkOk_by (own := [("_law_place", 6)]) (N := ["_law_ring_here", "_law_by", "_law_rows", "_law_same", "_law_period", "_law_unlike", "_law_place", "_law_row"]) (sc := defScope s_law_ring_right) (by decide +kernel)) (fun _ _ _ _ _ => (pg_name (i := 6) sc_law_ring_right.nd rfl (by first | exact Or.inl rfl | exact Or.inr rfl))) (fun _ _ _ _ _ => pts_nil) (fun _ _ _ _ _ => (pe_call O_law_round (hr.mono (by decide)) rfl m_law_round k_law_round b_law_round .nil pass0 (pa_cons (pv 0) (pa_cons (pv 6) (pa_cons (pe_callB call_len_str (by rfl) B.len (by decide +kernel) (pa_cons (pv 0) pa_nil)) pa_nil)))))))
  (pss_cons (ps_if (PW.pt (pw_or (pt_cmpR op_ne (pe_call Oturned (hr.mono (by decide)) rfl mturned kturned bturned .nil pass0 (pa_cons (pv 0) (pa_cons (pv 1) pa_nil))) (pe_ix ix_list (pv 2) (pe_op op_mod (pv 1) (pe_callB call_len_str (by rfl) B.len (by decide +kernel) (pa_cons (pv 0) pa_nil))) (fun _ _ => rfl)) (nomark _)) (pw_or1 (pt_cmpR op_ne (pe_callKK Oturned (hr.mono (by decide)) (by rfl) mturned kturned kb_turned_by_ring pass0 (pk_cons (pe_op op_add (pv 1) (pe_callB call_len_str (by rfl) B.len (by decide +kernel) (pa_cons (pv 0) pa_nil))) (pk_cons (pv 0) pk_nil))) (pe_ix ix_list (pv 2) (pe_op op_mod (pv 1) (pe_callB call_len_str (by rfl) B.len (by decide +kernel) (pa_cons (pv 0) pa_nil))) (fun _ _ => rfl)) (nomark _)))))
    (pss_one (ps_ret pe_bl)) pss_nil)
  (pss_cons (ps_if (PW.pt (pw_or (pt_cmpR op_ne (pe_call Onormal (hr.mono (by decide)) rfl mnormal knormal bnormal .nil pass0 (pa_cons (pv 0) pa_nil)) (pe_callB (cr_minS rfl hr.units) (by rfl) B.min (by decide +kernel) (pa_cons (pv 2) pa_nil)) (nomark _)) (pw_or (pt_cmpR op_ne (pe_callKK Oplain_normal (hr.mono (by decide)) (by rfl) mplain_normal kplain_normal kb_plain_normal_ring pass0 (pk_cons (pv 0) pk_nil)) (pe_callB (cr_minS rfl hr.units) (by rfl) B.min (by decide +kernel) (pa_cons (pv 2) pa_nil)) (nomark _)) (pw_or1 (pt_cmpR op_ne (pe_call Onormal (hr.mono (by decide)) rfl mnormal knormal bnormal .nil pass0 (pa_cons (pe_ix ix_list (pv 2) (pe_op op_mod (pv 1) (pe_callB call_len_str (by rfl) B.len (by decide +kernel) (pa_cons (pv 0) pa_nil))) (fun _ _ => rfl)) pa_nil)) (pe_callB (cr_minS rfl hr.units) (by rfl) B.min (by decide +kernel) (pa_cons (pv 2) pa_nil)) (nomark _))))))
    (pss_one (ps_ret pe_bl)) pss_nil)
  (pss_cons (ps_setLc (i := 3) (own := [("_law_place", 6)]) (g := gName 6) (by rfl) sc_law_ring_right.nd rfl rfl (sw_true rfl rfl rfl (by decide +kernel)) (pi_range2 (by rfl) B.range (pa_cons pe_int (pa_cons (pe_op op_add (pe_callB call_len_str (by rfl) B.len (by decide +kernel) (pa_cons (pv 0) pa_nil)) pe_int) pa_nil))) (blkOk_by (own := [("_law_place", 6)]) (N := ["_law_ring_here", "_law_by", "_law_rows", "_law_same", "_law_period", "_law_unlike", "_law_place", "_law_row"]) (sc := defScope s_law_ring_right) (by decide +kernel)) (fun _ _ _ _ _ => (pg_name (i := 6) sc_law_ring_right.nd rfl (by first | exact Or.inl rfl | exact Or.inr rfl))) (fun _ _ _ _ _ => (pts_one (pt_cmpR op_eq (pe_ix (ix_listK (K := K) rfl) (pv 2) (pe_op op_mod (pv 6) (pe_callB call_len_str (by rfl) B.len (by decide +kernel) (pa_cons (pv 0) pa_nil))) (fun _ _ => rfl)) (pv 0) (nomark _)))) (fun _ _ _ _ _ => (pv 6)))
  (pss_cons (ps_set (i := 4) sc_law_ring_right.nd rfl (by first | exact Or.inl rfl | exact Or.inr rfl) (pe_call Operiod_of (hr.mono (by decide)) rfl mperiod_of kperiod_of bperiod_of .nil pass0 (pa_cons (pv 0) pa_nil)))
  (pss_cons (ps_if (PW.pt (pw_or (pt_cmpR op_ne (pv 4) (pe_ix ix_list (pv 3) pe_int (fun _ _ => rfl)) (nomark _)) (pw_or (pt_cmpR op_ne (pe_op op_mod (pe_callB call_len_str (by rfl) B.len (by decide +kernel) (pa_cons (pv 0) pa_nil)) (pv 4)) pe_int (nomark _)) (pw_or1 (pt_cmpR op_ne (pe_callKK Oroot_of hr (by rfl) mroot_of kroot_of kb_root_of_ring pass0 (pk_cons (pv 0) pk_nil)) (pe_slice sl_str (pv 0) po_none (po_some (pv 4))) (nomark _))))))
    (pss_one (ps_ret pe_bl)) pss_nil)
  (pss_cons (ps_set (i := 5) sc_law_ring_right.nd rfl (by first | exact Or.inl rfl | exact Or.inr rfl) (pe_callTy (call_dictP rfl) (by rfl) B.dict (by decide +kernel) (pa_cons (pe_lc (own := [("_law_row", 7)]) (g := gName 7) (by rfl) sc_law_ring_right.nd (pi_list (pv 2)) (blkOk_by (own := [("_law_row", 7)]) (N := ["_law_ring_here", "_law_by", "_law_rows", "_law_same", "_law_period", "_law_unlike", "_law_place", "_law_row"]) (sc := defScope s_law_ring_right) (by decide +kernel)) (fun _ _ _ _ _ => (pg_name (i := 7) sc_law_ring_right.nd rfl (by first | exact Or.inl rfl | exact Or.inr rfl))) (fun _ _ _ _ _ => pts_nil) (fun _ _ _ _ _ => (pe_tup (pa_cons (pv 7) (pa_cons pe_int pa_nil))))) pa_nil)))
  (pss_one (ps_ret (pe_and (pe_cmpR op_eq (pv 0) (pe_op op_mul_str (pe_slice sl_str (pv 0) po_none (po_some (pv 4))) (pe_op op_fdiv (pe_callB call_len_str (by rfl) B.len (by decide +kernel) (pa_cons (pv 0) pa_nil)) (pv 4))) (nomark _)) (pe_one (pe_cmpR op_eq (pe_callB call_lenD (by rfl) B.len (by decide +kernel) (pa_cons (pv 5) pa_nil)) (pv 4) (nomark _))))))))))))), ?_⟩
  have hlen := hl.2.1
  have h0 := hl.1
  have hbn : b % l.length < l.length := Nat.mod_lt _ h0
  have hpos : (0 : Int) < (((⟨l.toArray⟩ : Str).length : Nat) : Int) := by rw [T_len]; omega
  refine ⟨_, rfl, _, rfl, T_line (by omega), _, rfl, (by rw [T_len]; omega), (by rw [T_len]; omega), fun D nD => ?_⟩
  rw [show ((((⟨l.toArray⟩ : Str).length : Nat) : Int)).toNat = l.length by rw [T_len]; rfl]
  refine lc_range (lo := 0) (n := l.length) (fun i H' => Same H H' ∧ H' D = some (.lst ((rows l i).map T))) ⟨same_new nD _, upd_same⟩ ?_ ?_
  · rintro i H1 hi ⟨hS, hD⟩
    refine ⟨rfl, _, rfl, _, rfl, _, rfl, _, rfl, T_line (by omega), l, i, l.length, ?_, hl, by omega, _, hD, ?_, same_upd hS nD, ?_⟩
    · rw [T_len, Int.zero_add]
      rfl
    · rw [List.length_map, rows_len]
      exact small1000 (by omega)
    · rw [rows_succ, List.map_append]
      exact upd_same
  rintro H1 ⟨hS1, hD1⟩
  -- turned
  refine ⟨_, rfl, _, rfl, l, b, rfl, hl, _, rfl, _, rfl, _, rfl, _, rfl, T_line (by omega), _, _, rfl, rfl, hpos, _, _, _, T (rot l (b % l.length)), rfl, rfl, SqL.of hD1, (by rw [idx_cast]; exact rows_at hbn), rfl, _, rfl, iteNS (by rw [rot_mod]; rfl) ?_⟩
  refine ⟨_, rfl, _, rfl, _, rfl, T_line (by omega), _, _, rfl, rfl, _, rfl, l, b + l.length, ?_, hl, _, rfl, _, rfl, _, rfl, _, rfl, T_line (by omega), _, _, rfl, rfl, hpos, _, _, _, T (rot l (b % l.length)), rfl, rfl, SqL.of hD1, (by rw [idx_cast]; exact rows_at hbn), rfl, _, rfl, iteNS ?_ ?_⟩
  · show [T l, V.int ((b : Int) + (((⟨l.toArray⟩ : Str).length : Nat) : Int))] = _
    rw [T_len]
    rfl
  · have e : rot l (b + l.length) = rot l (b % l.length) := by
      rw [rot_mod, ← rot_mod l (b + l.length), Nat.add_mod_right, rot_mod]
    exact congrArg T e
  -- normal
  refine ⟨_, rfl, l, rfl, hl, fun m1 H2 hm1 hS2 => ⟨_, rfl, _, rows l l.length, rfl, SqL.of (hS2 _ _ hD1), rows_ne h0, fun m2 hm2 hle2 => ⟨rfl, _, rfl, iteNS ?_ ?_⟩⟩⟩
  · rw [least_unique hm1 (least_of_min h0 hm2 hle2)]
  refine ⟨_, rfl, l, rfl, hl, fun m3 H3 hm3 hS3 => ⟨_, rfl, _, rows l l.length, rfl, SqL.of (hS3 _ _ (hS2 _ _ hD1)), rows_ne h0, fun m4 hm4 hle4 => ⟨rfl, _, rfl, iteNS ?_ ?_⟩⟩⟩
  · rw [least_unique hm3 (least_of_min h0 hm4 hle4)]
  have hD3 := hS3 _ _ (hS2 _ _ hD1)
  refine ⟨_, rfl, _, rfl, _, rfl, _, rfl, T_line (by omega), _, _, rfl, rfl, hpos, _, _, _, T (rot l (b % l.length)), rfl, rfl, SqL.of hD3, (by rw [idx_cast]; exact rows_at hbn), rot l (b % l.length), rfl, wd_rot hl _, fun m5 H4 hm5 hS4 => ⟨_, rfl, _, rows l l.length, rfl, SqL.of (hS4 _ _ hD3), rows_ne h0, fun m6 hm6 hle6 => ⟨rfl, _, rfl, iteNS ?_ ?_⟩⟩⟩
  · rw [least_unique (least_rot h0 hm5) (least_of_min h0 hm6 hle6)]
  have hD4 := hS4 _ _ hD3
  have hS04 : Same H H4 := ((hS1.trans hS2).trans hS3).trans hS4
  -- same
  refine ⟨_, rfl, _, rfl, T_line (by omega), _, _, rfl, rfl, _, _, rfl, ⟨by omega, by omega, by rw [T_len]; omega, by rw [T_len]; omega⟩, fun D2 nD2 => ?_⟩
  rw [show ((((⟨l.toArray⟩ : Str).length : Nat) : Int) + 1 - 1).toNat = l.length by rw [T_len]; omega]
  refine lc_range (lo := 1) (n := l.length) (fun i H' => Same H4 H' ∧ H' D2 = some (.lst (iv (sm l i)))) ⟨same_new nD2 _, upd_same⟩ ?_ ?_
  · rintro i H5 hi ⟨hS5, hD5⟩
    refine ⟨rfl, _, rfl, _, rfl, _, rfl, _, rfl, T_line (by omega), _, _, rfl, rfl, hpos, _, _, _, T (rot l ((1 + i) % l.length)), rfl, rfl, SqL.of (hS5 _ _ hD4), ?_, _, rfl, rfl, _, rfl, ?_⟩
    · rw [show ((1 : Int) + (i : Int)) % (((⟨l.toArray⟩ : Str).length : Nat) : Int) = (((1 + i) % l.length : Nat) : Int) from idx_cast (1 + i)]
      exact rows_at (Nat.mod_lt _ h0)
    · refine ite2 (fun c1 => ?_) (fun c1 => ?_)
      · have e : rot l (1 + i) = l := by
          have := T_inj.mp (of_decide_eq_true c1 : T (rot l ((1 + i) % l.length)) = T l)
          rw [rot_mod] at this
          exact this
        refine ⟨_, rfl, _, hD5, ?_, same_upd hS5 nD2, ?_⟩
        · have := sm_len l i
          rw [List.length_map]
          exact small1000 (by omega)
        · rw [sm_yes e, iv_app]
          exact upd_same
      · have e : ¬ rot l (1 + i) = l := fun z => by
          have c2 : ¬ T (rot l ((1 + i) % l.length)) = T l := of_decide_eq_false (Bool.eq_false_iff.mpr c1)
          rw [rot_mod] at c2
          exact c2 (by rw [z])
        rw [sm_no e]
        exact ⟨hS5, hD5⟩
  rintro H5 ⟨hS5, hD5⟩
  -- period
  refine ⟨_, rfl, l, rfl, hl, fun bd H6 lb hS6 => ?_⟩
  obtain ⟨p0, pn, pr, pm, pd⟩ := per_facts lb
  have hhead := (sm_head p0 pr pm l.length).2 pn
  refine ⟨_, rfl, _, rfl, _, _, _, .int ((per l bd : Nat) : Int), rfl, rfl, SqL.of (hS6 _ _ hD5), iv_at (j := 0) hhead, rfl, _, rfl, iteNS rfl ?_⟩
  refine ⟨_, rfl, _, rfl, T_line (by omega), _, rfl, _, _, rfl, rfl, (by show (0 : Int) < ((per l bd : Nat) : Int); omega), rfl, _, rfl, iteNS ?_ ?_⟩
  · have e : ((((⟨l.toArray⟩ : Str).length : Nat) : Int) % ((per l bd : Nat) : Int)) = ((l.length % per l bd : Nat) : Int) := by
      rw [T_len]
      rfl
    show V.int ((((⟨l.toArray⟩ : Str).length : Nat) : Int) % ((per l bd : Nat) : Int)) = V.int 0
    rw [e, pd]
    rfl
  refine ⟨_, rfl, l, rfl, hl, fun bd2 H7 lb2 hS7 => ⟨_, rfl, _, rfl, _, rfl, _, rfl, T_line (by omega), rfl, _, rfl, iteNS ?_ ?_⟩⟩
  · rw [cut_to, lb_unique lb2 lb]
  -- unlike
  have hD7 := hS7 _ _ (hS6 _ _ (hS5 _ _ hD4))
  have hS07 : Same H H7 := ((hS04.trans hS5).trans hS6).trans hS7
  refine ⟨_, rfl, _, rfl, ⟨_, SqL.of hD7⟩, fun D3 nD3 => ?_⟩
  refine lc_list (K := K) (a := D) (xs := (rows l l.length).map T) (fun i H' => Same H7 H' ∧ ∃ ts : List Addr, H' D3 = some (.lst (ts.map V.ref)) ∧ Paired (fun p (kv : Key × V) => H' p = some (.tup [kV kv.1, kv.2]) ∧ p ≠ D3) ts (dk l i)) ⟨same_new nD3 _, [], upd_same, .nil⟩ (fun i H' _ ⟨hS', _⟩ => SqL.of (hS' _ _ hD7)) ?_ ?_
  · rintro i x H8 hx ⟨hS8, ts, hD8, hP8⟩
    have hil : i < l.length := by
      have := (List.getElem?_eq_some_iff.mp hx).1
      rw [List.length_map, rows_len] at this
      exact this
    rw [rows_get l l.length i hil] at hx
    cases hx
    have hlt := paired_len hP8
    have hdl : (dk l i).length = i := by simp [dk]
    refine ⟨rfl, _, rfl, (by show 2 ≤ sizeLine; decide), fun t nt => ⟨_, same_new nt _ _ _ hD8, ?_, same_upd (hS8.trans (same_new nt _)) nD3, ts ++ [t], ?_, ?_⟩⟩
    · rw [List.length_map]
      exact small1000 (by omega)
    · rw [List.map_append]
      exact upd_same
    · have ntD : t ≠ D3 := fun z => by
        rw [z, hD8] at nt
        cases nt
      rw [dk_succ]
      refine Paired.snoc (paired_mono (fun p kv h => ⟨by rw [upd_ne h.2]; exact same_new nt _ _ _ h.1, h.2⟩) hP8) ⟨?_, ntD⟩
      rw [upd_ne ntD]
      exact upd_same
  rintro H8 ⟨hS8, ts, hD8, hP8⟩
  rw [show ((rows l l.length).map T).length = l.length by rw [List.length_map, rows_len]] at hP8
  refine ⟨_, ts, dk l l.length, rfl, SqL.of hD8, paired_mono (fun p kv h => SqT.of h.1) hP8, fun pdd npd => ?_⟩
  rw [merge_dk h0 p0 pn pr pm l.length, Nat.min_eq_right pn]
  have hq : l.length / per l bd * per l bd = l.length := by
    have := Nat.div_add_mod l.length (per l bd)
    rw [pd, Nat.add_zero, Nat.mul_comm] at this
    exact this
  have hq1 : 1 ≤ l.length / per l bd := Nat.div_pos pn p0
  have hq2 : l.length / per l bd ≤ l.length := Nat.div_le_self _ _
  refine ⟨_, rfl, _, rfl, _, rfl, _, rfl, _, rfl, T_line (by omega), _, rfl, _, rfl, T_line (by omega), _, rfl, _, _, rfl, rfl, ⟨by omega, by omega⟩, l.take (per l bd), l.length / per l bd, ?_, ?_, hq1, by omega, by rw [List.length_take]; omega, rfl, _, rfl, iteYes ?_ ⟨_, rfl, _, _, rfl, upd_same, _, rfl, rfl, bl_true ?_ (q _ ((hS07.trans hS8).trans (same_new npd _)))⟩⟩
  · rw [cut_to]
  · show V.int ((((⟨l.toArray⟩ : Str).length : Nat) : Int) / ((per l bd : Nat) : Int)) = _
    rw [T_len]
    rfl
  · rw [root_again h0 pr _ (by omega), hq, List.take_length]
  · have : (dk l (per l bd)).length = per l bd := by simp [dk]
    rw [this]
end
end My
namespace My
open PySem L2 PyProof.Rows
theorem in_rows {l o : List Nat} (n : Nat) : inV (T o) ((rows l n).map T) = true ↔ ∃ p, p < n ∧ o = rot l p := by
  unfold inV
  rw [List.any_eq_true]
  constructor
  · rintro ⟨v, hv, e⟩
    obtain ⟨r, hr, rfl⟩ := List.mem_map.mp hv
    obtain ⟨p, hp, rfl⟩ := List.mem_map.mp hr
    refine ⟨p, List.mem_range.mp hp, ?_⟩
    have e2 : (⟨(rot l p).toArray⟩ : Str) = ⟨o.toArray⟩ := by
      have e3 : ((⟨(rot l p).toArray⟩ : Str) == ⟨o.toArray⟩) = true := e
      exact beq_iff_eq.mp e3
    exact (T_inj.mp (congrArg V.str e2)).symm
  · rintro ⟨p, hp, rfl⟩
    refine ⟨T (rot l p), List.mem_map.mpr ⟨rot l p, List.mem_map.mpr ⟨p, List.mem_range.mpr hp, rfl⟩, rfl⟩, ?_⟩
    show ((⟨(rot l p).toArray⟩ : Str) == ⟨(rot l p).toArray⟩) = true
    exact beq_self_eq_true _
theorem flat_T : ∀ L : List (List Nat), (L.map T).all flatV = true
  | [] => rfl
  | a :: r => by
    rw [List.map_cons, List.all_cons, flat_T r]
    rfl
section
variable {P : Program} {w : World} {K : PySem.W.Frag} {mg : Str → Option Value} {base : Heap}
def sp_law_alike_right (_ : PySem.W.Frag) : Sp := fun vs H Q _ => ∃ l o, vs = [T l, T o] ∧ Wd l ∧ Wd o ∧ ∀ H', Same H H' → Q (.bl true) H'
theorem ok_law_alike_right (D : Def K mg "_law_alike_right" s_law_alike_right ["_law_ring_here", "_law_other"]) (B : Bs mg) (Glb : Glo mg)
    (h_law_round : Good P w K mg base "_law_round" s_law_round ["_law_ring_here", "_law_place", "_law_many"] 1 (sp_law_round K))
    (hare_alike : Good P w K mg base "are_alike" sare_alike ["ring", "other"] 6 (spare_alike K))
    (hnormal : Good P w K mg base "normal" snormal ["ring"] 5 (spnormal K)) :
    GoodG P w K mg base "_law_alike_right" s_law_alike_right ["_law_ring_here", "_law_other"] 7 (sp_law_alike_right K) := by
  refine D.goodG fun f fd F => ?_
  obtain ⟨f_law_round, d_law_round, O_law_round, m_law_round, k_law_round, b_law_round, F_law_round⟩ := h_law_round
  obtain ⟨fare_alike, dare_alike, Oare_alike, mare_alike, kare_alike, bare_alike, Fare_alike⟩ := hare_alike
  obtain ⟨fnormal, dnormal, Onormal, mnormal, knormal, bnormal, Fnormal⟩ := hnormal
  have kb_are_alike_other_ring : KBinds K dare_alike ["ring", "other"] ["other", "ring"] g21 g21 := fun_kbinds Fare_alike g21 g21 rel21 (fun _ _ _ _ _ _ us ws hl => by
    obtain ⟨rfl, a0, a1, rfl⟩ := g21_inv hl
    rfl)
  refine FnG.ofBody F sc_law_alike_right (fun vs H Q E h => ?_) (fun cdv A outer s H vs Q E hr quiet h => ?_)
  · obtain ⟨l, o, rfl, hl, ho, q⟩ := h
    first | rfl | (rcases h with ⟨_, _, rfl, _⟩ | ⟨_, rfl, _⟩ <;> rfl)
  obtain ⟨l, o, rfl, hl, ho, q⟩ := h
  have hur := hu70 hr
  refine ⟨_, (pss_cons (ps_setLc (i := 2) (own := [("_law_place", 4)]) (g := gName 4) (by rfl) sc_law_alike_right.nd rfl rfl (sw_true rfl rfl rfl (by decide +kernel)) (pi_range1 (by rfl) B.range (pa_cons (pe_callB call_len_str (by rfl) B.len (by decide +kernel) (pa_cons (pv 0) pa_nil)) pa_nil)) (blkOk_by (own := [("_law_place", 4)]) (N := ["_law_ring_here", "_law_other", "_law_rows", "_law_told", "_law_place"]) (sc := defScope s_law_alike_right) (by decide +kernel)) (fun _ _ _ _ _ => (pg_name (i := 4) sc_law_alike_right.nd rfl (by first | exact Or.inl rfl | exact Or.inr rfl))) (fun _ _ _ _ _ => pts_nil) (fun _ _ _ _ _ => (pe_call O_law_round (hr.mono (by decide)) rfl m_law_round k_law_round b_law_round .nil pass0 (pa_cons (pv 0) (pa_cons (pv 4) (pa_cons (pe_callB call_len_str (by rfl) B.len (by decide +kernel) (pa_cons (pv 0) pa_nil)) pa_nil))))))
  (pss_cons (ps_set (i := 3) sc_law_alike_right.nd rfl (by first | exact Or.inl rfl | exact Or.inr rfl) (pe_lst (pa_cons (pe_call Oare_alike hr rfl mare_alike kare_alike bare_alike .nil pass0 (pa_cons (pv 0) (pa_cons (pv 1) pa_nil))) (pa_cons (pe_callKK Oare_alike hr (by rfl) mare_alike kare_alike kb_are_alike_other_ring pass0 (pk_cons (pv 0) (pk_cons (pv 1) pk_nil))) (pa_cons (pe_cmpR op_eq (pe_call Onormal (hr.mono (by decide)) rfl mnormal knormal bnormal .nil pass0 (pa_cons (pv 0) pa_nil)) (pe_call Onormal (hr.mono (by decide)) rfl mnormal knormal bnormal .nil pass0 (pa_cons (pv 1) pa_nil)) (nomark _)) pa_nil)))))
  (pss_one (ps_ret (pe_cmpR op_eq (pe_callB (call_repr_data quiet hur) (by rfl) B.repr (by decide +kernel) (pa_cons (pv 3) pa_nil)) (pe_callB (call_repr_data quiet hur) (by rfl) B.repr (by decide +kernel) (pa_cons (pe_op op_rep (pe_lst (pa_cons (pe_cmpR op_in_seq (pv 1) (pv 2) (by rfl)) pa_nil)) pe_int) pa_nil)) (nomark _)))))), ?_⟩
  have hlen := hl.2.1
  have h0 := hl.1
  refine ⟨_, rfl, _, rfl, T_line (by omega), _, rfl, (by rw [T_len]; omega), (by rw [T_len]; omega), fun D nD => ?_⟩
  rw [show ((((⟨l.toArray⟩ : Str).length : Nat) : Int)).toNat = l.length by rw [T_len]; rfl]
  refine lc_range (lo := 0) (n := l.length) (fun i H' => Same H H' ∧ H' D = some (.lst ((rows l i).map T))) ⟨same_new nD _, upd_same⟩ ?_ ?_
  · rintro i H1 hi ⟨hS, hD⟩
    refine ⟨rfl, _, rfl, _, rfl, _, rfl, _, rfl, T_line (by omega), l, i, l.length, ?_, hl, by omega, _, hD, ?_, same_upd hS nD, ?_⟩
    · rw [T_len, Int.zero_add]
      rfl
    · rw [List.length_map, rows_len]
      exact small1000 (by omega)
    · rw [rows_succ, List.map_append]
      exact upd_same
  rintro H1 ⟨hS1, hD1⟩
  refine ⟨_, rfl, _, rfl, l, o, rfl, hl, ho, fun x H2 hx hS2 => ⟨_, rfl, _, rfl, o, l, rfl, ho, hl, fun y H3 hy hS3 => ⟨_, rfl, l, rfl, hl, fun a H4 ha hS4 => ⟨_, rfl, o, rfl, ho, fun b H5 hb hS5 => ⟨rfl, (by show 3 ≤ sizeLine; decide), fun p np => ?_⟩⟩⟩⟩⟩
  have hz := alike_bl h0 ho.1 ha hb
  have hyx : y = true ↔ ∃ p, p < l.length ∧ o = rot l p := by
    rw [hy, ← alike_iff ho.1 h0 hb ha, ← alike_iff h0 ho.1 ha hb]
    exact eq_comm
  have exy : y = x := eq_of_iff hyx hx
  have exz : decide (T a = T b) = x := eq_of_iff hz hx
  subst exy
  rw [exz]
  have hD5 : H5 D = some (.lst ((rows l l.length).map T)) := hS5 _ _ (hS4 _ _ (hS3 _ _ (hS2 _ _ hD1)))
  have hS05 : Same H H5 := (((hS1.trans hS2).trans hS3).trans hS4).trans hS5
  have hD6 := same_new np (.lst [.bl y, .bl y, .bl y]) _ _ hD5
  have hS06 := hS05.trans (same_new np (.lst [.bl y, .bl y, .bl y]))
  refine ⟨_, rfl, p, .list [.bool y, .bool y, .bool y], rfl, .lst (SqL.of upd_same) (.cons (.bl y) (.cons (.bl y) (.cons (.bl y) .nil))), ?_, ?_, ?_, ?_, ?_⟩
  · cases y <;> decide +kernel
  · cases y <;> decide +kernel
  · cases y <;> decide +kernel
  · cases y <;> decide +kernel
  have ein : inV (T o) ((rows l l.length).map T) = y := eq_of_iff (in_rows l.length) hx
  refine ⟨_, rfl, _, rfl, D, _, rfl, .inl (SqL.of hD6), rfl, flat_T _, (by show 1 ≤ sizeLine; decide), fun p2 np2 => ?_⟩
  refine ⟨p2, 3, _, rfl, rfl, upd_same, by decide, by decide, (by show 1 * 3 ≤ sizeLine; decide), fun p3 np3 => ?_⟩
  have e3 : (List.replicate (3 : Int).toNat [V.bl (inV (T o) ((rows l l.length).map T))]).flatten = [.bl y, .bl y, .bl y] := by
    rw [ein]
    rfl
  refine ⟨p3, .list [.bool y, .bool y, .bool y], rfl, .lst (SqL.of (by rw [← e3]; exact upd_same)) (.cons (.bl y) (.cons (.bl y) (.cons (.bl y) .nil))), ?_, ?_, ?_, ?_, rfl, bl_true rfl (q _ ((hS06.trans (same_new np2 _)).trans (same_new np3 _)))⟩
  · cases y <;> decide +kernel
  · cases y <;> decide +kernel
  · cases y <;> decide +kernel
  · cases y <;> decide +kernel
end
end My
namespace My
open PySem L2 PyProof.Rows
theorem of_c : Str.ofString "c" = ⟨#[99]⟩ := by decide +kernel
theorem one_of {v : V} (h : v ∈ [V.str (Str.ofString "a"), V.str (Str.ofString "b"), V.str (Str.ofString "c")]) : ∃ c : Nat, v = T [c] ∧ 97 ≤ c ∧ c ≤ 122 := by
  rw [of_a, of_b, of_c] at h
  rcases List.mem_cons.mp h with h | h
  · exact ⟨97, h, by decide, by decide⟩
  rcases List.mem_cons.mp h with h | h
  · exact ⟨98, h, by decide, by decide⟩
  rcases List.mem_cons.mp h with h | h
  · exact ⟨99, h, by decide, by decide⟩
  · cases h
theorem wd_bent {W : List Nat} {t c : Nat} (h : Wd W) (ht : t < W.length) (h1 : 97 ≤ c) (h2 : c ≤ 122) : Wd ((W.take t ++ [c]) ++ W.drop (t + 1)) := by
  have hl : ((W.take t ++ [c]) ++ W.drop (t + 1)).length = W.length := by
    rw [List.length_append, List.length_append, List.length_take, List.length_drop]
    show min t W.length + 1 + (W.length - (t + 1)) = W.length
    omega
  refine ⟨by rw [hl]; exact h.1, by rw [hl]; exact h.2.1, fun x hx => ?_⟩
  rcases List.mem_append.mp hx with hx | hx
  · rcases List.mem_append.mp hx with hx | hx
    · exact h.2.2 x (List.mem_of_mem_take hx)
    · rw [List.mem_singleton.mp hx]
      exact ⟨h1, h2⟩
  · exact h.2.2 x (List.mem_of_mem_drop hx)
theorem PotAt.same {H H' : Hp} {a : Addr} (h : PotAt H a) (s : Same H H') : PotAt H' a := by
  obtain ⟨x, y, e, h⟩ := h
  exact ⟨x, y, s _ _ e, h⟩
def Gd (x : V) : Prop := ∃ w, x = T w ∧ Wd w
theorem by_of {v : V} {d : Nat} (h : v ∈ [V.int 0, V.int 1, V.int (d : Int), V.int 9999]) : ∃ b : Nat, v = V.int (b : Int) := by
  rcases List.mem_cons.mp h with h | h
  · exact ⟨0, h⟩
  rcases List.mem_cons.mp h with h | h
  · exact ⟨1, h⟩
  rcases List.mem_cons.mp h with h | h
  · exact ⟨d, h⟩
  rcases List.mem_cons.mp h with h | h
  · exact ⟨9999, h⟩
  · cases h
section
variable {P : Program} {w : World} {K : PySem.W.Frag} {mg : Str → Option Value} {base : Heap}
def splaw (K : PySem.W.Frag) : Sp := fun vs H Q _ => ∃ a, ∃ ns : List Int, vs = [.ref a] ∧ SqL K H a (ns.map V.int) ∧ ns.length ≤ 63 ∧ ∀ H', Q (.bl true) H'
theorem oklaw (D : Def K mg "law" slaw ["_law_script"]) (B : Bs mg) (Glb : Glo mg)
    (h_law_pot : Good P w K mg base "_law_pot" s_law_pot ["_law_script", "_law_k"] 1 (sp_law_pot K))
    (h_law_ring : Good P w K mg base "_law_ring" s_law_ring ["_law_pot_here", "_law_most"] 3 (sp_law_ring K))
    (h_law_ring_right : Good P w K mg base "_law_ring_right" s_law_ring_right ["_law_ring_here", "_law_by"] 7 (sp_law_ring_right K))
    (h_law_draw : Good P w K mg base "_law_draw" s_law_draw ["_law_pot_here", "_law_size"] 1 (sp_law_draw K))
    (h_law_round : Good P w K mg base "_law_round" s_law_round ["_law_ring_here", "_law_place", "_law_many"] 1 (sp_law_round K))
    (h_law_pick : Good P w K mg base "_law_pick" s_law_pick ["_law_pot_here", "_law_some"] 2 (sp_law_pick K))
    (h_law_alike_right : GoodG P w K mg base "_law_alike_right" s_law_alike_right ["_law_ring_here", "_law_other"] 7 (sp_law_alike_right K)) :
    GoodG P w K mg base "law" slaw ["_law_script"] 8 (splaw K) := by
  refine D.goodG fun f fd F => ?_
  obtain ⟨f_law_pot, d_law_pot, O_law_pot, m_law_pot, k_law_pot, b_law_pot, F_law_pot⟩ := h_law_pot
  obtain ⟨f_law_ring, d_law_ring, O_law_ring, m_law_ring, k_law_ring, b_law_ring, F_law_ring⟩ := h_law_ring
  obtain ⟨f_law_ring_right, d_law_ring_right, O_law_ring_right, m_law_ring_right, k_law_ring_right, b_law_ring_right, F_law_ring_right⟩ := h_law_ring_right
  obtain ⟨f_law_draw, d_law_draw, O_law_draw, m_law_draw, k_law_draw, b_law_draw, F_law_draw⟩ := h_law_draw
  obtain ⟨f_law_round, d_law_round, O_law_round, m_law_round, k_law_round, b_law_round, F_law_round⟩ := h_law_round
  obtain ⟨f_law_pick, d_law_pick, O_law_pick, m_law_pick, k_law_pick, b_law_pick, F_law_pick⟩ := h_law_pick
  obtain ⟨f_law_alike_right, d_law_alike_right, O_law_alike_right, m_law_alike_right, k_law_alike_right, b_law_alike_right, F_law_alike_right⟩ := h_law_alike_right
  refine FnG.ofBody F sclaw (fun vs H Q E h => ?_) (fun cdv A outer s H vs Q E hr quiet h => ?_)
  · obtain ⟨sa, ns, rfl, hs, h63, q⟩ := h
    first | rfl | (rcases h with ⟨_, _, rfl, _⟩ | ⟨_, rfl, _⟩ <;> rfl)
  obtain ⟨sa, ns, rfl, hs, h63, q⟩ := h
  have hur := hu70 hr
  refine ⟨_, (pss_cons (ps_set (i := 1) sclaw.nd rfl (by first | exact Or.inl rfl | exact Or.inr rfl) (pe_call O_law_pot (hr.mono (by decide)) rfl m_law_pot k_law_pot b_law_pot .nil pass0 (pa_cons (pv 0) (pa_cons pe_int pa_nil))))
  (pss_cons (ps_for PassesOwn.never rfl (pi_range1 (by rfl) B.range (pa_cons pe_int pa_nil)) (pg_name (i := 2) sclaw.nd rfl (by first | exact Or.inl rfl | exact Or.inr rfl))
    (pss_cons (ps_set (i := 3) sclaw.nd rfl (by first | exact Or.inl rfl | exact Or.inr rfl) (pe_call O_law_ring (hr.mono (by decide)) rfl m_law_ring k_law_ring b_law_ring .nil pass0 (pa_cons (pv 1) (pa_cons pe_int pa_nil))))
  (pss_cons (ps_if (pt_not (pt_val (pe_call O_law_ring_right hr rfl m_law_ring_right k_law_ring_right b_law_ring_right .nil pass0 (pa_cons (pv 3) (pa_cons (pe_call O_law_pick (hr.mono (by decide)) rfl m_law_pick k_law_pick b_law_pick .nil pass0 (pa_cons (pv 1) (pa_cons (pe_lst (pa_cons pe_int (pa_cons pe_int (pa_cons (pe_call O_law_draw (hr.mono (by decide)) rfl m_law_draw k_law_draw b_law_draw .nil pass0 (pa_cons (pv 1) (pa_cons pe_int pa_nil))) (pa_cons pe_int pa_nil))))) pa_nil))) pa_nil)))))
    (pss_one (ps_ret pe_bl)) pss_nil)
  (pss_cons (ps_set (i := 4) sclaw.nd rfl (by first | exact Or.inl rfl | exact Or.inr rfl) (pe_op op_mod (pe_call O_law_draw (hr.mono (by decide)) rfl m_law_draw k_law_draw b_law_draw .nil pass0 (pa_cons (pv 1) (pa_cons pe_int pa_nil))) (pe_callB call_len_str (by rfl) B.len (by decide +kernel) (pa_cons (pv 3) pa_nil))))
  (pss_cons (ps_set (i := 5) sclaw.nd rfl (by first | exact Or.inl rfl | exact Or.inr rfl) (pe_op op_add_str (pe_op op_add_str (pe_slice sl_str (pv 3) po_none (po_some (pv 4))) (pe_call O_law_pick (hr.mono (by decide)) rfl m_law_pick k_law_pick b_law_pick .nil pass0 (pa_cons (pv 1) (pa_cons (pe_lst (pa_cons pe_str (pa_cons pe_str (pa_cons pe_str pa_nil)))) pa_nil)))) (pe_slice sl_str (pv 3) (po_some (pe_op op_add (pv 4) pe_int)) po_none)))
  (pss_cons (ps_set (i := 6) sclaw.nd rfl (by first | exact Or.inl rfl | exact Or.inr rfl) (pe_lst (pa_cons (pe_call O_law_round (hr.mono (by decide)) rfl m_law_round k_law_round b_law_round .nil pass0 (pa_cons (pv 3) (pa_cons (pv 4) (pa_cons (pe_callB call_len_str (by rfl) B.len (by decide +kernel) (pa_cons (pv 3) pa_nil)) pa_nil)))) (pa_cons (pv 5) (pa_cons (pe_op op_add_str (pv 3) (pv 3)) (pa_cons (pe_slice sl_str (pv 3) po_none (po_some (pe_op op_add (pv 4) pe_int))) (pa_cons (pe_revS (pv 3)) (pa_cons (pe_call O_law_ring (hr.mono (by decide)) rfl m_law_ring k_law_ring b_law_ring .nil pass0 (pa_cons (pv 1) (pa_cons pe_int pa_nil))) pa_nil))))))))
  (pss_one (ps_for PassesOwn.never rfl (pi_list (pv 6)) (pg_name (i := 7) sclaw.nd rfl (by first | exact Or.inl rfl | exact Or.inr rfl))
    (pss_one (ps_if (pt_not (pt_val (pe_callG O_law_alike_right hr quiet rfl m_law_alike_right k_law_alike_right b_law_alike_right (pa_cons (pv 3) (pa_cons (pv 7) pa_nil)))))
    (pss_one (ps_ret pe_bl)) pss_nil))))))))))
  (pss_one (ps_ret pe_bl)))), ?_⟩
  have hpa : ∀ {H : Hp} {a p : Addr}, PotAt H a → H p = none → p ≠ a := fun h np => by
    obtain ⟨x, y, e, _⟩ := h
    exact (ne_of_none e np).symm
  refine ⟨_, rfl, sa, ns, rfl, hs, fun a H1 hp1 hS1 na => ?_⟩
  refine ⟨_, rfl, (by decide), (by decide), for_range (lo := 0) (n := 3) (fun i σ H' => ∃ (v2 v3 v4 v5 v6 v7 : Option V), σ = [some (.ref sa), some (.ref a), v2, v3, v4, v5, v6, v7] ∧ PotAt H' a)
    ⟨none, none, none, none, none, none, rfl, hp1⟩ ?_ ?_⟩
  · rintro i σ H2 hi ⟨v2, v3, v4, v5, v6, v7, rfl, hp2⟩
    refine ⟨_, rfl, a, 10, rfl, hp2, by decide, by decide, fun l H3 hl hl20 hk3 hp3 => ?_⟩
    have h0 := hl.1
    refine ⟨_, rfl, _, rfl, _, rfl, a, 40, rfl, hp3, by decide, by decide, fun d H4 hd hk4 hp4 => ⟨(by show 4 ≤ sizeLine; decide), fun p np => ⟨a, .inl ⟨p, _, rfl, upd_same, hpa hp4 np, by simp, by simp, hp4.new np, fun v H5 hv hk5 hp5 => ?_⟩⟩⟩⟩
    obtain ⟨b, rfl⟩ := by_of hv
    refine ⟨l, b, rfl, hl, fun H6 hS6 => ⟨_, rfl, ?_⟩⟩
    refine iteF ?_
    have hp6 := hp5.same hS6
    refine ⟨_, rfl, a, 24, rfl, hp6, by decide, by decide, fun d3 H7 hd3 hk7 hp7 => ⟨_, rfl, _, rfl, T_line (by omega), _, _, rfl, rfl, (by show (0 : Int) < _; rw [T_len]; omega), ?_⟩⟩
    have eat : (d3 : Int) % (((⟨l.toArray⟩ : Str).length : Nat) : Int) = ((d3 % l.length : Nat) : Int) := by
      rw [T_len]
      rfl
    dsimp only
    rw [eat]
    have htl : d3 % l.length < l.length := Nat.mod_lt _ h0
    generalize d3 % l.length = t at htl
    refine ⟨_, rfl, _, rfl, _, rfl, _, rfl, T_line (by omega), ?_⟩
    refine ⟨_, rfl, (by show 3 ≤ sizeLine; decide), fun p2 np2 => ⟨a, .inl ⟨p2, _, rfl, upd_same, hpa hp7 np2, by simp, by simp, hp7.new np2, fun v H8 hv8 hk8 hp8 => ?_⟩⟩⟩
    obtain ⟨c, rfl, hc1, hc2⟩ := one_of hv8
    have e1 : cutS ⟨l.toArray⟩ none (some ((t : Nat) : Int)) = ⟨(l.take t).toArray⟩ := cut_to
    have e2 : cutS ⟨l.toArray⟩ (some (((t : Nat) : Int) + 1)) none = ⟨(l.drop (t + 1)).toArray⟩ := cut_from (p := t + 1)
    have e3 : cutS ⟨l.toArray⟩ none (some (((t : Nat) : Int) + 1)) = ⟨(l.take (t + 1)).toArray⟩ := cut_to (p := t + 1)
    have hb := wd_bent hl htl hc1 hc2
    have hbl := hb.2.1
    have htk : (l.take t).length ≤ 100 := by rw [List.length_take]; omega
    refine ⟨_, _, rfl, rfl, ?_, _, rfl, _, rfl, _, _, rfl, rfl, _, rfl, _, rfl, T_line (by omega), _, _, rfl, rfl, ?_, ?_⟩
    · rw [e1, T_len]
      show (l.take t).length + 1 ≤ sizeLine
      exact Nat.le_of_lt (small1000 (by omega))
    · rw [e1, e2, T_app, T_len, T_len]
      rw [List.length_append] at hbl
      exact Nat.le_of_lt (small1000 (by omega))
    rw [e1, e2, T_app, T_app]
    generalize l.take t ++ [c] ++ l.drop (t + 1) = W at hb hbl
    -- others
    refine ⟨_, rfl, _, rfl, _, rfl, _, rfl, T_line (by omega), l, t, l.length, ?_, hl, by omega, _, rfl, _, rfl, _, rfl, _, _, rfl, rfl, ?_, _, rfl, _, rfl, _, _, rfl, rfl, _, rfl, _, rfl, T_line (by omega), _, rfl, l, rfl, by omega, _, rfl, a, 6, rfl, hp8, by decide, by decide, fun l6 H9 hl6 hl6' hk9 hp9 => ⟨(by show 6 ≤ sizeLine; decide), fun po npo => ?_⟩⟩
    · rw [T_len]
      rfl
    · rw [T_len]
      exact Nat.le_of_lt (small1000 (by omega))
    dsimp only
    rw [e3, T_app]
    have npa := hpa hp9 npo
    refine ⟨_, rfl, po, rfl, ⟨_, SqL.of upd_same⟩, for_list (K := K) (a := po) (xs := [T (rd l t l.length), T W, T (l ++ l), T (l.take (t + 1)), T l.reverse, T l6]) (fun j σ H' => ∃ (v2 v4 v5 v7 : Option V), σ = [some (.ref sa), some (.ref a), v2, some (T l), v4, v5, some (.ref po), v7] ∧ H' po = some (.lst [T (rd l t l.length), T W, T (l ++ l), T (l.take (t + 1)), T l.reverse, T l6]) ∧ PotAt H' a)
      ⟨_, _, _, _, rfl, upd_same, hp9.new npo⟩ (fun j σ H' _ ⟨_, _, _, _, _, h, _⟩ => SqL.of h) ?_ ?_⟩
    · rintro j x σ H10 hx ⟨v2, v4, v5, v7, rfl, hpo, hp10⟩
      have hg : Gd x := by
        have hx2 := List.mem_of_getElem? hx
        rcases List.mem_cons.mp hx2 with h | h
        · exact ⟨_, h, wd_rot hl t⟩
        rcases List.mem_cons.mp h with h | h
        · exact ⟨_, h, hb⟩
        rcases List.mem_cons.mp h with h | h
        · refine ⟨_, h, by rw [List.length_append]; omega, by rw [List.length_append]; omega, fun c hc => ?_⟩
          rcases List.mem_append.mp hc with hc | hc <;> exact hl.2.2 c hc
        rcases List.mem_cons.mp h with h | h
        · exact ⟨_, h, by rw [List.length_take]; omega, by rw [List.length_take]; omega, fun c hc => hl.2.2 c (List.mem_of_mem_take hc)⟩
        rcases List.mem_cons.mp h with h | h
        · exact ⟨_, h, by rw [List.length_reverse]; omega, by rw [List.length_reverse]; omega, fun c hc => hl.2.2 c (List.mem_reverse.mp hc)⟩
        rcases List.mem_cons.mp h with h | h
        · exact ⟨_, h, hl6⟩
        · cases h
      obtain ⟨o, rfl, ho⟩ := hg
      refine ⟨_, rfl, _, rfl, l, o, rfl, hl, ho, fun H11 hS11 => ⟨_, rfl, ?_⟩⟩
      refine iteF ?_
      exact ⟨_, _, _, _, rfl, hS11 _ _ hpo, hp10.same hS11⟩
    · rintro σ H10 ⟨v2, v4, v5, v7, rfl, hpo, hp10⟩
      exact ⟨_, _, _, _, _, _, rfl, hp10⟩
  · rintro σ H2 ⟨v2, v3, v4, v5, v6, v7, rfl, hp2⟩
    exact q H2
end
end My
namespace My
open PySem L2 PyProof.Rows
/-! ### the end -/
theorem fd_is {K : PySem.W.Frag} {x : Str} {st : Stmt} {f : Addr} {fd fe : FuncData} {oc : Value} {od : Option Addr} {sl : Array (Option Value)} (F : Fun K x x st f fd) (l : K.lookup f = some ⟨oc, od, .func fe, sl⟩) : fd = fe := by
  obtain ⟨oc2, od2, kV, doc, pm, an, cdv, ct, osl, e, lk, c⟩ := F.ex
  rw [lk] at l
  have := Option.some.inj l
  injection this with _ _ h3 _
  injection h3
set_option maxHeartbeats 4000000 in
theorem all_mk {l : PySem.W.OpenLaw} {w : World} {K : PySem.W.Frag} {h : Heap} {mg : Str → Option Value} {fa : Addr} (X : K.In h) (G : h.Ns mainGlobals mg) (hfa : mg "law" = some (.ref fa))
    {f0 : Addr} {od0 an0 : Option Addr} {sl0 : Array (Option Value)} {oc0 kV0 dc0 pm0 cd0 ct0 : Value} {f1 : Addr} {od1 an1 : Option Addr} {sl1 : Array (Option Value)} {oc1 kV1 dc1 pm1 cd1 ct1 : Value} {f2 : Addr} {od2 an2 : Option Addr} {sl2 : Array (Option Value)} {oc2 kV2 dc2 pm2 cd2 ct2 : Value} {f3 : Addr} {od3 an3 : Option Addr} {sl3 : Array (Option Value)} {oc3 kV3 dc3 pm3 cd3 ct3 : Value} {f4 : Addr} {od4 an4 : Option Addr} {sl4 : Array (Option Value)} {oc4 kV4 dc4 pm4 cd4 ct4 : Value} {f5 : Addr} {od5 an5 : Option Addr} {sl5 : Array (Option Value)} {oc5 kV5 dc5 pm5 cd5 ct5 : Value} {f6 : Addr} {od6 an6 : Option Addr} {sl6 : Array (Option Value)} {oc6 kV6 dc6 pm6 cd6 ct6 : Value} {f7 : Addr} {od7 an7 : Option Addr} {sl7 : Array (Option Value)} {oc7 kV7 dc7 pm7 cd7 ct7 : Value} {f8 : Addr} {od8 an8 : Option Addr} {sl8 : Array (Option Value)} {oc8 kV8 dc8 pm8 cd8 ct8 : Value} {f9 : Addr} {od9 an9 : Option Addr} {sl9 : Array (Option Value)} {oc9 kV9 dc9 pm9 cd9 ct9 : Value} {f10 : Addr} {od10 an10 : Option Addr} {sl10 : Array (Option Value)} {oc10 kV10 dc10 pm10 cd10 ct10 : Value} {f11 : Addr} {od11 an11 : Option Addr} {sl11 : Array (Option Value)} {oc11 kV11 dc11 pm11 cd11 ct11 : Value} {f12 : Addr} {od12 an12 : Option Addr} {sl12 : Array (Option Value)} {oc12 kV12 dc12 pm12 cd12 ct12 : Value} {f13 : Addr} {od13 an13 : Option Addr} {sl13 : Array (Option Value)} {oc13 kV13 dc13 pm13 cd13 ct13 : Value} {f14 : Addr} {od14 an14 : Option Addr} {sl14 : Array (Option Value)} {oc14 kV14 dc14 pm14 cd14 ct14 : Value} {f15 : Addr} {od15 an15 : Option Addr} {sl15 : Array (Option Value)} {oc15 kV15 dc15 pm15 cd15 ct15 : Value} {f16 : Addr} {od16 an16 : Option Addr} {sl16 : Array (Option Value)} {oc16 kV16 dc16 pm16 cd16 ct16 : Value} {f17 : Addr} {od17 an17 : Option Addr} {sl17 : Array (Option Value)} {oc17 kV17 dc17 pm17 cd17 ct17 : Value} {f18 : Addr} {od18 an18 : Option Addr} {sl18 : Array (Option Value)} {oc18 kV18 dc18 pm18 cd18 ct18 : Value} {f19 : Addr} {od19 an19 : Option Addr} {sl19 : Array (Option Value)} {oc19 kV19 dc19 pm19 cd19 ct19 : Value} {f20 : Addr} {od20 an20 : Option Addr} {sl20 : Array (Option Value)} {oc20 kV20 dc20 pm20 cd20 ct20 : Value} {f21 : Addr} {od21 an21 : Option Addr} {sl21 : Array (Option Value)} {oc21 kV21 dc21 pm21 cd21 ct21 : Value} {f22 : Addr} {od22 an22 : Option Addr} {sl22 : Array (Option Value)} {oc22 kV22 dc22 pm22 cd22 ct22 : Value} {t0 : Tok}
    (a0 : PySem.W.nsIn K mainGlobals "is_integer" = some (some (.ref f0))) (l0 : K.lookup f0 = some ⟨oc0, od0, .func (PySem.W.fnOf "is_integer" "is_integer" (defArgs sis_integer) (defBody sis_integer) (defScope sis_integer) .none kV0 dc0 pm0 an0 cd0 ct0), sl0⟩) (c0 : PySem.W.codeIn K cd0 "is_integer" = true) (k0 : PySem.W.keepIn K (.ref f0) = true)
    (a1 : PySem.W.nsIn K mainGlobals "is_count" = some (some (.ref f1))) (l1 : K.lookup f1 = some ⟨oc1, od1, .func (PySem.W.fnOf "is_count" "is_count" (defArgs sis_count) (defBody sis_count) (defScope sis_count) .none kV1 dc1 pm1 an1 cd1 ct1), sl1⟩) (c1 : PySem.W.codeIn K cd1 "is_count" = true) (k1 : PySem.W.keepIn K (.ref f1) = true)
    (a2 : PySem.W.nsIn K mainGlobals "is_letter" = some (some (.ref f2))) (l2 : K.lookup f2 = some ⟨oc2, od2, .func (PySem.W.fnOf "is_letter" "is_letter" (defArgs sis_letter) (defBody sis_letter) (defScope sis_letter) .none kV2 dc2 pm2 an2 cd2 ct2), sl2⟩) (c2 : PySem.W.codeIn K cd2 "is_letter" = true) (k2 : PySem.W.keepIn K (.ref f2) = true)
    (a3 : PySem.W.nsIn K mainGlobals "least_start" = some (some (.ref f3))) (l3 : K.lookup f3 = some ⟨oc3, od3, .func (PySem.W.fnOf "least_start" "least_start" (defArgs sleast_start) (defBody sleast_start) (defScope sleast_start) .none kV3 dc3 pm3 an3 cd3 ct3), sl3⟩) (c3 : PySem.W.codeIn K cd3 "least_start" = true) (k3 : PySem.W.keepIn K (.ref f3) = true)
    (a4 : PySem.W.nsIn K mainGlobals "longest_borders" = some (some (.ref f4))) (l4 : K.lookup f4 = some ⟨oc4, od4, .func (PySem.W.fnOf "longest_borders" "longest_borders" (defArgs slongest_borders) (defBody slongest_borders) (defScope slongest_borders) .none kV4 dc4 pm4 an4 cd4 ct4), sl4⟩) (c4 : PySem.W.codeIn K cd4 "longest_borders" = true) (k4 : PySem.W.keepIn K (.ref f4) = true)
    (a5 : PySem.W.nsIn K mainGlobals "is_text" = some (some (.ref f5))) (l5 : K.lookup f5 = some ⟨oc5, od5, .func (PySem.W.fnOf "is_text" "is_text" (defArgs sis_text) (defBody sis_text) (defScope sis_text) .none kV5 dc5 pm5 an5 cd5 ct5), sl5⟩) (c5 : PySem.W.codeIn K cd5 "is_text" = true) (k5 : PySem.W.keepIn K (.ref f5) = true)
    (a6 : PySem.W.nsIn K mainGlobals "is_ring" = some (some (.ref f6))) (l6 : K.lookup f6 = some ⟨oc6, od6, .func (PySem.W.fnOf "is_ring" "is_ring" (defArgs sis_ring) (defBody sis_ring) (defScope sis_ring) .none kV6 dc6 pm6 an6 cd6 ct6), sl6⟩) (c6 : PySem.W.codeIn K cd6 "is_ring" = true) (k6 : PySem.W.keepIn K (.ref f6) = true)
    (a7 : PySem.W.nsIn K mainGlobals "need_ring" = some (some (.ref f7))) (l7 : K.lookup f7 = some ⟨oc7, od7, .func (PySem.W.fnOf "need_ring" "need_ring" (defArgs sneed_ring) (defBody sneed_ring) (defScope sneed_ring) .none kV7 dc7 pm7 an7 cd7 ct7), sl7⟩) (c7 : PySem.W.codeIn K cd7 "need_ring" = true) (k7 : PySem.W.keepIn K (.ref f7) = true)
    (a8 : PySem.W.nsIn K mainGlobals "turned" = some (some (.ref f8))) (l8 : K.lookup f8 = some ⟨oc8, od8, .func (PySem.W.fnOf "turned" "turned" (defArgs sturned) (defBody sturned) (defScope sturned) .none kV8 dc8 pm8 an8 cd8 ct8), sl8⟩) (c8 : PySem.W.codeIn K cd8 "turned" = true) (k8 : PySem.W.keepIn K (.ref f8) = true)
    (a9 : PySem.W.nsIn K mainGlobals "_turned_to" = some (some (.ref f9))) (l9 : K.lookup f9 = some ⟨oc9, od9, .func (PySem.W.fnOf "_turned_to" "_turned_to" (defArgs s_turned_to) (defBody s_turned_to) (defScope s_turned_to) .none kV9 dc9 pm9 an9 cd9 ct9), sl9⟩) (c9 : PySem.W.codeIn K cd9 "_turned_to" = true) (k9 : PySem.W.keepIn K (.ref f9) = true)
    (a10 : PySem.W.nsIn K mainGlobals "plain_normal" = some (some (.ref f10))) (l10 : K.lookup f10 = some ⟨oc10, od10, .func (PySem.W.fnOf "plain_normal" "plain_normal" (defArgs splain_normal) (defBody splain_normal) (defScope splain_normal) .none kV10 dc10 pm10 an10 cd10 ct10), sl10⟩) (c10 : PySem.W.codeIn K cd10 "plain_normal" = true) (k10 : PySem.W.keepIn K (.ref f10) = true)
    (a11 : PySem.W.nsIn K mainGlobals "normal" = some (some (.ref f11))) (l11 : K.lookup f11 = some ⟨oc11, od11, .func (PySem.W.fnOf "normal" "normal" (defArgs snormal) (defBody snormal) (defScope snormal) .none kV11 dc11 pm11 an11 cd11 ct11), sl11⟩) (c11 : PySem.W.codeIn K cd11 "normal" = true) (k11 : PySem.W.keepIn K (.ref f11) = true)
    (a12 : PySem.W.nsIn K mainGlobals "are_alike" = some (some (.ref f12))) (l12 : K.lookup f12 = some ⟨oc12, od12, .func (PySem.W.fnOf "are_alike" "are_alike" (defArgs sare_alike) (defBody sare_alike) (defScope sare_alike) .none kV12 dc12 pm12 an12 cd12 ct12), sl12⟩) (c12 : PySem.W.codeIn K cd12 "are_alike" = true) (k12 : PySem.W.keepIn K (.ref f12) = true)
    (a13 : PySem.W.nsIn K mainGlobals "period_of" = some (some (.ref f13))) (l13 : K.lookup f13 = some ⟨oc13, od13, .func (PySem.W.fnOf "period_of" "period_of" (defArgs speriod_of) (defBody speriod_of) (defScope speriod_of) .none kV13 dc13 pm13 an13 cd13 ct13), sl13⟩) (c13 : PySem.W.codeIn K cd13 "period_of" = true) (k13 : PySem.W.keepIn K (.ref f13) = true)
    (a14 : PySem.W.nsIn K mainGlobals "root_of" = some (some (.ref f14))) (l14 : K.lookup f14 = some ⟨oc14, od14, .func (PySem.W.fnOf "root_of" "root_of" (defArgs sroot_of) (defBody sroot_of) (defScope sroot_of) .none kV14 dc14 pm14 an14 cd14 ct14), sl14⟩) (c14 : PySem.W.codeIn K cd14 "root_of" = true) (k14 : PySem.W.keepIn K (.ref f14) = true)
    (a15 : PySem.W.nsIn K mainGlobals "_law_pot" = some (some (.ref f15))) (l15 : K.lookup f15 = some ⟨oc15, od15, .func (PySem.W.fnOf "_law_pot" "_law_pot" (defArgs s_law_pot) (defBody s_law_pot) (defScope s_law_pot) .none kV15 dc15 pm15 an15 cd15 ct15), sl15⟩) (c15 : PySem.W.codeIn K cd15 "_law_pot" = true) (k15 : PySem.W.keepIn K (.ref f15) = true)
    (a16 : PySem.W.nsIn K mainGlobals "_law_draw" = some (some (.ref f16))) (l16 : K.lookup f16 = some ⟨oc16, od16, .func (PySem.W.fnOf "_law_draw" "_law_draw" (defArgs s_law_draw) (defBody s_law_draw) (defScope s_law_draw) .none kV16 dc16 pm16 an16 cd16 ct16), sl16⟩) (c16 : PySem.W.codeIn K cd16 "_law_draw" = true) (k16 : PySem.W.keepIn K (.ref f16) = true)
    (a17 : PySem.W.nsIn K mainGlobals "_law_pick" = some (some (.ref f17))) (l17 : K.lookup f17 = some ⟨oc17, od17, .func (PySem.W.fnOf "_law_pick" "_law_pick" (defArgs s_law_pick) (defBody s_law_pick) (defScope s_law_pick) .none kV17 dc17 pm17 an17 cd17 ct17), sl17⟩) (c17 : PySem.W.codeIn K cd17 "_law_pick" = true) (k17 : PySem.W.keepIn K (.ref f17) = true)
    (a18 : PySem.W.nsIn K mainGlobals "_law_ring" = some (some (.ref f18))) (l18 : K.lookup f18 = some ⟨oc18, od18, .func (PySem.W.fnOf "_law_ring" "_law_ring" (defArgs s_law_ring) (defBody s_law_ring) (defScope s_law_ring) .none kV18 dc18 pm18 an18 cd18 ct18), sl18⟩) (c18 : PySem.W.codeIn K cd18 "_law_ring" = true) (k18 : PySem.W.keepIn K (.ref f18) = true)
    (a19 : PySem.W.nsIn K mainGlobals "_law_round" = some (some (.ref f19))) (l19 : K.lookup f19 = some ⟨oc19, od19, .func (PySem.W.fnOf "_law_round" "_law_round" (defArgs s_law_round) (defBody s_law_round) (defScope s_law_round) .none kV19 dc19 pm19 an19 cd19 ct19), sl19⟩) (c19 : PySem.W.codeIn K cd19 "_law_round" = true) (k19 : PySem.W.keepIn K (.ref f19) = true)
    (a20 : PySem.W.nsIn K mainGlobals "_law_ring_right" = some (some (.ref f20))) (l20 : K.lookup f20 = some ⟨oc20, od20, .func (PySem.W.fnOf "_law_ring_right" "_law_ring_right" (defArgs s_law_ring_right) (defBody s_law_ring_right) (defScope s_law_ring_right) .none kV20 dc20 pm20 an20 cd20 ct20), sl20⟩) (c20 : PySem.W.codeIn K cd20 "_law_ring_right" = true) (k20 : PySem.W.keepIn K (.ref f20) = true)
    (a21 : PySem.W.nsIn K mainGlobals "_law_alike_right" = some (some (.ref f21))) (l21 : K.lookup f21 = some ⟨oc21, od21, .func (PySem.W.fnOf "_law_alike_right" "_law_alike_right" (defArgs s_law_alike_right) (defBody s_law_alike_right) (defScope s_law_alike_right) .none kV21 dc21 pm21 an21 cd21 ct21), sl21⟩) (c21 : PySem.W.codeIn K cd21 "_law_alike_right" = true) (k21 : PySem.W.keepIn K (.ref f21) = true)
    (a22 : PySem.W.nsIn K mainGlobals "law" = some (some (.ref f22))) (l22 : K.lookup f22 = some ⟨oc22, od22, .func (PySem.W.fnOf "law" "law" (defArgs slaw) (defBody slaw) (defScope slaw) .none kV22 dc22 pm22 an22 cd22 ct22), sl22⟩) (c22 : PySem.W.codeIn K cd22 "law" = true) (k22 : PySem.W.keepIn K (.ref f22) = true)
    (z0 : PySem.W.nsIn K mainGlobals "isinstance" = some none)
    (z1 : PySem.W.nsIn K mainGlobals "int" = some none)
    (z2 : PySem.W.nsIn K mainGlobals "bool" = some none)
    (z3 : PySem.W.nsIn K mainGlobals "str" = some none)
    (z4 : PySem.W.nsIn K mainGlobals "len" = some none)
    (z5 : PySem.W.nsIn K mainGlobals "range" = some none)
    (z6 : PySem.W.nsIn K mainGlobals "abs" = some none)
    (z7 : PySem.W.nsIn K mainGlobals "max" = some none)
    (z8 : PySem.W.nsIn K mainGlobals "divmod" = some none)
    (z9 : PySem.W.nsIn K mainGlobals "min" = some none)
    (z10 : PySem.W.nsIn K mainGlobals "dict" = some none)
    (z11 : PySem.W.nsIn K mainGlobals "repr" = some none)
    (z12 : PySem.W.nsIn K mainGlobals "all" = some none)
    (y0 : PySem.W.nsIn K mainGlobals "MOST_LETTERS" = some (some (.int 400 t0)))
    : ∃ fd : FuncData, (∀ (s : Shared) (v : Value), BindsTo s fd ⟨[v], []⟩ [("_law_script", v)]) ∧ ∀ base : Heap, K.In base → base.Ns mainGlobals mg → FnG l.prog w K mg base 8 fa fd ["_law_script"] (splaw K) := by
  have e := hfa.symm.trans (PySem.W.mg_of X G a22)
  cases e
  have B : Bs mg := ⟨PySem.W.mg_none_of X G z0, PySem.W.mg_none_of X G z1, PySem.W.mg_none_of X G z2, PySem.W.mg_none_of X G z3, PySem.W.mg_none_of X G z4, PySem.W.mg_none_of X G z5, PySem.W.mg_none_of X G z6, PySem.W.mg_none_of X G z7, PySem.W.mg_none_of X G z8, PySem.W.mg_none_of X G z9, PySem.W.mg_none_of X G z10, PySem.W.mg_none_of X G z11, PySem.W.mg_none_of X G z12⟩
  have Glb : Glo mg := ⟨⟨t0, PySem.W.mg_of X G y0⟩⟩
  have Dis_integer : Def K mg "is_integer" sis_integer ["value"] := def_mk X G a0 l0 c0 k0 fun _ _ _ _ _ _ us hl => match us, hl with | [_], _ => rfl
  have Dis_count : Def K mg "is_count" sis_count ["value"] := def_mk X G a1 l1 c1 k1 fun _ _ _ _ _ _ us hl => match us, hl with | [_], _ => rfl
  have Dis_letter : Def K mg "is_letter" sis_letter ["sign"] := def_mk X G a2 l2 c2 k2 fun _ _ _ _ _ _ us hl => match us, hl with | [_], _ => rfl
  have Dleast_start : Def K mg "least_start" sleast_start ["cycle"] := def_mk X G a3 l3 c3 k3 fun _ _ _ _ _ _ us hl => match us, hl with | [_], _ => rfl
  have Dlongest_borders : Def K mg "longest_borders" slongest_borders ["word"] := def_mk X G a4 l4 c4 k4 fun _ _ _ _ _ _ us hl => match us, hl with | [_], _ => rfl
  have Dis_text : Def K mg "is_text" sis_text ["value"] := def_mk X G a5 l5 c5 k5 fun _ _ _ _ _ _ us hl => match us, hl with | [_], _ => rfl
  have Dis_ring : Def K mg "is_ring" sis_ring ["value"] := def_mk X G a6 l6 c6 k6 fun _ _ _ _ _ _ us hl => match us, hl with | [_], _ => rfl
  have Dneed_ring : Def K mg "need_ring" sneed_ring ["ring"] := def_mk X G a7 l7 c7 k7 fun _ _ _ _ _ _ us hl => match us, hl with | [_], _ => rfl
  have Dturned : Def K mg "turned" sturned ["ring", "by"] := def_mk X G a8 l8 c8 k8 fun _ _ _ _ _ _ us hl => match us, hl with | [_, _], _ => rfl
  have D_turned_to : Def K mg "_turned_to" s_turned_to ["ring", "place"] := def_mk X G a9 l9 c9 k9 fun _ _ _ _ _ _ us hl => match us, hl with | [_, _], _ => rfl
  have Dplain_normal : Def K mg "plain_normal" splain_normal ["ring"] := def_mk X G a10 l10 c10 k10 fun _ _ _ _ _ _ us hl => match us, hl with | [_], _ => rfl
  have Dnormal : Def K mg "normal" snormal ["ring"] := def_mk X G a11 l11 c11 k11 fun _ _ _ _ _ _ us hl => match us, hl with | [_], _ => rfl
  have Dare_alike : Def K mg "are_alike" sare_alike ["ring", "other"] := def_mk X G a12 l12 c12 k12 fun _ _ _ _ _ _ us hl => match us, hl with | [_, _], _ => rfl
  have Dperiod_of : Def K mg "period_of" speriod_of ["ring"] := def_mk X G a13 l13 c13 k13 fun _ _ _ _ _ _ us hl => match us, hl with | [_], _ => rfl
  have Droot_of : Def K mg "root_of" sroot_of ["ring"] := def_mk X G a14 l14 c14 k14 fun _ _ _ _ _ _ us hl => match us, hl with | [_], _ => rfl
  have D_law_pot : Def K mg "_law_pot" s_law_pot ["_law_script", "_law_k"] := def_mk X G a15 l15 c15 k15 fun _ _ _ _ _ _ us hl => match us, hl with | [_, _], _ => rfl
  have D_law_draw : Def K mg "_law_draw" s_law_draw ["_law_pot_here", "_law_size"] := def_mk X G a16 l16 c16 k16 fun _ _ _ _ _ _ us hl => match us, hl with | [_, _], _ => rfl
  have D_law_pick : Def K mg "_law_pick" s_law_pick ["_law_pot_here", "_law_some"] := def_mk X G a17 l17 c17 k17 fun _ _ _ _ _ _ us hl => match us, hl with | [_, _], _ => rfl
  have D_law_ring : Def K mg "_law_ring" s_law_ring ["_law_pot_here", "_law_most"] := def_mk X G a18 l18 c18 k18 fun _ _ _ _ _ _ us hl => match us, hl with | [_, _], _ => rfl
  have D_law_round : Def K mg "_law_round" s_law_round ["_law_ring_here", "_law_place", "_law_many"] := def_mk X G a19 l19 c19 k19 fun _ _ _ _ _ _ us hl => match us, hl with | [_, _, _], _ => rfl
  have D_law_ring_right : Def K mg "_law_ring_right" s_law_ring_right ["_law_ring_here", "_law_by"] := def_mk X G a20 l20 c20 k20 fun _ _ _ _ _ _ us hl => match us, hl with | [_, _], _ => rfl
  have D_law_alike_right : Def K mg "_law_alike_right" s_law_alike_right ["_law_ring_here", "_law_other"] := def_mk X G a21 l21 c21 k21 fun _ _ _ _ _ _ us hl => match us, hl with | [_, _], _ => rfl
  have Dlaw : Def K mg "law" slaw ["_law_script"] := def_mk X G a22 l22 c22 k22 fun _ _ _ _ _ _ us hl => match us, hl with | [_], _ => rfl
  refine ⟨PySem.W.fnOf "law" "law" (defArgs slaw) (defBody slaw) (defScope slaw) .none kV22 dc22 pm22 an22 cd22 ct22, fun s v => .of_eq rfl, fun base _ _ => ?_⟩
  have H_law_pot := ok_law_pot (P := l.prog) (w := w) (base := base) D_law_pot B Glb
  have H_law_draw := ok_law_draw (P := l.prog) (w := w) (base := base) D_law_draw B Glb
  have H_law_pick := ok_law_pick (P := l.prog) (w := w) (base := base) D_law_pick B Glb H_law_draw
  have H_law_ring := ok_law_ring (P := l.prog) (w := w) (base := base) D_law_ring B Glb H_law_pick H_law_draw
  have His_letter := okis_letter (P := l.prog) (w := w) (base := base) Dis_letter B Glb
  have His_text := okis_text (P := l.prog) (w := w) (base := base) Dis_text B Glb His_letter
  have His_ring := okis_ring (P := l.prog) (w := w) (base := base) Dis_ring B Glb His_text
  have Hneed_ring := okneed_ring (P := l.prog) (w := w) (base := base) Dneed_ring B Glb His_ring
  have Hlongest_borders := oklongest_borders (P := l.prog) (w := w) (base := base) Dlongest_borders B Glb
  have Hperiod_of := okperiod_of (P := l.prog) (w := w) (base := base) Dperiod_of B Glb Hneed_ring Hlongest_borders
  have H_law_round := ok_law_round (P := l.prog) (w := w) (base := base) D_law_round B Glb
  have H_turned_to := ok_turned_to (P := l.prog) (w := w) (base := base) D_turned_to B Glb
  have His_integer := okis_integer (P := l.prog) (w := w) (base := base) Dis_integer B Glb
  have His_count := okis_count (P := l.prog) (w := w) (base := base) Dis_count B Glb His_integer
  have Hturned := okturned (P := l.prog) (w := w) (base := base) Dturned B Glb Hneed_ring H_turned_to His_count
  have Hleast_start := okleast_start (P := l.prog) (w := w) (base := base) Dleast_start B Glb
  have Hnormal := oknormal (P := l.prog) (w := w) (base := base) Dnormal B Glb Hneed_ring H_turned_to Hleast_start
  have Hplain_normal := okplain_normal (P := l.prog) (w := w) (base := base) Dplain_normal B Glb Hneed_ring H_turned_to
  have Hroot_of := okroot_of (P := l.prog) (w := w) (base := base) Droot_of B Glb Hperiod_of
  have H_law_ring_right := ok_law_ring_right (P := l.prog) (w := w) (base := base) D_law_ring_right B Glb Hperiod_of H_law_round Hturned Hnormal Hplain_normal Hroot_of
  have Hare_alike := okare_alike (P := l.prog) (w := w) (base := base) Dare_alike B Glb Hneed_ring Hnormal
  have H_law_alike_right := ok_law_alike_right (P := l.prog) (w := w) (base := base) D_law_alike_right B Glb H_law_round Hare_alike Hnormal
  have Hlaw := oklaw (P := l.prog) (w := w) (base := base) Dlaw B Glb H_law_pot H_law_ring H_law_ring_right H_law_draw H_law_round H_law_pick H_law_alike_right
  obtain ⟨f, fd, O, m, k, b, F⟩ := Hlaw
  have e2 := m.symm.trans hfa
  cases e2
  rw [fd_is F l22] at O
  exact O
theorem walk {l : PySem.W.OpenLaw} {q : Program} {loose : List Str} {XP : (Str → Option Value) → Heap → Prop} {YP : World → Heap → Prop} {d : DefRec} {K : Params → PySem.W.Frag} (hn : l.most = some 63) (hdf : d.params.defaults = [])
    (hY : ∀ (w : World) (h : Heap), YP w h → (K w.params).In h)
    (F : ∀ (w : World) (mg : Str → Option Value) (fa : Addr) (h : Heap), (K w.params).In h → h.Ns mainGlobals mg → mg d.name = some (.ref fa) →
      ∃ fd : FuncData, (∀ (s : Shared) (u : Value), BindsTo s fd ⟨[u], []⟩ [("_law_script", u)]) ∧ ∀ base : Heap, (K w.params).In base → base.Ns mainGlobals mg → FnG l.prog w (K w.params) mg base 8 fa fd ["_law_script"] (splaw (K w.params))) :
    PySem.W.WalkO q loose XP YP l.row.toRowW d [] (fun f vs => PySem.call f vs) :=
  walk_ofG (n := 63) (k := 8) (x := "_law_script") (sp := fun w => splaw (K w.params)) hn (by decide) hdf ⟨rfl, by decide, by decide⟩ hY F (fun _ _ a ns hl _ hS => ⟨a, ns, rfl, hS, hl, fun _ => rfl⟩)
end My
open PySem PySem.W PyProof.Rows
set_option maxRecDepth 100000 in
set_option maxHeartbeats 0 in
theorem PySem.Challenge.cw_suretexts_k11_whole_rings_turned_holds : PySem.Challenge.rw_suretexts_k11_whole_rings_turned.Holds := by
  w_on; o_law; k_head; (case hw => w_witness2)
  k_fill
  refine My.walk (l := PySem.Challenge.rw_suretexts_k11_whole_rings_turned) rfl rfl (fun w h Y => PySem.W.kIn_of Y) ?F
  case F =>
    intro w mg fa h KX G hmg
    refine' My.all_mk KX G hmg ?a0 ?l0 ?c0 ?k0 ?a1 ?l1 ?c1 ?k1 ?a2 ?l2 ?c2 ?k2 ?a3 ?l3 ?c3 ?k3 ?a4 ?l4 ?c4 ?k4 ?a5 ?l5 ?c5 ?k5 ?a6 ?l6 ?c6 ?k6 ?a7 ?l7 ?c7 ?k7 ?a8 ?l8 ?c8 ?k8 ?a9 ?l9 ?c9 ?k9 ?a10 ?l10 ?c10 ?k10 ?a11 ?l11 ?c11 ?k11 ?a12 ?l12 ?c12 ?k12 ?a13 ?l13 ?c13 ?k13 ?a14 ?l14 ?c14 ?k14 ?a15 ?l15 ?c15 ?k15 ?a16 ?l16 ?c16 ?k16 ?a17 ?l17 ?c17 ?k17 ?a18 ?l18 ?c18 ?k18 ?a19 ?l19 ?c19 ?k19 ?a20 ?l20 ?c20 ?k20 ?a21 ?l21 ?c21 ?k21 ?a22 ?l22 ?c22 ?k22 ?z0 ?z1 ?z2 ?z3 ?z4 ?z5 ?z6 ?z7 ?z8 ?z9 ?z10 ?z11 ?z12 ?y0
    (case a0 => k_is)
    (case l0 => k_is)
    (case c0 => k_is)
    (case k0 => k_is)
    (case a1 => k_is)
    (case l1 => k_is)
    (case c1 => k_is)
    (case k1 => k_is)
    (case a2 => k_is)
    (case l2 => k_is)
    (case c2 => k_is)
    (case k2 => k_is)
    (case a3 => k_is)
    (case l3 => k_is)
    (case c3 => k_is)
    (case k3 => k_is)
    (case a4 => k_is)
    (case l4 => k_is)
    (case c4 => k_is)
    (case k4 => k_is)
    (case a5 => k_is)
    (case l5 => k_is)
    (case c5 => k_is)
    (case k5 => k_is)
    (case a6 => k_is)
    (case l6 => k_is)
    (case c6 => k_is)
    (case k6 => k_is)
    (case a7 => k_is)
    (case l7 => k_is)
    (case c7 => k_is)
    (case k7 => k_is)
    (case a8 => k_is)
    (case l8 => k_is)
    (case c8 => k_is)
    (case k8 => k_is)
    (case a9 => k_is)
    (case l9 => k_is)
    (case c9 => k_is)
    (case k9 => k_is)
    (case a10 => k_is)
    (case l10 => k_is)
    (case c10 => k_is)
    (case k10 => k_is)
    (case a11 => k_is)
    (case l11 => k_is)
    (case c11 => k_is)
    (case k11 => k_is)
    (case a12 => k_is)
    (case l12 => k_is)
    (case c12 => k_is)
    (case k12 => k_is)
    (case a13 => k_is)
    (case l13 => k_is)
    (case c13 => k_is)
    (case k13 => k_is)
    (case a14 => k_is)
    (case l14 => k_is)
    (case c14 => k_is)
    (case k14 => k_is)
    (case a15 => k_is)
    (case l15 => k_is)
    (case c15 => k_is)
    (case k15 => k_is)
    (case a16 => k_is)
    (case l16 => k_is)
    (case c16 => k_is)
    (case k16 => k_is)
    (case a17 => k_is)
    (case l17 => k_is)
    (case c17 => k_is)
    (case k17 => k_is)
    (case a18 => k_is)
    (case l18 => k_is)
    (case c18 => k_is)
    (case k18 => k_is)
    (case a19 => k_is)
    (case l19 => k_is)
    (case c19 => k_is)
    (case k19 => k_is)
    (case a20 => k_is)
    (case l20 => k_is)
    (case c20 => k_is)
    (case k20 => k_is)
    (case a21 => k_is)
    (case l21 => k_is)
    (case c21 => k_is)
    (case k21 => k_is)
    (case a22 => k_is)
    (case l22 => k_is)
    (case c22 => k_is)
    (case k22 => k_is)
    (case z0 => k_is)
    (case z1 => k_is)
    (case z2 => k_is)
    (case z3 => k_is)
    (case z4 => k_is)
    (case z5 => k_is)
    (case z6 => k_is)
    (case z7 => k_is)
    (case z8 => k_is)
    (case z9 => k_is)
    (case z10 => k_is)
    (case z11 => k_is)
    (case z12 => k_is)
    (case y0 => k_is)
