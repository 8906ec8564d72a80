import PyProof.Rows.All
import PySr110
import Wide.All
import OpenK.AllK
import Wide.FinOn
import Open.SpecLaws
import KE.OsGo
import KE.DatumOrd
import HandS.ForSpec
import HandS.ForMost
import HandS.CallLocal
import HandS.Codes
import PySem.Challenge.RW_fewstones_s01_answers
import HandS.WrittenGet
import HandS.More
set_option autoImplicit false
namespace Fs
open Sr110

/-! ### sums, segments -/
theorem foldl_add (l : List Nat) (a : Nat) : l.foldl (· + ·) a = a + l.sum := by
  induction l generalizing a with
  | nil => simp
  | cons x r ih => simp only [List.foldl_cons, List.sum_cons, ih]; omega
theorem sum_eq (l : List Nat) : SrCommon.sum l = l.sum := by
  unfold SrCommon.sum
  rw [foldl_add]; omega
def seg (p : Picture) (i j : Nat) : Picture := (p.drop i).take (j - i)
theorem seg_length {p : Picture} {i j : Nat} (hj : j ≤ p.length) : (seg p i j).length = j - i := by
  unfold seg; rw [List.length_take, List.length_drop]; omega
theorem seg_get {p : Picture} {i j k : Nat} (hk : k < j - i) : (seg p i j)[k]? = p[i + k]? := by
  unfold seg
  rw [List.getElem?_take, if_pos hk, List.getElem?_drop]
theorem seg_take {p : Picture} {i j k : Nat} (hk : i + k ≤ j) : (seg p i j).take k = seg p i (i + k) := by
  unfold seg
  rw [List.take_take]
  congr 1; omega
theorem range_seg {p : Picture} {i j : Nat} (hj : j ≤ p.length) : (List.range (j - i)).map (fun k => shadeAt p (i + k)) = seg p i j := by
  apply List.ext_getElem?
  intro k
  by_cases hk : k < j - i
  · rw [seg_get hk, List.getElem?_map, List.getElem?_range hk]
    have h : i + k < p.length := by omega
    simp [shadeAt, h]
  · have h1 : (seg p i j)[k]? = none := by rw [List.getElem?_eq_none_iff, seg_length hj]; omega
    rw [h1, List.getElem?_eq_none_iff]; simp; omega
def tot (g : Picture) : Nat := (g.map (·.count)).sum
def errW (g : Picture) (c : Nat) : Nat := (g.map fun s => s.count * difference s.level c).sum
theorem tile_seg {p : Picture} {i j : Nat} (hj : j ≤ p.length) : tileCount p i j = tot (seg p i j) := by
  unfold tileCount tot
  rw [sum_eq, ← range_seg hj, List.map_map]; rfl
theorem errorWith_seg {p : Picture} {i j c : Nat} (hj : j ≤ p.length) : errorWith p i j c = errW (seg p i j) c := by
  unfold errorWith errW
  rw [sum_eq, ← range_seg hj, List.map_map]; rfl
theorem find_congr {α : Type} {P Q : α → Bool} : ∀ {l : List α}, (∀ x ∈ l, P x = Q x) → l.find? P = l.find? Q
  | [], _ => rfl
  | x :: r, h => by
    have hx := h x (List.mem_cons_self)
    have hr := find_congr (l := r) (P := P) (Q := Q) fun y hy => h y (List.mem_cons_of_mem _ hy)
    simp only [List.find?_cons, hx, hr]
def medAt (g : Picture) : Nat := ((List.range g.length).find? fun k => decide (tot g ≤ 2 * tot (g.take (k + 1)))).getD 0
def medL (g : Picture) : Nat := (g.getD (medAt g) ⟨0, 0⟩).level
def ge (g : Picture) : Nat := errW g (medL g)
theorem medAt_lt {g : Picture} (h : 0 < g.length) : medAt g < g.length := by
  unfold medAt
  cases e : (List.range g.length).find? fun k => decide (tot g ≤ 2 * tot (g.take (k + 1))) with
  | none => exact h
  | some k =>
    have := List.mem_of_find?_eq_some e
    rw [List.mem_range] at this
    exact this
theorem median_seg {p : Picture} {i j : Nat} (hi : i < j) (hj : j ≤ p.length) : median p i j = medL (seg p i j) := by
  have hl : (seg p i j).length = j - i := seg_length hj
  have e : (List.range (j - i)).find? (fun k => decide (tileCount p i j ≤ 2 * tileCount p i (i + k + 1))) = (List.range (seg p i j).length).find? (fun k => decide (tot (seg p i j) ≤ 2 * tot ((seg p i j).take (k + 1)))) := by
    rw [hl]
    refine find_congr fun k hk => ?_
    rw [List.mem_range] at hk
    rw [tile_seg hj, tile_seg (by omega), seg_take (by omega)]; rfl
  have hm := medAt_lt (g := seg p i j) (by rw [hl]; omega)
  unfold median medL
  unfold medAt at hm ⊢
  rw [e]
  generalize ((List.range (seg p i j).length).find? fun k => decide (tot (seg p i j) ≤ 2 * tot ((seg p i j).take (k + 1)))).getD 0 = d at hm ⊢
  rw [hl] at hm
  have h2 := seg_get (p := p) hm
  unfold shadeAt
  rw [List.getD_eq_getElem?_getD, List.getD_eq_getElem?_getD, h2, Nat.add_comm]
theorem groupError_seg {p : Picture} {i j : Nat} (hi : i < j) (hj : j ≤ p.length) : groupError p i j = ge (seg p i j) := by
  unfold groupError ge
  rw [errorWith_seg hj, median_seg hi hj]

/-! ### the table -/
def T (p : Picture) (k i : Nat) : Option Nat := (errorTable p k).getD i none
theorem T_zero {p : Picture} {i : Nat} (hi : i ≤ p.length) : T p 0 i = if p.length ≤ i then some 0 else none := by
  unfold T errorTable firstTable
  rw [List.getD_eq_getElem?_getD, List.getElem?_map, List.getElem?_range (by omega)]; rfl
def F (p : Picture) (k i d : Nat) : Option Nat := (T p k (i + d + 1)).map fun e => e + groupError p i (i + d + 1)
theorem T_succ {p : Picture} {k i : Nat} (hi : i ≤ p.length) : T p (k + 1) i = if p.length ≤ i then some 0 else (List.range (p.length - i)).foldl (fun best d => minOption best (F p k i d)) none := by
  unfold T
  show (nextTable p (errorTable p k)).getD i none = _
  unfold nextTable
  rw [List.getD_eq_getElem?_getD, List.getElem?_map, List.getElem?_range (by omega)]; rfl
theorem T_end {p : Picture} {k : Nat} : T p k p.length = some 0 := by
  cases k with
  | zero => rw [T_zero (Nat.le_refl _), if_pos (Nat.le_refl _)]
  | succ k => rw [T_succ (Nat.le_refl _), if_pos (Nat.le_refl _)]
def leO (b : Option Nat) (v : Nat) : Prop := ∃ r, b = some r ∧ r ≤ v
theorem minO_left {a b : Option Nat} {v : Nat} (h : leO a v) : leO (minOption a b) v := by
  obtain ⟨r, rfl, h⟩ := h
  cases b with
  | none => exact ⟨r, rfl, h⟩
  | some y => exact ⟨min r y, rfl, by omega⟩
theorem minO_right {a b : Option Nat} {v : Nat} (h : leO b v) : leO (minOption a b) v := by
  obtain ⟨r, rfl, h⟩ := h
  cases a with
  | none => exact ⟨r, rfl, h⟩
  | some y => exact ⟨min y r, rfl, by omega⟩
theorem fold_le {f : Nat → Option Nat} : ∀ (l : List Nat) (b : Option Nat) (v : Nat), (leO b v ∨ ∃ d ∈ l, f d = some v) → leO (l.foldl (fun best d => minOption best (f d)) b) v
  | [], b, v, h => by
    rcases h with h | ⟨d, hd, _⟩
    · exact h
    · cases hd
  | x :: r, b, v, h => by
    refine fold_le r _ v ?_
    rcases h with h | ⟨d, hd, e⟩
    · exact .inl (minO_left h)
    · rcases List.mem_cons.mp hd with rfl | hd
      · exact .inl (minO_right ⟨v, e, Nat.le_refl _⟩)
      · exact .inr ⟨d, hd, e⟩
theorem fold_mem {f : Nat → Option Nat} : ∀ (l : List Nat) (b : Option Nat) (v : Nat), l.foldl (fun best d => minOption best (f d)) b = some v → b = some v ∨ ∃ d ∈ l, f d = some v
  | [], b, v, h => .inl h
  | x :: r, b, v, h => by
    rcases fold_mem r _ v h with h | ⟨d, hd, e⟩
    · have h : minOption b (f x) = some v := h
      cases hx : f x with
      | none =>
        rw [hx] at h
        cases b with
        | none => cases h
        | some z => exact .inl h
      | some y =>
        rw [hx] at h
        cases b with
        | none => exact .inr ⟨x, List.mem_cons_self, by rw [hx]; exact h⟩
        | some z =>
          have h' : min z y = v := Option.some.inj h
          by_cases hzy : z ≤ y
          · exact .inl (congrArg some (by omega))
          · exact .inr ⟨x, List.mem_cons_self, by rw [hx]; exact congrArg some (by omega)⟩
    · exact .inr ⟨d, List.mem_cons_of_mem _ hd, e⟩
theorem T_le {p : Picture} {k i d v : Nat} (hi : i < p.length) (hd : i + d < p.length) (h : F p k i d = some v) : leO (T p (k + 1) i) v := by
  rw [T_succ (Nat.le_of_lt hi), if_neg (by omega)]
  exact fold_le _ _ _ (.inr ⟨d, List.mem_range.mpr (by omega), h⟩)
theorem T_mem {p : Picture} {k i v : Nat} (hi : i < p.length) (h : T p (k + 1) i = some v) : ∃ d, i + d < p.length ∧ F p k i d = some v := by
  rw [T_succ (Nat.le_of_lt hi), if_neg (by omega)] at h
  rcases fold_mem _ _ _ h with h | ⟨d, hd, e⟩
  · cases h
  · rw [List.mem_range] at hd
    exact ⟨d, by omega, e⟩
/-- with one colour or more there is a division -/
theorem T_some {p : Picture} {k i : Nat} (hi : i ≤ p.length) : ∃ v, T p (k + 1) i = some v := by
  by_cases h : p.length ≤ i
  · exact ⟨0, by rw [T_succ hi, if_pos h]⟩
  · obtain ⟨r, e, _⟩ := T_le (p := p) (k := k) (i := i) (d := p.length - i - 1) (v := groupError p i p.length) (by omega) (by omega) (by
      unfold F
      have e1 : i + (p.length - i - 1) + 1 = p.length := by omega
      rw [e1, T_end]; simp)
    exact ⟨r, e⟩
/-- one colour more never costs more -/
theorem T_mono {p : Picture} : ∀ {k i a : Nat}, i ≤ p.length → T p k i = some a → leO (T p (k + 1) i) a
  | 0, i, a, hi, h => by
    rw [T_zero hi] at h
    by_cases c : p.length ≤ i
    · rw [if_pos c] at h
      cases h
      exact ⟨0, by rw [T_succ hi, if_pos c], Nat.le_refl _⟩
    · rw [if_neg c] at h; cases h
  | k + 1, i, a, hi, h => by
    by_cases c : p.length ≤ i
    · exact ⟨0, by rw [T_succ hi, if_pos c], Nat.zero_le _⟩
    · obtain ⟨d, hd, e⟩ := T_mem (by omega) h
      unfold F at e
      cases ht : T p k (i + d + 1) with
      | none => rw [ht] at e; cases e
      | some v =>
        rw [ht] at e
        obtain ⟨r, er, hr⟩ := T_mono (k := k) (i := i + d + 1) (by omega) ht
        have e' : v + groupError p i (i + d + 1) = a := Option.some.inj e
        obtain ⟨r2, e2, h2⟩ := T_le (p := p) (k := k + 1) (i := i) (d := d) (v := r + groupError p i (i + d + 1)) (by omega) (by omega) (by unfold F; rw [er]; rfl)
        exact ⟨r2, e2, by omega⟩

/-! ### the best groups -/
def gsz (g : Group) : Nat := g.last - g.first
def sizes (p : Picture) (k i : Nat) : List Nat := (bestGroupsFrom p k i).map gsz
theorem best_end {p : Picture} {k : Nat} : bestGroupsFrom p k p.length = [] := by
  cases k with
  | zero => rfl
  | succ k => unfold bestGroupsFrom; rw [if_pos (Nat.le_refl _)]
theorem find_first {P : Nat → Bool} {d n : Nat} (hd : d < n) (h : P d = true) (hb : ∀ d', d' < d → P d' = false) : (List.range n).find? P = some d := by
  rw [List.find?_range_eq_some]
  exact ⟨h, List.mem_range.mpr hd, fun j hj => by simp [hb j hj]⟩
theorem best_step {p : Picture} {k i d E : Nat} (hi : i < p.length) (hd : i + d < p.length) (hT : T p (k + 1) i = some E) (h : F p k i d = some E) (hb : ∀ d', d' < d → F p k i d' ≠ some E) :
    bestGroupsFrom p (k + 1) i = ⟨i, i + d + 1, median p i (i + d + 1)⟩ :: bestGroupsFrom p k (i + d + 1) := by
  have e : (List.range (p.length - i)).find? (fun d => ((errorTable p k).getD (i + d + 1) none).isSome && ((errorTable p k).getD (i + d + 1) none).map (fun e => e + groupError p i (i + d + 1)) == (errorTable p (k + 1)).getD i none) = some d := by
    refine find_first (by omega) ?_ fun d' hd' => ?_
    · show ((T p k (i + d + 1)).isSome && (F p k i d == T p (k + 1) i)) = true
      have hs : (T p k (i + d + 1)).isSome = true := by
        unfold F at h
        cases ht : T p k (i + d + 1) with
        | none => rw [ht] at h; cases h
        | some v => rfl
      rw [hs, h, hT]; simp
    · show ((T p k (i + d' + 1)).isSome && (F p k i d' == T p (k + 1) i)) = false
      rw [hT]
      have := hb d' hd'
      simp [this]
  conv => lhs; unfold bestGroupsFrom
  rw [if_neg (by omega), e]
/-- what the least of the candidates tells -/
theorem step_min {p : Picture} {k i d e : Nat} (hi : i < p.length) (hd : i + d < p.length) (hT : T p k (i + d + 1) = some e)
    (hmin : ∀ d' e', i + d' < p.length → T p k (i + d' + 1) = some e' → groupError p i (i + d + 1) + e < groupError p i (i + d' + 1) + e' ∨ (groupError p i (i + d + 1) + e = groupError p i (i + d' + 1) + e' ∧ d ≤ d')) :
    T p (k + 1) i = some (groupError p i (i + d + 1) + e) ∧ bestGroupsFrom p (k + 1) i = ⟨i, i + d + 1, median p i (i + d + 1)⟩ :: bestGroupsFrom p k (i + d + 1) := by
  have hF : F p k i d = some (groupError p i (i + d + 1) + e) := by unfold F; rw [hT]; exact congrArg some (Nat.add_comm _ _)
  obtain ⟨r, er, hr⟩ := T_le hi hd hF
  obtain ⟨d2, hd2, e2⟩ := T_mem hi er
  have hE : r = groupError p i (i + d + 1) + e := by
    unfold F at e2
    cases ht : T p k (i + d2 + 1) with
    | none => rw [ht] at e2; cases e2
    | some v =>
      rw [ht] at e2
      have e3 : v + groupError p i (i + d2 + 1) = r := Option.some.inj e2
      rcases hmin d2 v hd2 ht with h | ⟨h, _⟩ <;> omega
  subst hE
  refine ⟨er, best_step hi hd er hF fun d' hd' h' => ?_⟩
  unfold F at h'
  cases ht : T p k (i + d' + 1) with
  | none => rw [ht] at h'; cases h'
  | some v =>
    rw [ht] at h'
    have e3 : v + groupError p i (i + d' + 1) = groupError p i (i + d + 1) + e := Option.some.inj h'
    rcases hmin d' v (by omega) ht with h | ⟨h, h2⟩ <;> omega
/-- groups from i to the end -/
def Chain (p : Picture) : Nat → List Group → Prop
  | i, [] => i = p.length
  | i, g :: r => g.first = i ∧ i < g.last ∧ g.last ≤ p.length ∧ g.colour = median p i g.last ∧ Chain p g.last r
theorem first_with {P : Nat → Prop} [DecidablePred P] : ∀ {d : Nat}, P d → ∃ m, m ≤ d ∧ P m ∧ ∀ j, j < m → ¬ P j
  | 0, h => ⟨0, Nat.le_refl _, h, fun j hj => absurd hj (Nat.not_lt_zero _)⟩
  | d + 1, h => by
    by_cases c : ∃ j, j ≤ d ∧ P j
    · obtain ⟨j, hj, pj⟩ := c
      have dec : DecidablePred P := inferInstance
      have := first_with_le (P := P) d ⟨j, hj, pj⟩
      obtain ⟨m, hm, pm, hb⟩ := this
      exact ⟨m, by omega, pm, hb⟩
    · exact ⟨d + 1, Nat.le_refl _, h, fun j hj pj => c ⟨j, by omega, pj⟩⟩
where
  first_with_le {P : Nat → Prop} [DecidablePred P] : ∀ d : Nat, (∃ j, j ≤ d ∧ P j) → ∃ m, m ≤ d ∧ P m ∧ ∀ j, j < m → ¬ P j
  | 0, ⟨j, hj, pj⟩ => ⟨0, Nat.le_refl _, by have : j = 0 := by omega
                                            subst this; exact pj, fun j hj => absurd hj (Nat.not_lt_zero _)⟩
  | d + 1, ⟨j, hj, pj⟩ => by
    by_cases c : ∃ j, j ≤ d ∧ P j
    · obtain ⟨m, hm, pm, hb⟩ := first_with_le d c
      exact ⟨m, by omega, pm, hb⟩
    · have : j = d + 1 := by
        by_cases q : j ≤ d
        · exact absurd ⟨j, q, pj⟩ c
        · omega
      subst this
      exact ⟨d + 1, Nat.le_refl _, pj, fun j hj pj => c ⟨j, by omega, pj⟩⟩
theorem chain_best {p : Picture} : ∀ {k i E : Nat}, i ≤ p.length → T p k i = some E → Chain p i (bestGroupsFrom p k i) ∧ ((bestGroupsFrom p k i).map fun g => groupError p g.first g.last).sum = E
  | 0, i, E, hi, h => by
    rw [T_zero hi] at h
    by_cases c : p.length ≤ i
    · rw [if_pos c] at h
      cases h
      exact ⟨by show i = p.length; omega, rfl⟩
    · rw [if_neg c] at h; cases h
  | k + 1, i, E, hi, h => by
    by_cases c : p.length ≤ i
    · rw [T_succ hi, if_pos c] at h
      cases h
      have : i = p.length := by omega
      subst this
      rw [best_end]
      exact ⟨rfl, rfl⟩
    · obtain ⟨d, hd, e⟩ := T_mem (by omega) h
      obtain ⟨m, hm, em, hb⟩ := first_with (P := fun d => F p k i d = some E) e
      rw [best_step (by omega) (by omega) h em hb]
      unfold F at em
      cases ht : T p k (i + m + 1) with
      | none => rw [ht] at em; cases em
      | some v =>
        rw [ht] at em
        have e3 : v + groupError p i (i + m + 1) = E := Option.some.inj em
        obtain ⟨c1, c2⟩ := chain_best (k := k) (i := i + m + 1) (by omega) ht
        refine ⟨⟨rfl, by show i < i + m + 1; omega, by show i + m + 1 ≤ p.length; omega, rfl, c1⟩, ?_⟩
        rw [List.map_cons, List.sum_cons, c2]
        show groupError p i (i + m + 1) + v = E
        omega
theorem minError_T (p : Picture) (k : Nat) : minError p k = T p k 0 := rfl
theorem minError_succ (p : Picture) (k : Nat) : ∃ v, minError p (k + 1) = some v := T_some (Nat.zero_le _)
theorem minError_zero (p : Picture) : minError p 0 = if p.length = 0 then some 0 else none := by
  rw [minError_T, T_zero (Nat.zero_le _)]
  by_cases h : p.length = 0
  · rw [if_pos h, if_pos (by omega)]
  · rw [if_neg h, if_neg (by omega)]
/-- one shade is its own colour -/
theorem groupError_one {p : Picture} {i : Nat} (hi : i < p.length) : groupError p i (i + 1) = 0 := by
  rw [groupError_seg (by omega) (by omega)]
  have hl : (seg p i (i + 1)).length = 1 := by rw [seg_length (by omega)]; omega
  have hm := medAt_lt (g := seg p i (i + 1)) (by omega)
  unfold ge medL
  have e : medAt (seg p i (i + 1)) = 0 := by omega
  rw [e]
  match hs : seg p i (i + 1), hl with
  | [s], _ =>
    unfold errW
    simp [difference]
theorem T_full {p : Picture} : ∀ {k i : Nat}, i ≤ p.length → p.length ≤ i + k → T p k i = some 0
  | 0, i, hi, h => by rw [T_zero hi, if_pos (by omega)]
  | k + 1, i, hi, h => by
    by_cases c : p.length ≤ i
    · rw [T_succ hi, if_pos c]
    · have hF : F p k i 0 = some 0 := by
        unfold F
        rw [Nat.add_zero, T_full (k := k) (i := i + 1) (by omega) (by omega), groupError_one (by omega)]; rfl
      obtain ⟨r, er, hr⟩ := T_le (by omega) (by omega) hF
      rw [er]
      exact congrArg some (by omega)
end Fs

set_option autoImplicit false
namespace Fs
open Sr110

/-! ### a picture as it stands between the calls -/
structure Good (p : Picture) : Prop where
  asc : p.Pairwise (fun s t => s.level < t.level)
  len : p.length ≤ 12
  bnd : ∀ s ∈ p, s.level ≤ 255 ∧ 1 ≤ s.count ∧ s.count ≤ 999
def below (p : Picture) (l : Nat) : Nat := (p.filter fun s => s.level < l).length
theorem below_cons_lt {s : Shade} {r : Picture} {l : Nat} (h : s.level < l) : below (s :: r) l = below r l + 1 := by
  unfold below; rw [List.filter_cons_of_pos (by simpa using h)]; rfl
theorem below_zero {p : Picture} {l : Nat} (h : ∀ s ∈ p, l ≤ s.level) : below p l = 0 := by
  unfold below
  rw [List.length_eq_zero_iff, List.filter_eq_nil_iff]
  intro s hs
  have := h s hs
  simp; omega
theorem below_le (p : Picture) (l : Nat) : below p l ≤ p.length := List.length_filter_le _ _
theorem insert_at {s : Shade} : ∀ {p : Picture}, p.Pairwise (fun s t => s.level < t.level) → (∀ t ∈ p, t.level ≠ s.level) → insertShade s p = p.take (below p s.level) ++ [s] ++ p.drop (below p s.level)
  | [], _, _ => rfl
  | t :: r, ha, hn => by
    rw [List.pairwise_cons] at ha
    have ht := hn t List.mem_cons_self
    unfold insertShade
    by_cases c : s.level < t.level
    · rw [if_pos c, below_zero fun u hu => by
        rcases List.mem_cons.mp hu with rfl | hu
        · omega
        · have := ha.1 u hu; omega]
      rfl
    · rw [if_neg c, below_cons_lt (by omega), insert_at ha.2 fun u hu => hn u (List.mem_cons_of_mem _ hu)]
      rfl
theorem insert_mem {s t : Shade} : ∀ {p : Picture}, t ∈ insertShade s p → t = s ∨ t ∈ p
  | [], h => by
    have h : t ∈ [s] := h
    exact .inl (List.mem_singleton.mp h)
  | u :: r, h => by
    unfold insertShade at h
    by_cases c : s.level < u.level
    · rw [if_pos c] at h
      rcases List.mem_cons.mp h with h | h
      · exact .inl h
      · exact .inr h
    · rw [if_neg c] at h
      rcases List.mem_cons.mp h with h | h
      · exact .inr (by rw [h]; exact List.mem_cons_self)
      · rcases insert_mem h with h | h
        · exact .inl h
        · exact .inr (List.mem_cons_of_mem _ h)
theorem insert_asc {s : Shade} : ∀ {p : Picture}, p.Pairwise (fun s t => s.level < t.level) → (∀ t ∈ p, t.level ≠ s.level) → (insertShade s p).Pairwise (fun s t => s.level < t.level)
  | [], _, _ => by simp [insertShade]
  | t :: r, ha, hn => by
    have ha' := List.pairwise_cons.mp ha
    have ht := hn t List.mem_cons_self
    unfold insertShade
    by_cases c : s.level < t.level
    · rw [if_pos c, List.pairwise_cons]
      refine ⟨fun u hu => ?_, ha⟩
      rcases List.mem_cons.mp hu with rfl | hu
      · exact c
      · have := ha'.1 u hu; omega
    · rw [if_neg c, List.pairwise_cons]
      refine ⟨fun u hu => ?_, insert_asc ha'.2 fun u hu => hn u (List.mem_cons_of_mem _ hu)⟩
      rcases insert_mem hu with rfl | hu
      · omega
      · exact ha'.1 u hu
theorem insert_length {s : Shade} : ∀ {p : Picture}, (insertShade s p).length = p.length + 1
  | [] => rfl
  | t :: r => by
    unfold insertShade
    by_cases c : s.level < t.level
    · rw [if_pos c]; rfl
    · rw [if_neg c, List.length_cons, insert_length]; rfl
theorem Good.nil : Good [] := ⟨.nil, Nat.zero_le _, fun s h => by cases h⟩
theorem Good.insert {p : Picture} {s : Shade} (g : Good p) (hs : s.level ≤ 255 ∧ 1 ≤ s.count ∧ s.count ≤ 999) (hn : ∀ t ∈ p, t.level ≠ s.level) (hl : p.length < 12) : Good (insertShade s p) where
  asc := insert_asc g.asc hn
  len := by rw [insert_length]; omega
  bnd := fun t ht => by
    rcases insert_mem ht with rfl | ht
    · exact hs
    · exact g.bnd t ht
theorem Good.erase {p : Picture} (g : Good p) (i : Nat) : Good (p.eraseIdx i) where
  asc := g.asc.sublist (List.eraseIdx_sublist _ _)
  len := Nat.le_trans (List.eraseIdx_sublist p i).length_le g.len
  bnd := fun s hs => g.bnd s ((List.eraseIdx_sublist p i).subset hs)
theorem Good.setCount {p : Picture} (g : Good p) {i c : Nat} (hi : i < p.length) (hc : 1 ≤ c ∧ c ≤ 999) : Good (p.set i { shadeAt p i with count := c }) where
  asc := by
    have h := g.asc
    rw [List.pairwise_iff_getElem] at h ⊢
    intro a b ha hb hab
    rw [List.length_set] at ha hb
    have e : ∀ (j : Nat) (hj : j < p.length), ((p.set i { shadeAt p i with count := c })[j]'(by rw [List.length_set]; exact hj)).level = p[j].level := by
      intro j hj
      rw [List.getElem_set]
      by_cases q : i = j
      · subst q
        rw [if_pos rfl]
        simp [shadeAt, hi]
      · rw [if_neg q]
    rw [e a ha, e b hb]
    exact h a b ha hb hab
  len := by rw [List.length_set]; exact g.len
  bnd := fun s hs => by
    rcases List.mem_or_eq_of_mem_set hs with h | rfl
    · exact g.bnd s h
    · have hm : shadeAt p i ∈ p := by
        have : shadeAt p i = p[i] := by simp [shadeAt, hi]
        rw [this]; exact List.getElem_mem hi
      exact ⟨(g.bnd _ hm).1, hc⟩

/-! ### the shade's colour -/
theorem chain_le {p : Picture} : ∀ {gs : List Group} {i : Nat}, Chain p i gs → i ≤ p.length
  | [], i, h => by have h : i = p.length := h; omega
  | g :: r, i, h => by
    obtain ⟨h1, h2, h3, _, _⟩ := h
    omega
/-- the colours, one a shade -/
def spread (gs : List Group) : List Nat := gs.flatMap fun g => List.replicate (gsz g) g.colour
theorem spread_find {p : Picture} : ∀ {gs : List Group} {i j : Nat}, Chain p i gs → i ≤ j → (spread gs)[j - i]? = (gs.find? fun g => decide (g.first ≤ j) && decide (j < g.last)).map (·.colour)
  | [], i, j, _, _ => by simp [spread]
  | g :: r, i, j, h, hj => by
    obtain ⟨h1, h2, h3, h4, h5⟩ := h
    have hs : gsz g = g.last - i := by unfold gsz; rw [h1]
    have e : spread (g :: r) = List.replicate (gsz g) g.colour ++ spread r := by simp [spread]
    rw [e, List.find?_cons]
    by_cases c : j < g.last
    · have c2 : (decide (g.first ≤ j) && decide (j < g.last)) = true := by simp; omega
      rw [c2, List.getElem?_append_left (by rw [List.length_replicate]; omega), List.getElem?_replicate, if_pos (by omega)]; rfl
    · have c2 : (decide (g.first ≤ j) && decide (j < g.last)) = false := by simp; omega
      rw [c2, List.getElem?_append_right (by rw [List.length_replicate]; omega), List.length_replicate]
      have e2 : j - i - gsz g = j - g.last := by omega
      rw [e2, spread_find h5 (by omega)]
theorem spread_length {p : Picture} : ∀ {gs : List Group} {i : Nat}, Chain p i gs → (spread gs).length = p.length - i
  | [], i, h => by have h : i = p.length := h; simp [spread, h]
  | g :: r, i, h => by
    obtain ⟨h1, h2, h3, h4, h5⟩ := h
    have e : spread (g :: r) = List.replicate (gsz g) g.colour ++ spread r := by simp [spread]
    rw [e, List.length_append, List.length_replicate, spread_length h5]
    unfold gsz
    have := chain_le h5
    omega
theorem chain_length {p : Picture} : ∀ {gs : List Group} {i : Nat}, Chain p i gs → gs.length ≤ p.length - i
  | [], i, h => Nat.zero_le _
  | g :: r, i, h => by
    obtain ⟨h1, h2, h3, h4, h5⟩ := h
    have := chain_length h5
    rw [List.length_cons]
    omega

/-! ### bounds -/
theorem tot_cons (s : Shade) (g : Picture) : tot (s :: g) = s.count + tot g := by simp [tot]
theorem errW_cons (s : Shade) (g : Picture) (c : Nat) : errW (s :: g) c = s.count * difference s.level c + errW g c := by simp [errW]
theorem tot_append (g h : Picture) : tot (g ++ h) = tot g + tot h := by simp [tot]
theorem tot_le {B : Nat} : ∀ {g : Picture}, (∀ s ∈ g, s.count ≤ B) → tot g ≤ B * g.length
  | [], _ => by simp [tot]
  | s :: r, h => by
    rw [tot_cons, List.length_cons, Nat.mul_succ]
    have h1 := h s List.mem_cons_self
    have h2 := tot_le (g := r) fun t ht => h t (List.mem_cons_of_mem _ ht)
    omega
theorem diff_int (a b : Nat) : ((difference a b : Nat) : Int) = if ((a : Int) - (b : Int)) < 0 then -((a : Int) - (b : Int)) else (a : Int) - (b : Int) := by
  unfold difference
  by_cases h : (a : Int) - (b : Int) < 0
  · rw [if_pos h, Nat.max_eq_right (by omega), Nat.min_eq_left (by omega)]
    omega
  · rw [if_neg h, Nat.max_eq_left (by omega), Nat.min_eq_right (by omega)]
    omega
theorem diff_le {a b B : Nat} (ha : a ≤ B) (hb : b ≤ B) : difference a b ≤ B := by
  unfold difference; omega

/-! ### the nearest colour -/
theorem nearest_le : ∀ (l : List Nat) (b level : Nat), let r := l.foldl (fun best c => if difference level c < difference level best then c else best) b
    (r = b ∨ r ∈ l) ∧ difference level r ≤ difference level b ∧ ∀ c ∈ l, difference level r ≤ difference level c
  | [], b, level => ⟨.inl rfl, Nat.le_refl _, fun c h => by cases h⟩
  | x :: r, b, level => by
    obtain ⟨h1, h2, h3⟩ := nearest_le r (if difference level x < difference level b then x else b) level
    refine ⟨?_, ?_, ?_⟩
    · rcases h1 with h1 | h1
      · by_cases c : difference level x < difference level b
        · rw [if_pos c] at h1
          exact .inr (by rw [List.foldl_cons, if_pos c, h1]; exact List.mem_cons_self)
        · rw [if_neg c] at h1
          exact .inl (by rw [List.foldl_cons, if_neg c, h1])
      · exact .inr (List.mem_cons_of_mem _ h1)
    · show difference level (r.foldl _ (if difference level x < difference level b then x else b)) ≤ _
      refine Nat.le_trans h2 ?_
      by_cases c : difference level x < difference level b
      · rw [if_pos c]; omega
      · rw [if_neg c]; omega
    · intro c hc
      rcases List.mem_cons.mp hc with rfl | hc
      · refine Nat.le_trans h2 ?_
        by_cases q : difference level c < difference level b
        · rw [if_pos q]; omega
        · rw [if_neg q]; omega
      · exact h3 c hc
theorem nearest_is {pal : List Nat} {level m : Nat} (hm : ∃ c ∈ pal, difference level c = m) (hle : ∀ c ∈ pal, m ≤ difference level c) : difference level (nearestColour pal level) = m := by
  obtain ⟨c, hc, rfl⟩ := hm
  cases pal with
  | nil => cases hc
  | cons x r =>
    unfold nearestColour
    obtain ⟨h1, h2, h3⟩ := nearest_le (x :: r) x level
    have e1 := h3 c hc
    have e2 : ∃ d ∈ x :: r, (x :: r).foldl (fun best c => if difference level c < difference level best then c else best) ((x :: r).headD 0) = d := by
      rcases h1 with h1 | h1
      · exact ⟨x, List.mem_cons_self, h1⟩
      · exact ⟨_, h1, rfl⟩
    obtain ⟨d, hd, e⟩ := e2
    rw [e]
    have e3 := hle d hd
    have e4 : (x :: r).foldl (fun best c => if difference level c < difference level best then c else best) x = d := e
    have e5 : difference level ((x :: r).foldl (fun best c => if difference level c < difference level best then c else best) x) ≤ difference level c := e1
    rw [e4] at e5
    omega
theorem minColours_at {p : Picture} {m k : Nat} (hk : k ≤ p.length) (h : ∃ e, minError p k = some e ∧ e ≤ m) (hb : ∀ j, j < k → ∀ e, minError p j = some e → m < e) : minColours p m = k := by
  have e : (List.range (p.length + 1)).find? (fun k => match minError p k with | none => false | some e => decide (e ≤ m)) = some k := by
    refine find_first (by omega) ?_ fun j hj => ?_
    · obtain ⟨e, h1, h2⟩ := h
      simp only [h1]
      exact decide_eq_true h2
    · cases q : minError p j with
      | none => rfl
      | some e =>
        have := hb j hj e q
        exact decide_eq_false (by omega)
  exact congrArg (fun o => Option.getD o p.length) e
theorem reduction_int {p : Picture} {k a b : Nat} (h1 : minError p k = some a) (h2 : minError p (k + 1) = some b) : ((a - b : Nat) : Int) = (a : Int) - (b : Int) := by
  obtain ⟨r, e, h⟩ := T_mono (p := p) (k := k) (i := 0) (Nat.zero_le _) h1
  have e2 : T p (k + 1) 0 = some b := h2
  rw [e2] at e
  cases e
  omega
theorem whole_id (c : List (List Int)) : PySr110.whole c = c := by
  unfold PySr110.whole
  split <;> rfl
theorem calls_eq (l : List Int) : PySr110.calls l = PyFlat.calls PySr110.shape l.length l := by
  unfold PySr110.calls
  cases PyFlat.calls PySr110.shape l.length l with
  | none => rfl
  | some cs =>
    show some (cs.map PySr110.whole) = some cs
    congr 1
    rw [show PySr110.whole = id from funext whole_id, List.map_id]
end Fs

set_option autoImplicit false
namespace Fs
open Sr110 (Call Picture perform)
/-- one call at the head of the list: the call, what stands behind it -/
inductive Rd : List Int → Call → List Int → Prop
  | c0 (t) : Rd (0 :: t) .create t
  | c1 (x y t) : Rd (1 :: x :: y :: t) (.addShade x y) t
  | c2 (x t) : Rd (2 :: x :: t) (.removeShade x) t
  | c3 (x y t) : Rd (3 :: x :: y :: t) (.setCount x y) t
  | c4 (x t) : Rd (4 :: x :: t) (.minError x) t
  | c5 (x t) : Rd (5 :: x :: t) (.bestPalette x) t
  | c6 (x t) : Rd (6 :: x :: t) (.bestGroups x) t
  | c7 (x y t) : Rd (7 :: x :: y :: t) (.colourOf x y) t
  | c8 (x t) : Rd (8 :: x :: t) (.errorReduction x) t
  | c9 (t) : Rd (9 :: t) .errorTable t
  | c10 (x t) : Rd (10 :: x :: t) (.minColours x) t
  | c11 (l t) : Rd (11 :: (l.length : Int) :: (l ++ t)) (.paletteError l) t
  | c12 (x y t) : Rd (12 :: x :: y :: t) (.median x y) t
  | c13 (x t) : Rd (13 :: x :: t) (.groupCounts x) t
  | c14 (t) : Rd (14 :: t) .totals t
  | c15 (t) : Rd (15 :: t) .describe t
theorem two {r : List Int} (h : ¬ r.length < 2) : ∃ x y t, r = x :: y :: t := by
  match r, h with
  | x :: y :: t, _ => exact ⟨x, y, t, rfl⟩
  | [_], h => simp at h
  | [], h => simp at h
theorem one {r : List Int} (h : ¬ r.length < 1) : ∃ x t, r = x :: t := by
  match r, h with
  | x :: t, _ => exact ⟨x, t, rfl⟩
  | [], h => simp at h
theorem call_plain {shape : Int → Option (Nat × Nat)} {p : Int} {r : List Int} {n : Nat} {c : List (List Int)} {t : List Int} (hs : shape p = some (n, 0)) (h : PyFlat.call shape (p :: r) = some (c, t)) : ¬ r.length < n ∧ c = [p :: r.take n] ∧ t = r.drop n := by
  unfold PyFlat.call at h
  dsimp only at h
  rw [hs] at h
  dsimp only at h
  by_cases q : r.length < n
  · rw [if_pos q] at h; cases h
  · rw [if_neg q] at h
    simp only [PyFlat.rows] at h
    cases h
    exact ⟨q, rfl, rfl⟩
theorem call_list {shape : Int → Option (Nat × Nat)} {p : Int} {r : List Int} {c : List (List Int)} {t : List Int} (hs : shape p = some (0, 1)) (h : PyFlat.call shape (p :: r) = some (c, t)) : ∃ l, r = (l.length : Int) :: (l ++ t) ∧ c = [[p], l] := by
  unfold PyFlat.call at h
  dsimp only at h
  rw [hs] at h
  simp only [Nat.not_lt_zero, if_false, List.drop_zero, List.take_zero, PyFlat.rows] at h
  cases r with
  | nil => simp [PyFlat.row] at h
  | cons n r =>
    unfold PyFlat.row at h
    by_cases q : 0 ≤ n ∧ n.toNat ≤ r.length
    · simp only [q, and_self, if_true] at h
      cases h
      refine ⟨r.take n.toNat, ?_, rfl⟩
      rw [List.take_append_drop, List.length_take]
      congr 1; omega
    · simp only [q, if_false] at h
      cases h
theorem shape_some {p : Int} {q : Nat × Nat} (h : PySr110.shape p = some q) : p = 0 ∨ p = 1 ∨ p = 2 ∨ p = 3 ∨ p = 4 ∨ p = 5 ∨ p = 6 ∨ p = 7 ∨ p = 8 ∨ p = 9 ∨ p = 10 ∨ p = 11 ∨ p = 12 ∨ p = 13 ∨ p = 14 ∨ p = 15 := by
  refine Classical.byContradiction fun c => ?_
  simp only [not_or] at c
  unfold PySr110.shape at h
  simp [c] at h
theorem call_inv {l : List Int} {c : List (List Int)} {t : List Int} (h : PyFlat.call PySr110.shape l = some (c, t)) : ∃ cl, Rd l cl t ∧ Sr110Neutral.parseCall c = some cl := by
  cases l with
  | nil => cases h
  | cons p r =>
    cases hs : PySr110.shape p with
    | none =>
      unfold PyFlat.call at h
      dsimp only at h
      rw [hs] at h
      cases h
    | some q =>
      rcases shape_some hs with rfl | rfl | rfl | rfl | rfl | rfl | rfl | rfl | rfl | rfl | rfl | rfl | rfl | rfl | rfl | rfl
      · obtain ⟨a, rfl, rfl⟩ := call_plain (n := 0) rfl h
        exact ⟨_, .c0 _, rfl⟩
      · obtain ⟨a, rfl, rfl⟩ := call_plain (n := 2) rfl h
        obtain ⟨x, y, t, rfl⟩ := two a
        exact ⟨_, .c1 _ _ _, rfl⟩
      · obtain ⟨a, rfl, rfl⟩ := call_plain (n := 1) rfl h
        obtain ⟨x, t, rfl⟩ := one a
        exact ⟨_, .c2 _ _, rfl⟩
      · obtain ⟨a, rfl, rfl⟩ := call_plain (n := 2) rfl h
        obtain ⟨x, y, t, rfl⟩ := two a
        exact ⟨_, .c3 _ _ _, rfl⟩
      · obtain ⟨a, rfl, rfl⟩ := call_plain (n := 1) rfl h
        obtain ⟨x, t, rfl⟩ := one a
        exact ⟨_, .c4 _ _, rfl⟩
      · obtain ⟨a, rfl, rfl⟩ := call_plain (n := 1) rfl h
        obtain ⟨x, t, rfl⟩ := one a
        exact ⟨_, .c5 _ _, rfl⟩
      · obtain ⟨a, rfl, rfl⟩ := call_plain (n := 1) rfl h
        obtain ⟨x, t, rfl⟩ := one a
        exact ⟨_, .c6 _ _, rfl⟩
      · obtain ⟨a, rfl, rfl⟩ := call_plain (n := 2) rfl h
        obtain ⟨x, y, t, rfl⟩ := two a
        exact ⟨_, .c7 _ _ _, rfl⟩
      · obtain ⟨a, rfl, rfl⟩ := call_plain (n := 1) rfl h
        obtain ⟨x, t, rfl⟩ := one a
        exact ⟨_, .c8 _ _, rfl⟩
      · obtain ⟨a, rfl, rfl⟩ := call_plain (n := 0) rfl h
        exact ⟨_, .c9 _, rfl⟩
      · obtain ⟨a, rfl, rfl⟩ := call_plain (n := 1) rfl h
        obtain ⟨x, t, rfl⟩ := one a
        exact ⟨_, .c10 _ _, rfl⟩
      · obtain ⟨l, rfl, rfl⟩ := call_list rfl h
        exact ⟨_, .c11 _ _, rfl⟩
      · obtain ⟨a, rfl, rfl⟩ := call_plain (n := 2) rfl h
        obtain ⟨x, y, t, rfl⟩ := two a
        exact ⟨_, .c12 _ _ _, rfl⟩
      · obtain ⟨a, rfl, rfl⟩ := call_plain (n := 1) rfl h
        obtain ⟨x, t, rfl⟩ := one a
        exact ⟨_, .c13 _ _, rfl⟩
      · obtain ⟨a, rfl, rfl⟩ := call_plain (n := 0) rfl h
        exact ⟨_, .c14 _, rfl⟩
      · obtain ⟨a, rfl, rfl⟩ := call_plain (n := 0) rfl h
        exact ⟨_, .c15 _, rfl⟩
/-- a whole request -/
inductive Req : List Int → List Call → Prop
  | nil : Req [] []
  | cons {l t : List Int} {c : Call} {cs : List Call} : Rd l c t → Req t cs → Req l (c :: cs)
/-- one answer as it is told -/
def rowT (r : SrCommon.Result) : List Int := ((r.values.length + 1 : Nat) : Int) :: r.code :: r.values
/-- all answers from a state on -/
def rows : Sr110.State → List Call → List Int
  | _, [] => []
  | s, c :: r => rowT (Sr110.step s c).2 ++ rows (Sr110.step s c).1 r
theorem told_cons (a : List Int) (r : List (List Int)) : PyFlat.told (a :: r) = ((a.length : Int) :: a) ++ PyFlat.told r := by
  unfold PyFlat.told
  rw [List.flatMap_cons]
theorem calls_req : ∀ (f : Nat) (l : List Int) (cs : List (List (List Int))), PyFlat.calls PySr110.shape f l = some cs → ∃ cls, Req l cls ∧ cls.length = cs.length ∧ ∀ s, PyFlat.told (PyFlat.played Sr110Neutral.step s cs) = rows s cls
  | f, [], cs, h => by
    have e : cs = [] := by
      cases f <;> exact (Option.some.inj h).symm
    subst e
    exact ⟨[], .nil, rfl, fun s => rfl⟩
  | 0, _ :: _, cs, h => by cases h
  | f + 1, p :: r, cs, h => by
    unfold PyFlat.calls at h
    cases hc : PyFlat.call PySr110.shape (p :: r) with
    | none => rw [hc] at h; cases h
    | some q =>
      obtain ⟨c, t⟩ := q
      rw [hc] at h
      simp only at h
      cases ht : PyFlat.calls PySr110.shape f t with
      | none => rw [ht] at h; cases h
      | some cs' =>
        rw [ht] at h
        cases h
        obtain ⟨cl, h1, h2⟩ := call_inv hc
        obtain ⟨cls, h3, h4, h5⟩ := calls_req f t cs' ht
        refine ⟨cl :: cls, .cons h1 h3, by rw [List.length_cons, List.length_cons, h4], fun s => ?_⟩
        have e : Sr110Neutral.step s c = ((Sr110.step s cl).1, (Sr110.step s cl).2.code :: (Sr110.step s cl).2.values) := by
          unfold Sr110Neutral.step
          rw [h2]
        unfold PyFlat.played
        rw [e, told_cons, h5]
        rfl
/-- what is asked of a request, in these words -/
theorem asked_req {ns : List Int} (h : PySr110.answers_asked ns = true) : ∃ cls, Req ns cls ∧ ns ≠ [] ∧ cls.length ≤ 60 ∧ PySr110.answers ns = rows none cls ∧ (PySr110.answers ns).length ≤ 10000000 := by
  unfold PySr110.answers_asked at h
  cases hc : PyFlat.calls PySr110.shape ns.length ns with
  | none => rw [hc] at h; cases h
  | some cs =>
    rw [hc] at h
    simp only [Bool.and_eq_true] at h
    obtain ⟨⟨⟨⟨h1, h2⟩, h3⟩, h4⟩, h5⟩ := h
    obtain ⟨cls, a, b, c⟩ := calls_req _ _ _ hc
    refine ⟨cls, a, ?_, ?_, ?_, ?_⟩
    · rintro rfl
      have : cs = [] := (Option.some.inj hc).symm
      subst this
      exact absurd h1 (by decide)
    · unfold PyFlat.atMost at h2
      rw [decide_eq_true_eq] at h2
      omega
    · unfold PySr110.answers
      rw [calls_eq, hc]
      exact c none
    · unfold PyFlat.short at h5
      rw [decide_eq_true_eq] at h5
      exact h5
/-- what a step makes of a picture -/
theorem step_create (s : Sr110.State) : Sr110.step s .create = (some [], .ofCode 0) := rfl
theorem step_none {c : Call} (h : c ≠ .create) : Sr110.step none c = (none, .ofCode (-11)) := by
  cases c <;> first | exact absurd rfl h | rfl
theorem step_some {c : Call} (p : Picture) (h : c ≠ .create) : Sr110.step (some p) c = (some ((perform p c).1.getD p), (perform p c).2) := by
  have key : ∀ o : Option Picture × SrCommon.Result, (match o with | (some changed, result) => (some changed, result) | (none, result) => (some p, result)) = ((some (o.1.getD p), o.2) : Sr110.State × SrCommon.Result) := by
    rintro ⟨_ | q, r⟩ <;> rfl
  cases c with
  | create => exact absurd rfl h
  | addShade x y => exact key (perform p (.addShade x y))
  | removeShade i => exact key (perform p (.removeShade i))
  | setCount i n => exact key (perform p (.setCount i n))
  | minError k => rfl
  | bestPalette k => rfl
  | bestGroups k => rfl
  | colourOf i k => rfl
  | errorReduction k => rfl
  | errorTable => rfl
  | minColours m => rfl
  | paletteError l => rfl
  | median i j => rfl
  | groupCounts k => rfl
  | totals => rfl
  | describe => rfl
/-- the picture stays as it should be -/
theorem good_step {p : Picture} (g : Good p) (c : Call) : Good ((perform p c).1.getD p) := by
  cases c with
  | addShade x y =>
    show Good ((if Sr110.isLevel x = false ∨ Sr110.isCount y = false then Sr110.error SrCommon.invalidArgument else if p.any (fun s => s.level == x.toNat) then Sr110.error SrCommon.duplicate else if Sr110.maxShades ≤ p.length then Sr110.error SrCommon.capacityReached else (some (Sr110.insertShade ⟨x.toNat, y.toNat⟩ p), Sr110.countResult (p.filter fun s => s.level < x.toNat).length)).1.getD p)
    by_cases c1 : Sr110.isLevel x = false ∨ Sr110.isCount y = false
    · rw [if_pos c1]; exact g
    · rw [if_neg c1]
      by_cases c2 : p.any (fun s => s.level == x.toNat) = true
      · rw [if_pos c2]; exact g
      · rw [if_neg c2]
        by_cases c3 : Sr110.maxShades ≤ p.length
        · rw [if_pos c3]; exact g
        · rw [if_neg c3]
          rw [not_or] at c1
          obtain ⟨d1, d2⟩ := c1
          have e1 : Sr110.isLevel x = true := by simpa using d1
          have e2 : Sr110.isCount y = true := by simpa using d2
          unfold Sr110.isLevel SrCommon.inRange at e1
          unfold Sr110.isCount SrCommon.inRange at e2
          rw [Bool.and_eq_true, decide_eq_true_eq, decide_eq_true_eq] at e1 e2
          unfold Sr110.maxShades at c3
          refine g.insert ⟨by show x.toNat ≤ 255; omega, by show 1 ≤ y.toNat; omega, by show y.toNat ≤ 999; omega⟩ (fun t ht => ?_) (by omega)
          have h5 : p.any (fun s => s.level == x.toNat) = false := by simpa using c2
          have h6 := List.any_eq_false.mp h5 t ht
          simpa using h6
  | removeShade i =>
    show Good ((if Sr110.isShade p i = false then Sr110.error SrCommon.notFound else (some (p.eraseIdx i.toNat), Sr110.countResult (p.length - 1))).1.getD p)
    by_cases c1 : Sr110.isShade p i = false
    · rw [if_pos c1]; exact g
    · rw [if_neg c1]; exact g.erase _
  | setCount i n =>
    show Good ((if Sr110.isShade p i = false then Sr110.error SrCommon.notFound else if Sr110.isCount n = false then Sr110.error SrCommon.invalidArgument else (some (p.set i.toNat { Sr110.shadeAt p i.toNat with count := n.toNat }), Sr110.countResult (Sr110.shadeAt p i.toNat).count)).1.getD p)
    by_cases c1 : Sr110.isShade p i = false
    · rw [if_pos c1]; exact g
    · rw [if_neg c1]
      by_cases c2 : Sr110.isCount n = false
      · rw [if_pos c2]; exact g
      · rw [if_neg c2]
        have e1 : Sr110.isShade p i = true := by simpa using c1
        have e2 : Sr110.isCount n = true := by simpa using c2
        unfold Sr110.isShade SrCommon.isIndex at e1
        unfold Sr110.isCount SrCommon.inRange at e2
        rw [Bool.and_eq_true, decide_eq_true_eq, decide_eq_true_eq] at e1 e2
        exact g.setCount (by omega) ⟨by omega, by omega⟩
  | create => exact g
  | minError k => exact g
  | bestPalette k => exact g
  | bestGroups k => exact g
  | colourOf i k => exact g
  | errorReduction k => exact g
  | errorTable => exact g
  | minColours m => exact g
  | paletteError l => exact g
  | median i j => exact g
  | groupCounts k => exact g
  | totals => exact g
  | describe => exact g
end Fs

set_option Elab.async false
set_option linter.all false
set_option maxRecDepth 100000
set_option maxHeartbeats 4000000
namespace Fs
open PySem PySem.Spec PyProof.Rows L2
open Sr110 (Shade Picture)

/-! ### shades in the heap -/
theorem _root_.L2.Same.up {H : Hp} {p : Addr} {o : HO} (h : H p = none) : Same H (upd H p o) := fun b x e => by
  rw [upd_ne (ne_of_none e h)]
  exact e
theorem _root_.L2.Same.seqT {K : PySem.W.Frag} {H H' : Hp} {a : Addr} {xs : List V} (e : Same H H') (h : SqT K H a xs) : SqT K H' a xs := by
  rcases h with (h | ⟨o, h⟩) | h
  · exact .inl (.inl (e _ _ h))
  · exact .inl (.inr ⟨o, e _ _ h⟩)
  · exact .inr h
/-- what did not stand before may change -/
theorem _root_.L2.Same.mut {H H' : Hp} {p : Addr} {o : HO} (e : Same H H') (h : H p = none) : Same H (upd H' p o) := fun b x q => by
  rw [upd_ne (ne_of_none q h)]
  exact e b x q
def shO (s : Shade) : HO := .tup [.int (s.level : Int), .int (s.count : Int)]
def Shs (H : Hp) : List V → Picture → Prop
  | [], [] => True
  | t :: ts, s :: p => (∃ a, t = .ref a ∧ H a = some (shO s)) ∧ Shs H ts p
  | _, _ => False
theorem Shs.mono {H H' : Hp} (e : Same H H') : ∀ {ts : List V} {p : Picture}, Shs H ts p → Shs H' ts p
  | [], [], _ => trivial
  | t :: ts, s :: p, ⟨⟨a, e1, e2⟩, r⟩ => ⟨⟨a, e1, e _ _ e2⟩, Shs.mono e r⟩
theorem Shs.length {H : Hp} : ∀ {ts : List V} {p : Picture}, Shs H ts p → ts.length = p.length
  | [], [], _ => rfl
  | t :: ts, s :: p, ⟨_, r⟩ => by rw [List.length_cons, List.length_cons, Shs.length r]
theorem Shs.get {H : Hp} : ∀ {ts : List V} {p : Picture} {i : Nat} {s : Shade}, Shs H ts p → p[i]? = some s → ∃ a, ts[i]? = some (.ref a) ∧ H a = some (shO s)
  | [], [], i, s, _, h => by simp at h
  | t :: ts, u :: p, 0, s, ⟨⟨a, e1, e2⟩, r⟩, h => by
    have e : u = s := Option.some.inj h
    subst e
    exact ⟨a, by rw [e1]; rfl, e2⟩
  | t :: ts, u :: p, i + 1, s, ⟨_, r⟩, h => by
    obtain ⟨a, e1, e2⟩ := Shs.get (ts := ts) (p := p) (i := i) (s := s) r (by simpa using h)
    exact ⟨a, by simpa using e1, e2⟩
theorem Shs.get2 {H : Hp} {ts : List V} {p : Picture} {i : Nat} {x : V} (h : Shs H ts p) (e : ts[i]? = some x) : ∃ s a, p[i]? = some s ∧ x = .ref a ∧ H a = some (shO s) := by
  have hi : i < p.length := by
    rw [← h.length]
    exact (List.getElem?_eq_some_iff.mp e).1
  obtain ⟨a, e1, e2⟩ := h.get (List.getElem?_eq_getElem hi)
  rw [e] at e1
  cases e1
  exact ⟨_, a, List.getElem?_eq_getElem hi, rfl, e2⟩
theorem Shs.append {H : Hp} : ∀ {ts us : List V} {p q : Picture}, Shs H ts p → Shs H us q → Shs H (ts ++ us) (p ++ q)
  | [], us, [], q, _, h => h
  | t :: ts, us, s :: p, q, ⟨h1, r⟩, h => ⟨h1, Shs.append r h⟩
theorem Shs.take {H : Hp} : ∀ {ts : List V} {p : Picture} (n : Nat), Shs H ts p → Shs H (ts.take n) (p.take n)
  | [], [], n, _ => by rw [List.take_nil, List.take_nil]; trivial
  | t :: ts, s :: p, 0, _ => trivial
  | t :: ts, s :: p, n + 1, ⟨h1, r⟩ => ⟨h1, Shs.take n r⟩
theorem Shs.drop {H : Hp} : ∀ {ts : List V} {p : Picture} (n : Nat), Shs H ts p → Shs H (ts.drop n) (p.drop n)
  | [], [], n, _ => by rw [List.drop_nil, List.drop_nil]; trivial
  | t :: ts, s :: p, 0, h => h
  | t :: ts, s :: p, n + 1, ⟨_, r⟩ => Shs.drop n r
theorem Shs.set {H : Hp} {s : Shade} {a : Addr} (ha : H a = some (shO s)) : ∀ {ts : List V} {p : Picture} (i : Nat), Shs H ts p → Shs H (ts.set i (.ref a)) (p.set i s)
  | [], [], i, _ => trivial
  | t :: ts, u :: p, 0, ⟨_, r⟩ => ⟨⟨a, rfl, ha⟩, r⟩
  | t :: ts, u :: p, i + 1, ⟨h1, r⟩ => ⟨h1, Shs.set ha i r⟩
theorem Shs.erase {H : Hp} {ts : List V} {p : Picture} (i : Nat) (h : Shs H ts p) : Shs H (ts.eraseIdx i) (p.eraseIdx i) := by
  rw [List.eraseIdx_eq_take_drop_succ, List.eraseIdx_eq_take_drop_succ]
  exact (h.take i).append (h.drop (i + 1))
/-- a list of shades, to be read -/
def PicL (K : PySem.W.Frag) (H : Hp) (a : Addr) (p : Picture) : Prop := ∃ ts, SqL K H a ts ∧ Shs H ts p
theorem PicL.mono {K : PySem.W.Frag} {H H' : Hp} {a : Addr} {p : Picture} (e : Same H H') (h : PicL K H a p) : PicL K H' a p := by
  obtain ⟨ts, h1, h2⟩ := h
  exact ⟨ts, e.seq h1, h2.mono e⟩
theorem cut_seg {xs : List V} {i j : Nat} (hi : i ≤ j) (hj : j ≤ xs.length) : cutV xs (some (i : Int)) (some (j : Int)) = (xs.drop i).take (j - i) := by
  unfold cutV
  rw [HT.sIx_nat, HT.sIx_nat, Nat.min_eq_left hj, Nat.min_eq_left (by omega)]
theorem Shs.seg {H : Hp} {ts : List V} {p : Picture} {i j : Nat} (h : Shs H ts p) : Shs H ((ts.drop i).take (j - i)) (Fs.seg p i j) := (h.drop i).take _
/-- the picture stands at a, to be changed -/
def PicM (H : Hp) (a : Addr) (p : Picture) : Prop := ∃ ts, H a = some (.lst ts) ∧ Shs H ts p
theorem PicM.l {K : PySem.W.Frag} {H : Hp} {a : Addr} {p : Picture} (h : PicM H a p) : PicL K H a p := by
  obtain ⟨ts, h1, h2⟩ := h
  exact ⟨ts, SqL.of h1, h2⟩
theorem PicM.mono {H H' : Hp} {a : Addr} {p : Picture} (s : Same H H') (h : PicM H a p) : PicM H' a p := by
  obtain ⟨ts, h1, h2⟩ := h
  exact ⟨ts, s _ _ h1, h2.mono s⟩
theorem Shs.past {H H' : Hp} {G : Addr} {xs : List V} {o : HO} (hG : H G = some (.lst xs)) (s : Same H H') : ∀ {ts : List V} {p : Picture}, Shs H ts p → Shs (upd H' G o) ts p
  | [], [], _ => trivial
  | _ :: _, _ :: _, ⟨⟨b, e1, e2⟩, r⟩ => ⟨⟨b, e1, by rw [upd_ne (ne_of e2 hG (fun z => nomatch z))]; exact s _ _ e2⟩, Shs.past hG s r⟩
/-- another list may change -/
theorem PicM.past {H H' : Hp} {t G : Addr} {p : Picture} {xs : List V} {o : HO} (hG : H G = some (.lst xs)) (ht : t ≠ G) (s : Same H H') (h : PicM H t p) : PicM (upd H' G o) t p := by
  obtain ⟨ts, h1, h2⟩ := h
  exact ⟨ts, by rw [upd_ne ht]; exact s _ _ h1, h2.past hG s⟩
abbrev Cal := @C8.Cal
/-- a def of the text, under its name -/
structure Df (K : PySem.W.Frag) (mg : Str → Option Value) (x : Str) (st : Stmt) : Prop where
  ex : ∃ f fd, Fun K x x st f fd ∧ mg x = some (.ref f)
theorem cal_mk {P : Program} {w : World} {K : PySem.W.Frag} {mg : Str → Option Value} {base : Heap} {k : Nat} {x : Str} {st : Stmt} {ps : List Str} {sp : Sp} (D : Df K mg x st)
    (hb : ∀ (kV doc pm : Value) (an : Option Addr) (cdv ct : Value) (us : List Value), us.length = ps.length → bindArgs (PySem.W.fnOf x x (defArgs st) (defBody st) (defScope st) .none kV doc pm an cdv ct) ⟨us, []⟩ = pure (ps.zip us))
    (h : ∀ f fd, Fun K x x st f fd → FnOk P w K mg base CX0 k f fd ps sp) : Cal P w K mg base k x sp [] := by
  obtain ⟨f, fd, F, e⟩ := D.ex
  exact ⟨f, fd, ps, [], h f fd F, e, F.kp, F.binds hb, .nil⟩
end Fs

set_option Elab.async false
set_option linter.all false
set_option maxRecDepth 100000
set_option maxHeartbeats 4000000
namespace Fs
open PySem PySem.Spec PyProof.Rows L2
/-- a dict of the module whose keys are written whole numbers -/
structure KDictI (K : PySem.W.Frag) (d : Addr) (es : Array DictEntry) (n : Nat) : Prop where
  at_ : K.lookup d = some ⟨.type "dict", none, .dict es n, #[]⟩
  nums : ∀ e ∈ es.toList, ∃ i t, e.key = .int i t ∧ e.hash = hashInt i
def rIxDI (d : Addr) (es : Array DictEntry) : R2 := fun x y H Q => ∃ (i : Int) (u0 : Value) (v0 : V), x = .ref d ∧ y = .int i ∧ findBy Value.isInt es i = some u0 ∧ RelV v0 u0 ∧ Q v0 H
section
variable {X : Cx} {d : Addr} {es : Array DictEntry} {n : Nat}
theorem KDictI.map {K : PySem.W.Frag} {P : Program} {w : World} {h : Heap} (D : KDictI K d es n) (X : K.In h) : h.MapOf (PySem.intKind P w) d (fun k => findBy Value.isInt es k) :=
  ⟨_, es, n, X _ _ D.at_, ⟨rfl, rfl, rfl⟩, rfl, fun e he => by
    obtain ⟨i, t, e1, e2⟩ := D.nums e (Array.mem_toList_iff.mpr he)
    refine ⟨i, ?_, e2⟩
    rw [e1]
    show Value.isInt i (.int i t) = true
    simp [Value.isInt], fun _ => rfl⟩
theorem ix_kdI (D : KDictI X.K d es n) : IxR X (rIxDI d es) := by
  intro value slice pins s σ H x y v u Q I rx ry h hs
  obtain ⟨i, u0, v0, rfl, rfl, e, r, q⟩ := h
  cases rx
  obtain ⟨t, rfl⟩ := ry
  have hm := D.map (P := X.prog) (w := X.w) I.kIn
  have hk : (PySem.intKind X.prog X.w).is i (.int i t) = true := by
    show Value.isInt i (.int i t) = true
    simp [Value.isInt]
  exact tail_any hm.typeIs slot_dict_getitem.lookup (wpAny_getItem_of hk hm e ⟨v0, H, I.tok _, r, q⟩) hs
end
end Fs

set_option Elab.async false
set_option linter.all false
set_option maxRecDepth 100000
set_option maxHeartbeats 4000000
namespace Fs
open PySem PySem.Spec PyProof.Rows L2
open PySem.W (AlikeAll minD DatumOrd Datum minOf listLt)
section
variable {prog : Program} {w : World} {A : Around} {E : Value → Shared → Prop} {s : Shared}
open PySem.W PySem.SeqAt
/-- min of a list of alike data: the item, with the place where it stands -/
theorem min_list_at {l : Addr} {vs : Array Value} {x : PyData} {xs : List PyData} {as : List Addr} {Q : Value → Shared → Prop} (hh : A.handled = none) (hl : s.heap.IsList l vs) (hr : ReadsAll s.heap vs.toList (x :: xs) as) (ha : AlikeAll (x :: xs)) (hu : A.units + 1 + PyData.depthAll (x :: xs) < cLine)
    (h : ∀ (i : Nat) v h' tk, vs[i]? = some v → (x :: xs)[i]? = some (minD x xs) → (∀ b o, s.heap.get? b = some o → h'.get? b = some o) → Q v { s with heap := h', toks := tk }) :
    wpAny (model prog w) A (call (.builtin "min") [.ref l]) Q E s := by
  have hn : vs.size = xs.length + 1 := readsAll_len hr
  refine call_min_walkH (iter_listW (A := A.in1) hh hl fun s₂ e W st hfp hw hk => ?_)
  refine ⟨_, _, _, _, _, _, _, s.heap, _, rfl, W, st, hfp, by omega, hw, hk, cmpIn_lt (A := A.in1) hr ha (by show A.units + 1 + _ < _; exact hu), fun v s' hP m => ?_⟩
  obtain ⟨h', tk, rfl, hk'⟩ := moved_old e rfl m
  have e1 : vs.size - 1 = xs.length := by omega
  have e2 := argBest_fold dataLt PyData.none x xs xs.length (Nat.le_refl _)
  rw [List.take_length] at e2
  rw [e1] at hP
  refine h _ v h' tk hP ?_ hk'
  have e3 := e2.2
  have hlt : argBest (fun i j => dataLt ((x :: xs).getD i .none) ((x :: xs).getD j .none)) xs.length < (x :: xs).length := Nat.lt_succ_of_le e2.1
  rw [List.getD_eq_getElem?_getD, List.getElem?_eq_getElem hlt] at e3
  rw [List.getElem?_eq_getElem hlt]
  exact congrArg some e3
end
/-- a candidate: its total error, the sizes -/
abbrev Cd := Int × List Int
abbrev cdD (c : Cd) : PyData := Datum.toD c
/-- min(xs) of tuples (int, list of ints) -/
def rMinP (K : PySem.W.Frag) : List V → Hp → VK → Prop := fun vs H Q => ∃ (a : Addr) (xs : List V) (c : Cd) (cs : List Cd), vs = [V.ref a] ∧ SqL K H a xs ∧ DpAll K H xs ((c :: cs).map cdD) ∧
  ∀ (i : Nat) v, xs[i]? = some v → (c :: cs)[i]? = some (minOf c cs) → Q v H
theorem cdD_inj {c d : Cd} (h : cdD c = cdD d) : c = d := by
  have e := Datum.eqv (α := Cd) c d
  have h2 : (Datum.toD c : PyData) = Datum.toD d := h
  rw [h2, Datum.eqv (α := Cd) d d] at e
  exact of_decide_eq_true (by rw [← e]; exact decide_eq_true rfl)
section
variable {X : Cx}
theorem cr_minP (hc : X.calm = true) (hu : X.A.units + 64 < cLine) : CallR X (.builtin "min") (rMinP X.K) := by
  intro pins s σ H vs us Q I r h
  obtain ⟨a, xs, c, cs, rfl, hs, hd, q⟩ := h
  obtain ⟨its, rv, hl, _⟩ := I.list hs
  rw [Vals.ref1 r]
  obtain ⟨as, hr⟩ := Dp.readsAll I _ _ _ hd rv
  have hr' : PySem.ReadsAll s.heap its.toArray.toList (cdD c :: cs.map cdD) as := hr
  have hdep : X.A.units + 1 + PyData.depthAll (cdD c :: cs.map cdD) < cLine := by
    have h1 : PyData.depthAll ((c :: cs).map cdD) ≤ Datum.depth Cd := PySem.W.depthAll_map (c :: cs)
    have h2 : Datum.depth Cd = 2 := rfl
    have h3 : PyData.depthAll (cdD c :: cs.map cdD) ≤ 2 := by rw [← h2]; exact h1
    omega
  refine min_list_at (I.ok.hd hc) hl.isList hr' (PySem.W.alikeAll_datum (c :: cs)) hdep fun i v h' tk hi hm hk => ?_
  have hi' : its[i]? = some v := by
    rw [← Array.getElem?_toList] at hi
    exact hi
  obtain ⟨x, ex, rx⟩ : ∃ x, xs[i]? = some x ∧ RelV x v := by
    cases e : xs[i]? with
    | none => rw [Vals.none_of rv e] at hi'; cases hi'
    | some x =>
      obtain ⟨u, h1, h2⟩ := Vals.get rv e
      rw [hi'] at h1
      cases h1
      exact ⟨x, rfl, h2⟩
  refine ⟨x, H, I.kept hk, rx, q i x ex ?_⟩
  have e2 : minD (cdD c) (cs.map cdD) = cdD (minOf c cs) := PySem.W.minD_map c cs
  rw [e2] at hm
  have hm' : ((c :: cs).map cdD)[i]? = some (cdD (minOf c cs)) := hm
  rw [List.getElem?_map] at hm'
  cases e : (c :: cs)[i]? with
  | none => rw [e] at hm'; cases hm'
  | some d =>
    rw [e] at hm'
    exact congrArg some (cdD_inj (Option.some.inj hm'))
end
/-! ### the least of candidates whose first sizes ascend -/
def hd (c : Cd) : Int := c.2.headD 0
/-- c is taken ahead of d -/
def Ahead (c d : Cd) : Prop := c.1 < d.1 ∨ (c.1 = d.1 ∧ hd c ≤ hd d)
theorem lt_cands {x y : Cd} (hx : x.2 ≠ []) (hy : y.2 ≠ []) (h : hd x < hd y) : DatumOrd.lt y x = decide (y.1 < x.1) := by
  obtain ⟨a, xs⟩ := x
  obtain ⟨b, ys⟩ := y
  cases xs with
  | nil => exact absurd rfl hx
  | cons p ps =>
    cases ys with
    | nil => exact absurd rfl hy
    | cons r rs =>
      have h : p < r := h
      show (if b = a then listLt (r :: rs) (p :: ps) else decide (b < a)) = decide (b < a)
      by_cases e : b = a
      · rw [if_pos e]
        show (if r = p then listLt rs ps else decide (r < p)) = _
        rw [if_neg (by omega)]
        rw [decide_eq_false (by omega), decide_eq_false (by omega)]
      · rw [if_neg e]
theorem min_cands : ∀ (cs : List Cd) (x : Cd), (∀ c ∈ x :: cs, c.2 ≠ []) → (x :: cs).Pairwise (fun c d => hd c < hd d) → minOf x cs ∈ x :: cs ∧ ∀ c ∈ x :: cs, Ahead (minOf x cs) c
  | [], x, _, _ => ⟨List.mem_cons_self, fun c hc => by
      have : c = x := by simpa using hc
      subst this
      exact .inr ⟨rfl, Int.le_refl _⟩⟩
  | y :: ys, x, hne, ha => by
    have ha' := List.pairwise_cons.mp ha
    have ha2 := List.pairwise_cons.mp ha'.2
    have hxy := ha'.1 y List.mem_cons_self
    have hl := lt_cands (hne x List.mem_cons_self) (hne y (List.mem_cons_of_mem _ List.mem_cons_self)) hxy
    have e : minOf x (y :: ys) = minOf (if DatumOrd.lt y x = true then y else x) ys := rfl
    rw [e, hl]
    by_cases c : y.1 < x.1
    · rw [if_pos (decide_eq_true c)]
      obtain ⟨h1, h2⟩ := min_cands ys y (fun c hc => hne c (List.mem_cons_of_mem _ hc)) ha'.2
      refine ⟨List.mem_cons_of_mem _ h1, fun d hd' => ?_⟩
      rcases List.mem_cons.mp hd' with rfl | hd'
      · rcases h2 y List.mem_cons_self with q | ⟨q, _⟩
        · exact .inl (by omega)
        · exact .inl (by omega)
      · exact h2 d hd'
    · rw [if_neg (by simpa using c)]
      obtain ⟨h1, h2⟩ := min_cands ys x (fun c hc => by
        rcases List.mem_cons.mp hc with rfl | hc
        · exact hne _ List.mem_cons_self
        · exact hne _ (List.mem_cons_of_mem _ (List.mem_cons_of_mem _ hc))) (List.pairwise_cons.mpr ⟨fun z hz => ha'.1 z (List.mem_cons_of_mem _ hz), ha2.2⟩)
      refine ⟨?_, fun d hd' => ?_⟩
      · rcases List.mem_cons.mp h1 with h1 | h1
        · rw [h1]; exact List.mem_cons_self
        · exact List.mem_cons_of_mem _ (List.mem_cons_of_mem _ h1)
      · rcases List.mem_cons.mp hd' with rfl | hd'
        · exact h2 d List.mem_cons_self
        · rcases List.mem_cons.mp hd' with rfl | hd'
          · rcases h2 x List.mem_cons_self with q | ⟨q, q2⟩
            · exact .inl (by omega)
            · by_cases z : x.1 = d.1
              · exact .inr ⟨by omega, by omega⟩
              · exact .inl (by omega)
          · exact h2 d (List.mem_cons_of_mem _ hd')
end Fs

set_option Elab.async false
set_option linter.all false
set_option maxRecDepth 100000
set_option maxHeartbeats 4000000
namespace Fs
open PySem PySem.Spec PyProof.Rows L2
open Sr110 (Shade Picture)
def top (i : Nat) : Stmt := PySem.Challenge.pw_fewstones_s01_answers.main.body.getD i (.Pass ⟨0, 0, 0, 0⟩)
abbrev sTil : Stmt := top 1
abbrev nTil : List Str := ["group", "level", "count"]
theorem scTil : FnScope nTil ["group"] (defScope sTil) := ⟨rfl, rfl, rfl, by decide +kernel, rfl, by decide +kernel, by decide +kernel⟩
section
variable {P : Program} {w : World} {K : PySem.W.Frag} {mg : Str → Option Value} {base : Heap}
/-! ### tiles_of -/
def spTil (K : PySem.W.Frag) : Sp := fun vs H Q _ => ∃ (a : Addr) (g : Picture), vs = [.ref a] ∧ PicL K H a g ∧ g.length ≤ 12 ∧
  ∀ H', Same H H' → Q (.int ((tot g : Nat) : Int)) H'
/-- what a comprehension over shades has made behind i of them -/
def Made (H : Hp) (D : Addr) (f : Shade → Int) (g : Picture) (i : Nat) (H' : Hp) : Prop := Same H H' ∧ H' D = some (.lst ((g.take i).map fun s => V.int (f s)))
theorem take_succ_map {f : Shade → Int} {g : Picture} {i : Nat} {s : Shade} (h : g[i]? = some s) : (g.take (i + 1)).map (fun s => V.int (f s)) = (g.take i).map (fun s => V.int (f s)) ++ [V.int (f s)] := by
  rw [List.take_add_one, h, List.map_append]; rfl
theorem sum_ints (g : Picture) (f : Shade → Nat) : (g.map fun s => ((f s : Nat) : Int)).sum = (((g.map f).sum : Nat) : Int) := by
  induction g with
  | nil => rfl
  | cons s r ih => rw [List.map_cons, List.map_cons, List.sum_cons, List.sum_cons, ih]; omega
theorem ok_til {f : Addr} {fd : FuncData} {k : Nat} (F : Fun K "tiles_of" "tiles_of" sTil f fd) (ms : mg "sum" = none) : FnOk P w K mg base CX0 (k + 1) f fd ["group"] (spTil K) := by
  refine F.ok scTil (fun vs H Q E h => ?_) (fun cdv A outer s H vs Q E hr h => ?_)
  · obtain ⟨a, g, rfl, _⟩ := h
    rfl
  · obtain ⟨a, g, rfl, hP, hl, q⟩ := h
    refine ⟨_, pss_one (ps_ret (pe_callB (cr_sum rfl) (by rfl) ms boot_sum (pa_cons
      (by exact pe_lc (own := [("level", 1), ("count", 2)]) (g := gTup K 2 (gCons (gName 1) (gCons (gName 2) gNil))) (tt := tYes) rfl scTil.nd (pi_list (pv 0)) (blkOk_by (N := nTil) (sc := defScope sTil) (by decide +kernel))
            (fun _ _ _ _ _ => by exact pg_tup rfl (pgs_cons (pg_name (i := 1) scTil.nd rfl (Or.inl rfl)) (pgs_cons (pg_name (i := 2) scTil.nd rfl (Or.inl rfl)) pgs_nil)))
            (fun _ _ _ _ _ => pts_nil)
            (fun _ _ _ _ _ => pv 2))
      pa_nil))), ?_⟩
    obtain ⟨ts, hS, hT⟩ := hP
    refine ⟨.ref a, rfl, a, rfl, ⟨_, hS⟩, fun D nD => ?_⟩
    refine lc_list (K := K) (a := a) (xs := ts) (Made H D (fun s => ((s.count : Nat) : Int)) g) ?_ ?_ ?_ ?_
    · exact ⟨Same.up nD, upd_same⟩
    · exact fun i H' _ h => h.1.seq hS
    · rintro i x H' hx ⟨sm, hD⟩
      obtain ⟨s, b, hs, rfl, hb⟩ := hT.get2 hx
      refine ⟨b, _, rfl, SqT.of (sm _ _ hb), rfl, _, _, rfl, _, _, rfl, rfl, rfl, ?_⟩
      refine ⟨_, rfl, _, hD, ?_, sm.mut nD, ?_⟩
      · rw [List.length_map, List.length_take]
        exact small1000 (by omega)
      · rw [upd_same, take_succ_map hs]
    · rintro H1 ⟨sm, hD⟩
      rw [hT.length, List.take_length] at hD
      refine ⟨D, g.map (fun s => ((s.count : Nat) : Int)), rfl, ?_, ?_⟩
      · rw [List.map_map]
        exact SqL.of hD
      rw [sum_ints]
      exact q H1 sm
end
end Fs

set_option Elab.async false
set_option linter.all false
set_option maxRecDepth 100000
set_option maxHeartbeats 4000000
namespace Fs
open PySem PySem.Spec PyProof.Rows L2
open Sr110 (Shade Picture)
abbrev sMed : Stmt := top 2
abbrev sErr : Stmt := top 3
abbrev nMed : List Str := ["group", "total", "place", "reached"]
abbrev nErr : List Str := ["group", "colour", "level", "count"]
theorem scMed : FnScope nMed ["group"] (defScope sMed) := ⟨rfl, rfl, rfl, by decide +kernel, rfl, by decide +kernel, by decide +kernel⟩
theorem scErr : FnScope nErr ["group"] (defScope sErr) := ⟨rfl, rfl, rfl, by decide +kernel, rfl, by decide +kernel, by decide +kernel⟩
theorem medAt_first {g : Picture} {m : Nat} (hm : m < g.length) (h : tot g ≤ 2 * tot (g.take (m + 1))) (hb : ∀ q, q < m → 2 * tot (g.take (q + 1)) < tot g) : medAt g = m := by
  unfold medAt
  rw [find_first (P := fun k => decide (tot g ≤ 2 * tot (g.take (k + 1)))) hm (decide_eq_true h) fun q hq => decide_eq_false (by have := hb q hq; omega)]; rfl
theorem tot_take_succ {g : Picture} {m : Nat} {s : Shade} (h : g[m]? = some s) : tot (g.take (m + 1)) = tot (g.take m) + s.count := by
  rw [List.take_add_one, h, tot_append]
  simp [tot]
theorem atI_0 {α : Type} {x : α} {r : List α} : atI (x :: r) 0 = some x := atI_nat (j := 0) rfl
theorem atI_1 {α : Type} {x y : α} {r : List α} : atI (x :: y :: r) 1 = some y := atI_nat (j := 1) rfl
section
variable {P : Program} {w : World} {K : PySem.W.Frag} {mg : Str → Option Value} {base : Heap}
def spMed (K : PySem.W.Frag) : Sp := fun vs H Q _ => ∃ (a : Addr) (g : Picture), vs = [.ref a] ∧ PicL K H a g ∧ 0 < g.length ∧ g.length ≤ 12 ∧
  ∀ H', Same H H' → Q (.int ((medL g : Nat) : Int)) H'
/-- the turns of median_of's while: place m -/
def medS (a : Addr) (g : Picture) (m : Nat) : L2.St := [some (.ref a), some (.int ((tot g : Nat) : Int)), some (.int (m : Int)), some (.int ((tot (g.take (m + 1)) : Nat) : Int))]
theorem ok_med {f : Addr} {fd : FuncData} (F : Fun K "median_of" "median_of" sMed f fd) (cT : Cal P w K mg base 1 "tiles_of" (spTil K) []) : FnOk P w K mg base CX0 2 f fd ["group"] (spMed K) := by
  refine F.ok scMed (fun vs H Q E h => ?_) (fun cdv A outer s H vs Q E hr h => ?_)
  · obtain ⟨a, g, rfl, _⟩ := h
    rfl
  · obtain ⟨a, g, rfl, hP, h0, hl, q⟩ := h
    refine ⟨_, pss_cons (ps_set (i := 1) scMed.nd rfl (Or.inl rfl) (C8.pe_c cT hr (by decide) (by rfl) (pa_cons (pv 0) pa_nil)))
      (pss_cons (ps_set (i := 2) scMed.nd rfl (Or.inl rfl) pe_int)
      (pss_cons (ps_set (i := 3) scMed.nd rfl (Or.inl rfl) (pe_ix ix_tup (pe_ix ix_list (pv 0) pe_int (fun _ _ => rfl)) pe_int (fun _ _ => rfl)))
      (pss_cons (ps_while PassesOwn.never (pt_cmpR op_lt (pe_op op_mul pe_int (pv 3)) (pv 1) (nomark _))
        (pss_cons (ps_aug (i := 2) scMed.nd rfl (Or.inl rfl) pe_int ip_add)
        (pss_one (ps_aug (i := 3) scMed.nd rfl (Or.inl rfl) (pe_ix ix_tup (pe_ix ix_list (pv 0) (pv 2) (fun _ _ => rfl)) pe_int (fun _ _ => rfl)) ip_add))))
      (pss_one (ps_ret (pe_ix ix_tup (pe_ix ix_list (pv 0) (pv 2) (fun _ _ => rfl)) pe_int (fun _ _ => rfl))))))), ?_⟩
    obtain ⟨ts, hS, hT⟩ := hP
    refine ⟨.ref a, rfl, a, g, rfl, ⟨ts, hS, hT⟩, hl, fun H1 sm => ?_⟩
    obtain ⟨s0, e0⟩ : ∃ s, g[0]? = some s := ⟨_, List.getElem?_eq_getElem h0⟩
    obtain ⟨b0, t0, o0⟩ := (hT.mono sm).get e0
    refine ⟨.ref a, rfl, a, ts, 0, _, rfl, rfl, sm.seq hS, atI_nat (j := 0) t0, b0, _, 1, _, rfl, rfl, SqT.of o0, atI_1, ?_⟩
    refine ⟨fun n σ H' => ∃ m, n + m = g.length ∧ m < g.length ∧ σ = medS a g m ∧ H' = H1 ∧ ∀ q, q < m → 2 * tot (g.take (q + 1)) < tot g, ⟨g.length, 0, by omega, h0, ?_, rfl, fun q hq => absurd hq (Nat.not_lt_zero _)⟩, ?_⟩
    · have e1 : tot (g.take 1) = s0.count := by rw [tot_take_succ e0]; simp [tot]
      unfold medS
      rw [e1]; rfl
    · rintro n σ H' ⟨m, hn, hm, rfl, rfl, hb⟩
      obtain ⟨sm', em⟩ : ∃ s, g[m]? = some s := ⟨_, List.getElem?_eq_getElem hm⟩
      refine ⟨_, rfl, _, _, rfl, rfl, .inl ⟨by decide, by decide⟩, _, rfl, _, _, rfl, rfl, _, rfl, ite2 (fun c => ?_) (fun c => ?_)⟩
      · have c1 : 2 * tot (g.take (m + 1)) < tot g := by
          have := of_decide_eq_true c
          omega
        have hm1 : m + 1 < g.length := by
          refine Nat.lt_of_not_le fun hle => ?_
          rw [List.take_of_length_le hle] at c1
          omega
        obtain ⟨s1, e1⟩ : ∃ s, g[m + 1]? = some s := ⟨_, List.getElem?_eq_getElem hm1⟩
        obtain ⟨b1, t1, o1⟩ := (hT.mono sm).get e1
        refine ⟨fun σ' H2 => σ' = medS a g (m + 1) ∧ H2 = H', fun σ' H2 ⟨e, eh⟩ => ⟨n - 1, by omega, m + 1, by omega, hm1, e, eh, fun q hq => ?_⟩, ?_⟩
        · by_cases hqm : q < m
          · exact hb q hqm
          · have : q = m := by omega
            subst this
            exact c1
        · refine ⟨_, rfl, _, _, rfl, rfl, _, rfl, .ref a, rfl, _, rfl, a, ts, ((m : Int) + 1), _, rfl, rfl, sm.seq hS, at_of (j := m + 1) (by omega) t1, b1, _, 1, _, rfl, rfl, SqT.of o1, atI_1, _, _, rfl, rfl, ?_, rfl⟩
          unfold medS
          rw [tot_take_succ e1]
          simp
      · have c1 : tot g ≤ 2 * tot (g.take (m + 1)) := by
          have : ¬ ((2 : Int) * ((tot (g.take (m + 1)) : Nat) : Int) < ((tot g : Nat) : Int)) := fun z => c (decide_eq_true z)
          omega
        obtain ⟨b1, t1, o1⟩ := (hT.mono sm).get em
        refine ⟨.ref a, rfl, _, rfl, a, ts, (m : Int), _, rfl, rfl, sm.seq hS, atI_nat t1, b1, _, 0, _, rfl, rfl, SqT.of o1, atI_0, ?_⟩
        have e2 : medL g = sm'.level := by
          unfold medL
          rw [medAt_first hm c1 hb, List.getD_eq_getElem?_getD, em]; rfl
        rw [← e2]
        exact q _ sm
/-! ### error_of -/
def spErr (K : PySem.W.Frag) : Sp := fun vs H Q _ => ∃ (a : Addr) (g : Picture), vs = [.ref a] ∧ PicL K H a g ∧ 0 < g.length ∧ g.length ≤ 12 ∧ (∀ s ∈ g, s.count ≤ 999) ∧
  ∀ H', Same H H' → Q (.int ((errW g (medL g) : Nat) : Int)) H'
theorem ok_err {f : Addr} {fd : FuncData} (F : Fun K "error_of" "error_of" sErr f fd) (cM : Cal P w K mg base 2 "median_of" (spMed K) []) (ms : mg "sum" = none) (ma : mg "abs" = none) : FnOk P w K mg base CX0 3 f fd ["group"] (spErr K) := by
  refine F.ok scErr (fun vs H Q E h => ?_) (fun cdv A outer s H vs Q E hr h => ?_)
  · obtain ⟨a, g, rfl, _⟩ := h
    rfl
  · obtain ⟨a, g, rfl, hP, h0, hl, hc, q⟩ := h
    refine ⟨_, pss_cons (ps_set (i := 1) scErr.nd rfl (Or.inr rfl) (C8.pe_c cM hr (by decide) (by rfl) (pa_cons (pv 0) pa_nil)))
      (pss_one (ps_ret (pe_callB (cr_sum rfl) (by rfl) ms boot_sum (pa_cons
      (by exact pe_lc (own := [("level", 2), ("count", 3)]) (g := gTup K 2 (gCons (gName 2) (gCons (gName 3) gNil))) (tt := tYes) rfl scErr.nd (pi_list (pv 0)) (blkOk_by (N := nErr) (sc := defScope sErr) (by decide +kernel))
            (fun _ _ _ _ _ => by exact pg_tup rfl (pgs_cons (pg_name (i := 2) scErr.nd rfl (Or.inl rfl)) (pgs_cons (pg_name (i := 3) scErr.nd rfl (Or.inl rfl)) pgs_nil)))
            (fun _ _ _ _ _ => pts_nil)
            (fun _ _ _ _ _ => by exact pe_op op_mul (pv 3) (pe_callB call_abs (by rfl) ma boot_abs (pa_cons (pe_op op_sub (pv 2) (pv 1)) pa_nil))))
      pa_nil)))), ?_⟩
    refine ⟨.ref a, rfl, a, g, rfl, hP, h0, hl, fun H1 s1 => ?_⟩
    obtain ⟨ts, hS, hT⟩ := hP
    refine ⟨.ref a, rfl, a, rfl, ⟨_, s1.seq hS⟩, fun D nD => ?_⟩
    refine lc_list (K := K) (a := a) (xs := ts) (Made H1 D (fun s => ((s.count * Sr110.difference s.level (medL g) : Nat) : Int)) g) ?_ ?_ ?_ ?_
    · exact ⟨Same.up nD, upd_same⟩
    · exact fun i H' _ h => h.1.seq (s1.seq hS)
    · rintro i x H' hx ⟨sm, hD⟩
      obtain ⟨s, b, hs, rfl, hb⟩ := hT.get2 hx
      refine ⟨b, _, rfl, SqT.of (sm _ _ (s1 _ _ hb)), rfl, _, _, rfl, _, _, rfl, rfl, rfl, ?_⟩
      refine ⟨_, rfl, _, rfl, _, rfl, _, _, rfl, rfl, _, rfl, _, _, rfl, rfl, .inl ⟨?_, ?_⟩, ?_⟩
      · exact Int.lt_of_lt_of_le (by decide) (Int.natCast_nonneg _)
      · have := hc s (List.mem_of_getElem? hs)
        omega
      · refine ⟨_, hD, ?_, sm.mut nD, ?_⟩
        · rw [List.length_map, List.length_take]
          exact small1000 (by omega)
        · rw [upd_same, take_succ_map hs]
          rw [← diff_int]
          congr 3
    · rintro H' ⟨sm, hD⟩
      rw [hT.length, List.take_length] at hD
      refine ⟨D, g.map (fun s => ((s.count * Sr110.difference s.level (medL g) : Nat) : Int)), rfl, ?_, ?_⟩
      · rw [List.map_map]
        exact SqL.of hD
      · rw [sum_ints]
        exact q H' (s1.trans sm)
end
end Fs

set_option Elab.async false
set_option linter.all false
set_option maxRecDepth 100000
set_option maxHeartbeats 4000000
namespace Fs
open PySem PySem.Spec PyProof.Rows L2
open Sr110 (Shade Picture groupError)
abbrev sErrs : Stmt := top 4
abbrev nErrs : List Str := ["shades", "errors", "first", "row", "behind"]
theorem scErrs : FnScope nErrs ["shades"] (defScope sErrs) := ⟨rfl, rfl, rfl, by decide +kernel, rfl, by decide +kernel, by decide +kernel⟩
/-- the errors of the groups that begin at i, n of them -/
def rowV (p : Picture) (i n : Nat) : List V := (List.range n).map fun d => V.int ((groupError p i (i + d + 1) : Nat) : Int)
theorem rowV_succ (p : Picture) (i n : Nat) : rowV p i (n + 1) = rowV p i n ++ [V.int ((groupError p i (i + n + 1) : Nat) : Int)] := by
  unfold rowV
  rw [List.range_succ, List.map_append]; rfl
theorem rowV_length (p : Picture) (i n : Nat) : (rowV p i n).length = n := by unfold rowV; rw [List.length_map, List.length_range]
theorem rowV_get {p : Picture} {i n d : Nat} (h : d < n) : (rowV p i n)[d]? = some (.int ((groupError p i (i + d + 1) : Nat) : Int)) := by
  unfold rowV
  rw [List.getElem?_map, List.getElem?_range h]; rfl
/-- m rows of the table of errors stand at D -/
def ErrTn (H : Hp) (D : Addr) (p : Picture) (m : Nat) : Prop := ∃ rows : List V, H D = some (.lst rows) ∧ rows.length = m ∧ ∀ j, j < m → ∃ r, rows[j]? = some (.ref r) ∧ r ≠ D ∧ H r = some (.lst (rowV p j (p.length - j)))
abbrev ErrT (H : Hp) (D : Addr) (p : Picture) : Prop := ErrTn H D p p.length
theorem ErrTn.mono {H H' : Hp} {D : Addr} {p : Picture} {m : Nat} (e : Same H H') (h : ErrTn H D p m) : ErrTn H' D p m := by
  obtain ⟨rows, h1, h2, h3⟩ := h
  exact ⟨rows, e _ _ h1, h2, fun j hj => let ⟨r, a, b, c⟩ := h3 j hj; ⟨r, a, b, e _ _ c⟩⟩
theorem ErrTn.snoc {H : Hp} {D r : Addr} {p : Picture} {m : Nat} {rows : List V} (h1 : H D = some (.lst rows)) (h2 : rows.length = m) (h3 : ∀ j, j < m → ∃ r, rows[j]? = some (.ref r) ∧ r ≠ D ∧ H r = some (.lst (rowV p j (p.length - j))))
    (hr : r ≠ D) (e : H r = some (.lst (rowV p m (p.length - m)))) : ErrTn (upd H D (.lst (rows ++ [.ref r]))) D p (m + 1) := by
  refine ⟨_, upd_same, by rw [List.length_append, h2]; rfl, fun j hj => ?_⟩
  by_cases q : j < m
  · obtain ⟨r', a, b, c⟩ := h3 j q
    exact ⟨r', by rw [List.getElem?_append_left (by omega)]; exact a, b, by rw [upd_ne b]; exact c⟩
  · have : j = m := by omega
    subst this
    exact ⟨r, by rw [List.getElem?_append_right (by omega), h2, Nat.sub_self]; rfl, hr, by rw [upd_ne hr]; exact e⟩
section
variable {P : Program} {w : World} {K : PySem.W.Frag} {mg : Str → Option Value} {base : Heap}
def spErrs (K : PySem.W.Frag) : Sp := fun vs H Q _ => ∃ (a : Addr) (p : Picture), vs = [.ref a] ∧ PicL K H a p ∧ Good p ∧
  ∀ H' D, Same H H' → H D = none → ErrT H' D p → Q (.ref D) H'
theorem Good.count {p : Picture} (g : Good p) {i j : Nat} : ∀ s ∈ Fs.seg p i j, s.count ≤ 999 := fun s hs => (g.bnd s (List.mem_of_mem_drop (List.mem_of_mem_take hs))).2.2
theorem ok_errs {f : Addr} {fd : FuncData} (F : Fun K "errors_of_groups" "errors_of_groups" sErrs f fd) (cE : Cal P w K mg base 3 "error_of" (spErr K) [])
    (ml : mg "len" = none) (mr : mg "range" = none) : FnOk P w K mg base CX0 4 f fd ["shades"] (spErrs K) := by
  refine F.ok scErrs (fun vs H Q E h => ?_) (fun cdv A outer s H vs Q E hr h => ?_)
  · obtain ⟨a, g, rfl, _⟩ := h
    rfl
  · obtain ⟨a, p, rfl, hP, hG, q⟩ := h
    refine ⟨_, pss_cons (ps_set (i := 1) scErrs.nd rfl (Or.inl rfl) (pe_lst pa_nil))
      (pss_cons (ps_for PassesOwn.never rfl (pi_range1 (by rfl) mr (pa_cons (pe_callB call_len_seq (by rfl) ml boot_len (pa_cons (pv 0) pa_nil)) pa_nil)) (pg_name (i := 2) scErrs.nd rfl (Or.inl rfl))
        (pss_cons (ps_set (i := 3) scErrs.nd rfl (Or.inl rfl) (pe_lst pa_nil))
        (pss_cons (ps_for PassesOwn.never rfl (pi_range2 (by rfl) mr (pa_cons (pe_op op_add (pv 2) pe_int) (pa_cons (pe_op op_add (pe_callB call_len_seq (by rfl) ml boot_len (pa_cons (pv 0) pa_nil)) pe_int) pa_nil))) (pg_name (i := 4) scErrs.nd rfl (Or.inl rfl))
          (pss_one (ps_expr (pe_bm PySem.F.plainAttrs_list PySem.F.slot_list_append PySem.F.type_list_append mt_append (pv 3) (pa_cons (C8.pe_c cE hr (by decide) (by rfl) (pa_cons (pe_slice sl_list (pv 0) (po_some (pv 2)) (po_some (pv 4))) pa_nil)) pa_nil)))))
        (pss_one (ps_expr (pe_bm PySem.F.plainAttrs_list PySem.F.slot_list_append PySem.F.type_list_append mt_append (pv 1) (pa_cons (pv 3) pa_nil)))))))
      (pss_one (ps_ret (pv 1)))), ?_⟩
    obtain ⟨ts, hS, hT⟩ := hP
    have hlen : ts.length = p.length := hT.length
    have h12 := hG.len
    -- errors = []
    refine ⟨Nat.zero_le _, fun D nD => ?_⟩
    have s0 : Same H (upd H D (.lst [])) := Same.up nD
    refine ⟨.ref a, rfl, a, ts, rfl, .inl (s0.seq hS), (ts.length : Int), rfl, by omega, by omega, ?_⟩
    refine for_range (lo := 0) (n := (ts.length : Int).toNat) (fun i σ H' => ∃ x2 x3 x4, σ = [some (.ref a), some (.ref D), x2, x3, x4] ∧ Same H H' ∧ ErrTn H' D p i) ?_ ?_ ?_
    · exact ⟨none, none, none, rfl, s0, [], upd_same, rfl, fun j hj => absurd hj (Nat.not_lt_zero _)⟩
    · rintro i σ H1 hi ⟨x2, x3, x4, rfl, s1, rows, hD, hrl, hrow⟩
      have hi : i < p.length := by omega
      -- row = []
      refine ⟨Nat.zero_le _, fun r nr => ?_⟩
      have s2 : Same H1 (upd H1 r (.lst [])) := Same.up nr
      have hrD : r ≠ D := (ne_of_none hD nr).symm
      refine ⟨_, rfl, _, _, rfl, rfl, .ref a, rfl, a, ts, rfl, .inl ((s1.trans s2).seq hS), _, _, rfl, rfl, _, _, rfl, by omega, ?_⟩
      refine for_range (lo := (0 + (i : Int)) + 1) (n := ((ts.length : Int) + 1 - ((0 + (i : Int)) + 1)).toNat) (fun t σ H' => ∃ x4, σ = [some (.ref a), some (.ref D), some (.int (0 + (i : Int))), some (.ref r), x4] ∧ Same H1 H' ∧ H' r = some (.lst (rowV p i t))) ?_ ?_ ?_
      · exact ⟨x4, rfl, s2, upd_same⟩
      · rintro t σ H2 ht ⟨x4, rfl, s3, hr2⟩
        have ht : i + t + 1 ≤ p.length := by omega
        have hr3 := hr2
        refine ⟨.ref r, rfl, .inl ⟨rfl, _, SqL.of hr2⟩, .ref a, rfl, _, rfl, 0 + (i : Int), rfl, _, rfl, 0 + (i : Int) + 1 + (t : Int), rfl, a, ts, rfl, (s1.trans s3).seq hS, fun c nc => ?_⟩
        have ec : cutV ts (some (0 + (i : Int))) (some (0 + (i : Int) + 1 + (t : Int))) = (ts.drop i).take (i + t + 1 - i) := by
          have e1 : (0 : Int) + (i : Int) = ((i : Nat) : Int) := by omega
          have e2 : (0 : Int) + (i : Int) + 1 + (t : Int) = ((i + t + 1 : Nat) : Int) := by omega
          rw [e2, e1]
          exact cut_seg (by omega) (by omega)
        rw [ec]
        have s4 : Same H2 (upd H2 c (.lst ((ts.drop i).take (i + t + 1 - i)))) := Same.up nc
        have s5 : Same H (upd H2 c (.lst ((ts.drop i).take (i + t + 1 - i)))) := (s1.trans s3).trans s4
        have hPic : PicL K (upd H2 c (.lst ((ts.drop i).take (i + t + 1 - i)))) c (Fs.seg p i (i + t + 1)) := ⟨_, SqL.of upd_same, (hT.mono s5).seg⟩
        have hl2 : (Fs.seg p i (i + t + 1)).length = t + 1 := by rw [seg_length ht]; omega
        refine ⟨c, Fs.seg p i (i + t + 1), rfl, hPic, by omega, by omega, hG.count, fun H3 s6 => ?_⟩
        refine ⟨r, _, _, rfl, rfl, s6 _ _ (s4 _ _ hr2), ?_, some (.int (0 + (i : Int) + 1 + (t : Int))), rfl, ?_, ?_⟩
        · rw [rowV_length]
          exact small1000 (by omega)
        · exact ((s3.trans s4).trans s6).mut nr
        · rw [upd_same, rowV_succ, groupError_seg (by omega) ht]; rfl
      · rintro σ H2 ⟨x4, rfl, s3, hr2⟩
        -- errors.append(row)
        have en : ((ts.length : Int) + 1 - ((0 + (i : Int)) + 1)).toNat = p.length - i := by omega
        rw [en] at hr2
        refine ⟨.ref D, rfl, .inl ⟨rfl, _, SqL.of (s3 _ _ hD)⟩, .ref r, rfl, D, _, _, rfl, rfl, s3 _ _ hD, small1000 (by omega), some (.int (0 + (i : Int))), some (.ref r), x4, rfl, (s1.trans s3).mut nD, ?_⟩
        exact ErrTn.snoc (s3 _ _ hD) hrl (fun j hj => let ⟨r', a, b, c⟩ := hrow j hj; ⟨r', a, b, s3 _ _ c⟩) hrD hr2
    · rintro σ H1 ⟨x2, x3, x4, rfl, s1, he⟩
      have en : (ts.length : Int).toNat = p.length := by omega
      rw [en] at he
      exact ⟨.ref D, rfl, q H1 D s1 nD he⟩
end
end Fs

set_option Elab.async false
set_option linter.all false
set_option maxRecDepth 100000
set_option maxHeartbeats 4000000
namespace Fs
open PySem PySem.Spec PyProof.Rows L2
open PySem.W (minOf)
open Sr110 (Shade Picture groupError)
abbrev sStep : Stmt := top 5
abbrev nStep : List Str := ["errors", "rests", "end", "divisions", "first", "found", "behind", "size", "rest"]
theorem scStep : FnScope nStep ["errors", "rests"] (defScope sStep) := ⟨rfl, rfl, rfl, by decide +kernel, rfl, by decide +kernel, by decide +kernel⟩
/-! ### divisions in the heap -/
def natV (l : List Nat) : List V := l.map fun (n : Nat) => V.int (n : Int)
def DivV (H : Hp) (v : V) (e : Nat) (sz : List Nat) : Prop := ∃ t l, v = .ref t ∧ H t = some (.tup [.int (e : Int), .ref l]) ∧ H l = some (.lst (natV sz))
theorem DivV.mono {H H' : Hp} {v : V} {e : Nat} {sz : List Nat} (s : Same H H') (h : DivV H v e sz) : DivV H' v e sz := by
  obtain ⟨t, l, a, b, c⟩ := h
  exact ⟨t, l, a, s _ _ b, s _ _ c⟩
theorem DivV.past {H : Hp} {v : V} {e : Nat} {sz : List Nat} {D : Addr} {kvs : List (L2.Key × V)} {o : HO} (hD : H D = some (.dK kvs)) (h : DivV H v e sz) : DivV (upd H D o) v e sz := by
  obtain ⟨t, l, a, b, c⟩ := h
  exact ⟨t, l, a, by rw [upd_ne (ne_of b hD (fun z => nomatch z))]; exact b, by rw [upd_ne (ne_of c hD (fun z => nomatch z))]; exact c⟩
def keyN (i : Nat) : L2.Key := Sum.inl (i : Int)
theorem keyN_inj {i j : Nat} : keyN i = keyN j ↔ i = j := by
  unfold keyN
  exact ⟨fun h => by have := Sum.inl.inj h; omega, fun h => by rw [h]⟩
/-- the best divisions with k groups stand at R -/
def RestsAt (H : Hp) (R : Addr) (p : Picture) (k : Nat) : Prop := ∃ kvs : List (L2.Key × V), H R = some (.dK kvs) ∧ kvs.length ≤ 13 ∧ ∀ i, i ≤ p.length →
  (∀ e, T p k i = some e → ∃ v, valV kvs (keyN i) = some v ∧ DivV H v e (sizes p k i)) ∧ (T p k i = none → valV kvs (keyN i) = none)
theorem RestsAt.mono {H H' : Hp} {R : Addr} {p : Picture} {k : Nat} (s : Same H H') (h : RestsAt H R p k) : RestsAt H' R p k := by
  obtain ⟨kvs, h1, h2, h3⟩ := h
  exact ⟨kvs, s _ _ h1, h2, fun i hi => ⟨fun e he => let ⟨v, a, b⟩ := (h3 i hi).1 e he; ⟨v, a, b.mono s⟩, (h3 i hi).2⟩⟩
/-! ### candidates -/
def candAt (p : Picture) (k i d e : Nat) : Cd := (((groupError p i (i + d + 1) + e : Nat) : Int), ((d + 1 : Nat) : Int) :: (sizes p k (i + d + 1)).map fun (n : Nat) => (n : Int))
def cands (p : Picture) (k i m : Nat) : List Cd := (List.range m).filterMap fun d => (T p k (i + d + 1)).map (candAt p k i d)
theorem cands_some {p : Picture} {k i m e : Nat} (h : T p k (i + m + 1) = some e) : cands p k i (m + 1) = cands p k i m ++ [candAt p k i m e] := by
  unfold cands
  rw [List.range_succ, List.filterMap_append]
  simp [h]
theorem cands_none {p : Picture} {k i m : Nat} (h : T p k (i + m + 1) = none) : cands p k i (m + 1) = cands p k i m := by
  unfold cands
  rw [List.range_succ, List.filterMap_append]
  simp [h]
theorem cands_length (p : Picture) (k i m : Nat) : (cands p k i m).length ≤ m := by
  have := List.length_filterMap_le (fun d => (T p k (i + d + 1)).map (candAt p k i d)) (List.range m)
  rw [List.length_range] at this
  exact this
theorem cands_mem {p : Picture} {k i m : Nat} {c : Cd} : c ∈ cands p k i m ↔ ∃ d e, d < m ∧ T p k (i + d + 1) = some e ∧ c = candAt p k i d e := by
  unfold cands
  rw [List.mem_filterMap]
  constructor
  · rintro ⟨d, hd, h⟩
    rw [List.mem_range] at hd
    cases ht : T p k (i + d + 1) with
    | none => rw [ht] at h; cases h
    | some e => rw [ht] at h; exact ⟨d, e, hd, ht, (Option.some.inj h).symm⟩
  · rintro ⟨d, e, hd, ht, rfl⟩
    exact ⟨d, List.mem_range.mpr hd, by rw [ht]; rfl⟩
theorem cands_ne {p : Picture} {k i m : Nat} : ∀ c ∈ cands p k i m, c.2 ≠ [] := fun c hc => by
  obtain ⟨d, e, _, _, rfl⟩ := cands_mem.mp hc
  exact List.cons_ne_nil _ _
theorem cands_asc (p : Picture) (k i : Nat) : ∀ m, (cands p k i m).Pairwise (fun c d => hd c < hd d)
  | 0 => List.Pairwise.nil
  | m + 1 => by
    cases ht : T p k (i + m + 1) with
    | none => rw [cands_none ht]; exact cands_asc p k i m
    | some e =>
      rw [cands_some ht, List.pairwise_append]
      refine ⟨cands_asc p k i m, List.pairwise_singleton _ _, fun c hc d hd' => ?_⟩
      obtain ⟨d', e', hlt, _, rfl⟩ := cands_mem.mp hc
      have : d = candAt p k i m e := List.mem_singleton.mp hd'
      subst this
      show ((d' + 1 : Nat) : Int) < ((m + 1 : Nat) : Int)
      omega
theorem cands_pos {p : Picture} {k i : Nat} (hi : i < p.length) : ∃ c cs, cands p k i (p.length - i) = c :: cs := by
  have hm : candAt p k i (p.length - i - 1) 0 ∈ cands p k i (p.length - i) := cands_mem.mpr ⟨p.length - i - 1, 0, by omega, by
    have e : i + (p.length - i - 1) + 1 = p.length := by omega
    rw [e, T_end], rfl⟩
  cases h : cands p k i (p.length - i) with
  | nil => rw [h] at hm; cases hm
  | cons c cs => exact ⟨c, cs, rfl⟩
/-- the least candidate is the best division -/
theorem cands_best {p : Picture} {k i : Nat} {c : Cd} {cs : List Cd} (hi : i < p.length) (h : cands p k i (p.length - i) = c :: cs) :
    ∃ e sz, T p (k + 1) i = some e ∧ sizes p (k + 1) i = sz ∧ minOf c cs = ((e : Int), sz.map fun (n : Nat) => (n : Int)) := by
  obtain ⟨h1, h2⟩ := min_cands cs c (by rw [← h]; exact cands_ne) (by rw [← h]; exact cands_asc p k i _)
  rw [← h] at h1
  obtain ⟨d, e, hd1, ht, hm⟩ := cands_mem.mp h1
  have hmin : ∀ d' e', i + d' < p.length → T p k (i + d' + 1) = some e' → groupError p i (i + d + 1) + e < groupError p i (i + d' + 1) + e' ∨ (groupError p i (i + d + 1) + e = groupError p i (i + d' + 1) + e' ∧ d ≤ d') := by
    intro d' e' hd' ht'
    have q := h2 (candAt p k i d' e') (by rw [← h]; exact cands_mem.mpr ⟨d', e', by omega, ht', rfl⟩)
    rw [hm] at q
    have q' : (((groupError p i (i + d + 1) + e : Nat) : Int) < ((groupError p i (i + d' + 1) + e' : Nat) : Int)) ∨ (((groupError p i (i + d + 1) + e : Nat) : Int) = ((groupError p i (i + d' + 1) + e' : Nat) : Int) ∧ ((d + 1 : Nat) : Int) ≤ ((d' + 1 : Nat) : Int)) := q
    omega
  obtain ⟨r1, r2⟩ := step_min hi (by omega) ht hmin
  refine ⟨_, _, r1, rfl, ?_⟩
  rw [hm]
  unfold sizes
  rw [r2]
  unfold candAt
  have e1 : gsz ⟨i, i + d + 1, Sr110.median p i (i + d + 1)⟩ = d + 1 := by
    show i + d + 1 - i = d + 1
    omega
  rw [List.map_cons, List.map_cons, e1]
  rfl
/-! ### candidates in the heap -/
def SameBut (F : Addr) (H H' : Hp) : Prop := ∀ b o, b ≠ F → H b = some o → H' b = some o
def CdAt (H : Hp) (F : Addr) (v : V) (c : Cd) : Prop := ∃ t l, v = .ref t ∧ t ≠ F ∧ l ≠ F ∧ H t = some (.tup [.int c.1, .ref l]) ∧ H l = some (.lst (c.2.map V.int))
def CdsAt (H : Hp) (F : Addr) : List V → List Cd → Prop
  | [], [] => True
  | v :: vs, c :: cs => CdAt H F v c ∧ CdsAt H F vs cs
  | _, _ => False
theorem CdAt.mono {H H' : Hp} {F : Addr} {v : V} {c : Cd} (s : SameBut F H H') (h : CdAt H F v c) : CdAt H' F v c := by
  obtain ⟨t, l, a, b, d, e, f⟩ := h
  exact ⟨t, l, a, b, d, s _ _ b e, s _ _ d f⟩
theorem CdsAt.mono {H H' : Hp} {F : Addr} (s : SameBut F H H') : ∀ {vs : List V} {cs : List Cd}, CdsAt H F vs cs → CdsAt H' F vs cs
  | [], [], _ => trivial
  | v :: vs, c :: cs, ⟨h1, h2⟩ => ⟨h1.mono s, CdsAt.mono s h2⟩
theorem CdsAt.snoc {H : Hp} {F : Addr} {v : V} {c : Cd} (h : CdAt H F v c) : ∀ {vs : List V} {cs : List Cd}, CdsAt H F vs cs → CdsAt H F (vs ++ [v]) (cs ++ [c])
  | [], [], _ => ⟨h, trivial⟩
  | _ :: vs, _ :: cs, ⟨h1, h2⟩ => ⟨h1, CdsAt.snoc h h2⟩
theorem CdsAt.length {H : Hp} {F : Addr} : ∀ {vs : List V} {cs : List Cd}, CdsAt H F vs cs → vs.length = cs.length
  | [], [], _ => rfl
  | _ :: vs, _ :: cs, ⟨_, h2⟩ => by rw [List.length_cons, List.length_cons, CdsAt.length h2]
theorem CdsAt.at {H : Hp} {F : Addr} : ∀ {vs : List V} {cs : List Cd} {i : Nat} {v : V} {c : Cd}, CdsAt H F vs cs → vs[i]? = some v → cs[i]? = some c → CdAt H F v c
  | [], [], i, v, c, _, h, _ => by simp at h
  | _ :: vs, _ :: cs, 0, v, c, ⟨h1, _⟩, a, b => by
    cases Option.some.inj a
    cases Option.some.inj b
    exact h1
  | _ :: vs, _ :: cs, i + 1, v, c, ⟨_, h2⟩, a, b => CdsAt.at (i := i) h2 (by simpa using a) (by simpa using b)
theorem dp_ints {K : PySem.W.Frag} {H : Hp} : ∀ ns : List Int, DpAll K H (ns.map V.int) (ns.map PyData.int)
  | [] => .nil
  | n :: r => .cons (.int n) (dp_ints r)
theorem CdAt.dp {K : PySem.W.Frag} {H : Hp} {F : Addr} {v : V} {c : Cd} (h : CdAt H F v c) : Dp K H v (cdD c) := by
  obtain ⟨t, l, rfl, _, _, e, f⟩ := h
  exact .tup (SqT.of e) (.cons (.int _) (.cons (.lst (SqL.of f) (dp_ints c.2)) .nil))
theorem CdsAt.dp {K : PySem.W.Frag} {H : Hp} {F : Addr} : ∀ {vs : List V} {cs : List Cd}, CdsAt H F vs cs → DpAll K H vs (cs.map cdD)
  | [], [], _ => .nil
  | _ :: vs, _ :: cs, ⟨h1, h2⟩ => .cons h1.dp (CdsAt.dp h2)
theorem PicM.but {H H' : Hp} {t G : Addr} {p : Picture} {xs : List V} (hG : H G = some (.lst xs)) (ht : t ≠ G) (s : SameBut G H H') (h : PicM H t p) : PicM H' t p := by
  obtain ⟨ts, h1, h2⟩ := h
  refine ⟨ts, s _ _ ht h1, ?_⟩
  clear h1
  induction ts generalizing p with
  | nil => cases p with
    | nil => trivial
    | cons _ _ => exact h2.elim
  | cons v vs ih => cases p with
    | nil => exact h2.elim
    | cons x r =>
      obtain ⟨⟨b, e1, e2⟩, h3⟩ := h2
      exact ⟨⟨b, e1, s _ _ (ne_of e2 hG (fun z => nomatch z)) e2⟩, ih h3⟩
theorem SameBut.same {H H1 H' : Hp} {G : Addr} (nG : H G = none) (s : Same H H1) (b : SameBut G H1 H') : Same H H' := fun x o h => b x o (ne_of_none h nG) (s x o h)
end Fs

set_option Elab.async false
set_option linter.all false
set_option maxRecDepth 100000
set_option maxHeartbeats 4000000
namespace Fs
open PySem PySem.Spec PyProof.Rows L2
open PySem.W (minOf)
open Sr110 (Shade Picture groupError)
theorem SameBut.refl {F : Addr} {H : Hp} : SameBut F H H := fun _ _ _ h => h
theorem SameBut.of {F : Addr} {H H' : Hp} (s : Same H H') : SameBut F H H' := fun b o _ h => s b o h
theorem SameBut.upd {F : Addr} {H : Hp} {o : HO} : SameBut F H (upd H F o) := fun b x hb h => by rw [upd_ne hb]; exact h
theorem natV_ints (l : List Nat) : (l.map fun (n : Nat) => (n : Int)).map V.int = natV l := by
  unfold natV
  rw [List.map_map]; rfl
section
variable {P : Program} {w : World} {K : PySem.W.Frag} {mg : Str → Option Value} {base : Heap}
def spStep (K : PySem.W.Frag) : Sp := fun vs H Q _ => ∃ (a R : Addr) (p : Picture) (k : Nat), vs = [.ref a, .ref R] ∧ Good p ∧ ErrT H a p ∧ RestsAt H R p k ∧
  ∀ H' D, Same H H' → H D = none → RestsAt H' D p (k + 1) → Q (.ref D) H'
/-- what stands in the new dict ahead of the turn i -/
def Part (H : Hp) (D : Addr) (p : Picture) (k i : Nat) : Prop := ∃ kvs : List (L2.Key × V), H D = some (.dK kvs) ∧ kvs.length ≤ i + 1 ∧
  ∀ j, (j < i ∨ j = p.length) → ∃ e v, T p k j = some e ∧ valV kvs (keyN j) = some v ∧ DivV H v e (sizes p k j)
theorem ok_step {f : Addr} {fd : FuncData} {kk : Nat} (F : Fun K "with_one_group_more" "with_one_group_more" sStep f fd)
    (ml : mg "len" = none) (mr : mg "range" = none) (mm : mg "min" = none) : FnOk P w K mg base CX0 (kk + 1) f fd ["errors", "rests"] (spStep K) := by
  refine F.ok scStep (fun vs H Q E h => ?_) (fun cdv A outer s H vs Q E hr h => ?_)
  · obtain ⟨a, R, p, k, rfl, _⟩ := h
    rfl
  · obtain ⟨a, R, p, k, rfl, hG, hE, hR, q⟩ := h
    refine ⟨_, pss_cons (ps_set (i := 2) scStep.nd rfl (Or.inl rfl) (pe_callB call_len_seq (by rfl) ml boot_len (pa_cons (pv 0) pa_nil)))
      (pss_cons (ps_set (i := 3) scStep.nd rfl (Or.inl rfl) (pe_disp (pps_cons (pv 2) (pe_tup (pa_cons pe_int (pa_cons (pe_lst pa_nil) pa_nil))) pps_nil) (by rfl) (by rfl) (fun z => by cases z) (by decide)))
      (pss_cons (ps_for PassesOwn.never rfl (pi_range1 (by rfl) mr (pa_cons (pv 2) pa_nil)) (pg_name (i := 4) scStep.nd rfl (Or.inl rfl))
        (pss_cons (ps_set (i := 5) scStep.nd rfl (Or.inl rfl) (pe_lst pa_nil))
        (pss_cons (ps_for PassesOwn.never rfl (pi_range2 (by rfl) mr (pa_cons (pe_op op_add (pv 4) pe_int) (pa_cons (pe_op op_add (pv 2) pe_int) pa_nil))) (pg_name (i := 6) scStep.nd rfl (Or.inl rfl))
          (pss_one (ps_if (pt_cmp (pc_din (hu_of hr) (pv 6) (pv 1)))
            (pss_cons (ps_set (i := 7) scStep.nd rfl (Or.inl rfl) (pe_op op_sub (pv 6) (pv 4)))
            (pss_cons (ps_set (i := 8) scStep.nd rfl (Or.inl rfl) (pe_dget (hu_of hr) (pv 1) (pv 6) (fun _ _ => rfl)))
            (pss_one (ps_expr (pe_bm PySem.F.plainAttrs_list PySem.F.slot_list_append PySem.F.type_list_append mt_append (pv 5) (pa_cons
              (pe_tup (pa_cons (pe_op op_add (pe_ix ix_list (pe_ix ix_list (pv 0) (pv 4) (fun _ _ => rfl)) (pe_op op_sub (pv 7) pe_int) (fun _ _ => rfl)) (pe_ix ix_tup (pv 8) pe_int (fun _ _ => rfl)))
                (pa_cons (pe_op op_cat (pe_lst (pa_cons (pv 7) pa_nil)) (pe_ix ix_tup (pv 8) pe_int (fun _ _ => rfl))) pa_nil))) pa_nil))))))
            pss_nil)))
        (pss_one (ps_dput (hu_of hr) (pv 3) (pv 4) (pe_callB (cr_minP rfl hr.units) (by rfl) mm boot_min (pa_cons (pv 5) pa_nil)) rfl)))))
      (pss_one (ps_ret (pv 3))))), ?_⟩
    obtain ⟨rows, hA, hrl, hrow⟩ := hE
    have h12 := hG.len
    -- end = len(errors)
    refine ⟨.ref a, rfl, a, rows, rfl, .inl (SqL.of hA), ?_⟩
    -- divisions = {end: (0, [])}
    intro D nD
    have s0 : Same H (upd H D (.dK [])) := Same.up nD
    refine ⟨_, rfl, Nat.zero_le _, fun l nl => ?_⟩
    have s1 : Same (upd H D (.dK [])) (upd (upd H D (.dK [])) l (.lst [])) := Same.up nl
    refine ⟨by show 2 ≤ sizeLine; decide, fun t nt => ?_⟩
    have s2 : Same (upd (upd H D (.dK [])) l (.lst [])) (upd (upd (upd H D (.dK [])) l (.lst [])) t (.tup [.int 0, .ref l])) := Same.up nt
    generalize hH2 : upd (upd (upd H D (.dK [])) l (.lst [])) t (.tup [.int 0, .ref l]) = H2 at s2
    have s02 : Same (upd H D (.dK [])) H2 := s1.trans s2
    have hD2 : H2 D = some (.dK []) := s02 _ _ upd_same
    have ht2 : H2 t = some (.tup [.int 0, .ref l]) := by rw [← hH2]; exact upd_same
    have hl2 : H2 l = some (.lst []) := s2 _ _ upd_same
    refine ⟨hD2, [(keyN p.length, .ref t)], by rw [hrl]; rfl, by show 1 ≤ 15; decide, ?_⟩
    have hm : mergeK [] [(keyN p.length, V.ref t)] = [(keyN p.length, V.ref t)] := rfl
    rw [hm]
    have s3 : Same H (upd H2 D (.dK [(keyN p.length, V.ref t)])) := (s0.trans s02).mut nD
    have hpart : Part (upd H2 D (.dK [(keyN p.length, V.ref t)])) D p (k + 1) 0 := by
      refine ⟨_, upd_same, Nat.le_refl 1, fun j hj => ?_⟩
      have : j = p.length := by omega
      subst this
      refine ⟨0, .ref t, T_end, valV_pos rfl, DivV.past hD2 ⟨t, l, rfl, ht2, ?_⟩⟩
      unfold sizes
      rw [best_end]
      exact hl2
    refine ⟨_, rfl, (rows.length : Int), rfl, by omega, by omega, ?_⟩
    refine for_range (lo := 0) (n := (rows.length : Int).toNat) (fun i σ H' => ∃ x4 x5 x6 x7 x8, σ = [some (.ref a), some (.ref R), some (.int (rows.length : Int)), some (.ref D), x4, x5, x6, x7, x8] ∧ Same H H' ∧ Part H' D p (k + 1) i) ?_ ?_ ?_
    · exact ⟨none, none, none, none, none, rfl, s3, hpart⟩
    · rintro i σ H1 hi ⟨x4, x5, x6, x7, x8, rfl, sm, kvs, hD1, hkl, hall⟩
      have hi : i < p.length := by omega
      -- found = []
      refine ⟨Nat.zero_le _, fun Fd nF => ?_⟩
      have s4 : Same H1 (upd H1 Fd (.lst [])) := Same.up nF
      refine ⟨_, rfl, _, _, rfl, rfl, _, rfl, _, _, rfl, rfl, _, _, rfl, by omega, ?_⟩
      refine for_range (lo := (0 + (i : Int)) + 1) (n := ((rows.length : Int) + 1 - ((0 + (i : Int)) + 1)).toNat) (fun d σ H' => ∃ x6 x7 x8, σ = [some (.ref a), some (.ref R), some (.int (rows.length : Int)), some (.ref D), some (.int (0 + (i : Int))), some (.ref Fd), x6, x7, x8] ∧ Same H1 H' ∧
        ∃ xs, H' Fd = some (.lst xs) ∧ CdsAt H' Fd xs (cands p k i d)) ?_ ?_ ?_
      · exact ⟨x6, x7, x8, rfl, s4, [], upd_same, trivial⟩
      · rintro d σ H3 hd3 ⟨x6, x7, x8, rfl, s5, xs, hF, hC⟩
        have hd3 : i + d < p.length := by omega
        obtain ⟨kr, hR1, hR2, hR3⟩ := hR.mono (sm.trans s5)
        obtain ⟨hRs, hRn⟩ := hR3 (i + d + 1) (by omega)
        have ek : (V.int (0 + (i : Int) + 1 + (d : Int))) = kV (keyN (i + d + 1)) := by
          show V.int _ = V.int ((i + d + 1 : Nat) : Int)
          congr 1; omega
        refine ⟨_, rfl, .ref R, rfl, R, valV kr (keyN (i + d + 1)), rfl, by rw [ek]; exact DGet.k hR1, _, rfl, ?_⟩
        cases hT : T p k (i + d + 1) with
        | none =>
          rw [hRn hT]
          refine iteF ?_
          exact ⟨_, x7, x8, rfl, s5, xs, hF, by rw [cands_none hT]; exact hC⟩
        | some e =>
          obtain ⟨v, hv, t3, l3, rfl, ht3, hl3⟩ := hRs e hT
          rw [hv]
          refine iteT ?_
          obtain ⟨rr, hr1, hr2, hr3⟩ := hrow i hi
          have eix : (0 : Int) + (i : Int) = ((i : Nat) : Int) := by omega
          -- size = behind - first; rest = rests[behind]
          refine ⟨_, rfl, _, rfl, _, _, rfl, rfl, .ref R, rfl, _, rfl, R, .ref t3, rfl, by rw [ek, ← hv]; exact DGet.k hR1, ?_⟩
          -- found.append((.., ..))
          refine ⟨.ref Fd, rfl, .inl ⟨rfl, _, SqL.of hF⟩, ?_⟩
          have sAll := sm.trans s5
          refine ⟨.ref a, rfl, _, rfl, a, rows, 0 + (i : Int), _, rfl, rfl, SqL.of (sAll _ _ hA), at_of eix hr1, _, rfl, _, _, rfl, rfl, rr, _, _, _, rfl, rfl, SqL.of (sAll _ _ hr3), at_of (j := d) (by omega) (rowV_get (by omega)), ?_⟩
          refine ⟨.ref t3, rfl, t3, _, 0, _, rfl, rfl, SqT.of ht3, atI_0, _, _, rfl, rfl, ?_⟩
          refine ⟨_, rfl, by show 1 ≤ sizeLine; decide, fun c nc => ?_⟩
          have s6 : Same H3 (upd H3 c (.lst [V.int (0 + (i : Int) + 1 + (d : Int) - (0 + (i : Int)))])) := Same.up nc
          refine ⟨.ref t3, rfl, t3, _, 1, _, rfl, rfl, SqT.of (s6 _ _ ht3), atI_1, c, l3, _, _, rfl, rfl, upd_same, s6 _ _ hl3, ?_, fun c2 nc2 => ?_⟩
          · show 1 + (natV (sizes p k (i + d + 1))).length ≤ sizeLine
            have hlen : (sizes p k (i + d + 1)).length ≤ 12 := by
              unfold sizes
              rw [List.length_map]
              have := chain_length (chain_best (by omega) hT).1
              omega
            unfold natV
            rw [List.length_map, sizeLine_eq]
            omega
          · have s7 := Same.up (o := .lst ([V.int (0 + (i : Int) + 1 + (d : Int) - (0 + (i : Int)))] ++ natV (sizes p k (i + d + 1)))) nc2
            refine ⟨by show 2 ≤ sizeLine; decide, fun c3 nc3 => ?_⟩
            have s8 := Same.up (o := .tup [V.int (((groupError p i (i + d + 1) : Nat) : Int) + (e : Int)), .ref c2]) nc3
            have s678 := (s6.trans s7).trans s8
            refine ⟨Fd, xs, _, rfl, rfl, s678 _ _ hF, ?_, _, _, _, rfl, (s5.trans s678).mut nF, _, upd_same, ?_⟩
            · rw [hC.length]
              have := cands_length p k i d
              exact small1000 (by omega)
            · rw [cands_some hT]
              have hn2 : c2 ≠ Fd := (ne_of_none (s6 _ _ hF) nc2).symm
              have hn3 : c3 ≠ Fd := (ne_of_none ((s6.trans s7) _ _ hF) nc3).symm
              refine CdsAt.snoc ⟨c3, c2, rfl, hn3, hn2, ?_, ?_⟩ (hC.mono fun b o hb h => by rw [upd_ne hb]; exact s678 b o h)
              · rw [upd_ne hn3, upd_same]
                rfl
              · rw [upd_ne hn2, s8 _ _ upd_same]
                show some (HO.lst (_ :: natV (sizes p k (i + d + 1)))) = some (HO.lst (V.int ((d + 1 : Nat) : Int) :: ((sizes p k (i + d + 1)).map fun (n : Nat) => (n : Int)).map V.int))
                rw [natV_ints]
                show some (HO.lst (V.int (0 + (i : Int) + 1 + (d : Int) - (0 + (i : Int))) :: natV (sizes p k (i + d + 1)))) = _
                have e9 : (0 + (i : Int) + 1 + (d : Int) - (0 + (i : Int))) = ((d + 1 : Nat) : Int) := by omega
                rw [e9]
      · rintro σ H3 ⟨x6, x7, x8, rfl, s5, xs, hF, hC⟩
        have en : ((rows.length : Int) + 1 - ((0 + (i : Int)) + 1)).toNat = p.length - i := by omega
        rw [en] at hC
        obtain ⟨c0, cs, hcs⟩ := cands_pos (p := p) (k := k) hi
        obtain ⟨e, sz, hTe, hsz, hmin⟩ := cands_best hi hcs
        rw [hcs] at hC
        -- divisions[first] = min(found)
        refine ⟨.ref Fd, rfl, Fd, xs, c0, cs, rfl, SqL.of hF, hC.dp, fun ix v hv hc => ?_⟩
        obtain ⟨t, l, rfl, _, _, ht, hl⟩ := hC.at hv hc
        rw [hmin] at ht hl
        have hD3 : H3 D = some (.dK kvs) := s5 _ _ hD1
        refine ⟨.ref D, rfl, _, rfl, D, upd H3 D (.dK (putK kvs (keyN i) (.ref t))), rfl, ?_, ?_⟩
        · have ek : (V.int (0 + (i : Int))) = kV (keyN i) := by
            show V.int _ = V.int ((i : Nat) : Int)
            congr 1; omega
          rw [ek]
          exact DPut.k (k := keyN i) hD3 (small1000 (by omega))
        · refine ⟨_, _, _, _, _, rfl, (sm.trans s5).mut nD, _, upd_same, ?_, fun j hj => ?_⟩
          · have := length_putK kvs (keyN i) (V.ref t)
            omega
          · by_cases hji : j = i
            · subst hji
              refine ⟨e, .ref t, hTe, by rw [valV_put, if_pos rfl], DivV.past hD3 ⟨t, l, rfl, ht, ?_⟩⟩
              rw [hl, hsz, natV_ints]
            · obtain ⟨e', v', h1, h2, h3⟩ := hall j (by omega)
              exact ⟨e', v', h1, by rw [valV_put, if_neg (fun z => hji (keyN_inj.mp z))]; exact h2, DivV.past hD3 (h3.mono s5)⟩
    · rintro σ H1 ⟨x4, x5, x6, x7, x8, rfl, sm, kvs, hD1, hkl, hall⟩
      have en : (rows.length : Int).toNat = p.length := by omega
      rw [en] at hkl hall
      refine ⟨.ref D, rfl, q H1 D sm nD ⟨kvs, hD1, by omega, fun i hi => ?_⟩⟩
      obtain ⟨e, v, h1, h2, h3⟩ := hall i (by omega)
      refine ⟨fun e' he' => ?_, fun hn => ?_⟩
      · rw [h1] at he'
        cases he'
        exact ⟨v, h2, h3⟩
      · rw [h1] at hn
        cases hn
end
end Fs

set_option Elab.async false
set_option linter.all false
set_option maxRecDepth 100000
set_option maxHeartbeats 4000000
namespace Fs
open PySem PySem.Spec PyProof.Rows L2
open Sr110 (Shade Picture Group groupError median)
abbrev sSizes : Stmt := top 6
abbrev nSizes : List Str := ["shades", "k", "errors", "divisions", "group"]
theorem scSizes : FnScope nSizes ["shades", "k"] (defScope sSizes) := ⟨rfl, rfl, rfl, by decide +kernel, rfl, by decide +kernel, by decide +kernel⟩
abbrev sDiv : Stmt := top 7
abbrev nDiv : List Str := ["shades", "k", "groups", "first", "size"]
theorem scDiv : FnScope nDiv ["shades", "k"] (defScope sDiv) := ⟨rfl, rfl, rfl, by decide +kernel, rfl, by decide +kernel, by decide +kernel⟩
section
variable {P : Program} {w : World} {K : PySem.W.Frag} {mg : Str → Option Value} {base : Heap}
def spSizes (K : PySem.W.Frag) : Sp := fun vs H Q _ => ∃ (a : Addr) (p : Picture) (k e : Nat), vs = [.ref a, .int (k : Int)] ∧ PicL K H a p ∧ Good p ∧ k ≤ 13 ∧ T p k 0 = some e ∧
  ∀ H' l, Same H H' → H' l = some (.lst (natV (sizes p k 0))) → Q (.ref l) H'
theorem ok_sizes {f : Addr} {fd : FuncData} (F : Fun K "best_sizes" "best_sizes" sSizes f fd) (cE : Cal P w K mg base 4 "errors_of_groups" (spErrs K) []) (cS : Cal P w K mg base 1 "with_one_group_more" (spStep K) [])
    (ml : mg "len" = none) (mr : mg "range" = none) : FnOk P w K mg base CX0 5 f fd ["shades", "k"] (spSizes K) := by
  refine F.ok scSizes (fun vs H Q E h => ?_) (fun cdv A outer s H vs Q E hr h => ?_)
  · obtain ⟨a, p, k, e, rfl, _⟩ := h
    rfl
  · obtain ⟨a, p, k, e, rfl, hP, hG, hk, hT, q⟩ := h
    refine ⟨_, pss_cons (ps_set (i := 2) scSizes.nd rfl (Or.inl rfl) (C8.pe_c cE hr (by decide) (by rfl) (pa_cons (pv 0) pa_nil)))
      (pss_cons (ps_set (i := 3) scSizes.nd rfl (Or.inl rfl) (pe_disp (pps_cons (pe_callB call_len_seq (by rfl) ml boot_len (pa_cons (pv 0) pa_nil)) (pe_tup (pa_cons pe_int (pa_cons (pe_lst pa_nil) pa_nil))) pps_nil) (by rfl) (by rfl) (fun z => by cases z) (by decide)))
      (pss_cons (ps_for PassesOwn.never rfl (pi_range1 (by rfl) mr (pa_cons (pv 1) pa_nil)) (pg_name (i := 4) scSizes.nd rfl (Or.inl rfl))
        (pss_one (ps_set (i := 3) scSizes.nd rfl (Or.inl rfl) (C8.pe_c cS hr (by decide) (by rfl) (pa_cons (pv 2) (pa_cons (pv 3) pa_nil))))))
      (pss_one (ps_ret (pe_ix ix_tup (pe_dget (hu_of hr) (pv 3) pe_int (fun _ _ => rfl)) pe_int (fun _ _ => rfl)))))), ?_⟩
    have h12 := hG.len
    refine ⟨.ref a, rfl, a, p, rfl, hP, hG, fun H1 Er sm nEr hEr => ?_⟩
    obtain ⟨ts, hS, hTs⟩ := hP
    -- divisions = {len(shades): (0, [])}
    intro D nD
    have s0 : Same H1 (upd H1 D (.dK [])) := Same.up nD
    refine ⟨.ref a, rfl, a, ts, rfl, .inl ((sm.trans s0).seq hS), ?_⟩
    refine ⟨Nat.zero_le _, fun l nl => ?_⟩
    have s1 : Same (upd H1 D (.dK [])) (upd (upd H1 D (.dK [])) l (.lst [])) := Same.up nl
    refine ⟨by show 2 ≤ sizeLine; decide, fun t nt => ?_⟩
    have s2 : Same (upd (upd H1 D (.dK [])) l (.lst [])) (upd (upd (upd H1 D (.dK [])) l (.lst [])) t (.tup [.int 0, .ref l])) := Same.up nt
    generalize hH2 : upd (upd (upd H1 D (.dK [])) l (.lst [])) t (.tup [.int 0, .ref l]) = H2 at s2
    have s02 : Same (upd H1 D (.dK [])) H2 := s1.trans s2
    have hD2 : H2 D = some (.dK []) := s02 _ _ upd_same
    have ht2 : H2 t = some (.tup [.int 0, .ref l]) := by rw [← hH2]; exact upd_same
    have hl2 : H2 l = some (.lst []) := s2 _ _ upd_same
    refine ⟨hD2, [(keyN p.length, .ref t)], by rw [hTs.length]; rfl, by show 1 ≤ 15; decide, ?_⟩
    have hm : mergeK [] [(keyN p.length, V.ref t)] = [(keyN p.length, V.ref t)] := rfl
    rw [hm]
    have s3 : Same H1 (upd H2 D (.dK [(keyN p.length, V.ref t)])) := (s0.trans s02).mut nD
    have hrest : RestsAt (upd H2 D (.dK [(keyN p.length, V.ref t)])) D p 0 := by
      refine ⟨_, upd_same, by show 1 ≤ 13; decide, fun i hi => ?_⟩
      by_cases c : i = p.length
      · subst c
        rw [T_end]
        refine ⟨fun e he => ?_, fun z => nomatch z⟩
        cases he
        refine ⟨.ref t, valV_pos rfl, DivV.past hD2 ⟨t, l, rfl, ht2, ?_⟩⟩
        unfold sizes
        rw [best_end]
        exact hl2
      · rw [T_zero hi, if_neg (by omega)]
        exact ⟨fun e he => (nomatch he), fun _ => valV_neg (fun z => c (keyN_inj.mp z.symm))⟩
    refine ⟨_, rfl, (k : Int), rfl, by omega, by omega, ?_⟩
    refine for_range (lo := 0) (n := (k : Int).toNat) (fun i σ H' => ∃ D x4, σ = [some (.ref a), some (.int (k : Int)), some (.ref Er), some (.ref D), x4] ∧ Same H1 H' ∧ RestsAt H' D p i) ?_ ?_ ?_
    · exact ⟨D, none, rfl, s3, hrest⟩
    · rintro i σ H3 hi ⟨D, x4, rfl, s4, hR⟩
      refine ⟨.ref Er, rfl, .ref D, rfl, Er, D, p, i, rfl, hG, hEr.mono s4, hR, fun H4 D' s5 nD' hR' => ?_⟩
      exact ⟨D', _, rfl, s4.trans s5, hR'⟩
    · rintro σ H3 ⟨D, x4, rfl, s4, kvs, hD, hkl, hall⟩
      have en : (k : Int).toNat = k := by omega
      rw [en] at hall
      obtain ⟨v, hv, t, l, rfl, ht, hl⟩ := (hall 0 (Nat.zero_le _)).1 e hT
      have hv' : valV kvs (Sum.inl (0 : Int)) = some (.ref t) := hv
      refine ⟨.ref D, rfl, D, .ref t, rfl, by rw [← hv']; exact DGet.k (k := Sum.inl (0 : Int)) hD, t, _, 1, _, rfl, rfl, SqT.of ht, atI_1, ?_⟩
      exact q H3 l (sm.trans s4) hl
/-! ### best_division -/
/-- the shades of each group stand in a list of their own, none of them G -/
def GrsAt (p : Picture) (H : Hp) (G : Addr) : List V → List Group → Prop
  | [], [] => True
  | v :: vs, g :: gs => (∃ t, v = .ref t ∧ t ≠ G ∧ PicM H t (Fs.seg p g.first g.last)) ∧ GrsAt p H G vs gs
  | _, _ => False
theorem GrsAt.mono {p : Picture} {H H' : Hp} {G : Addr} (s : Same H H') : ∀ {vs : List V} {gs : List Group}, GrsAt p H G vs gs → GrsAt p H' G vs gs
  | [], [], _ => trivial
  | _ :: _, _ :: _, ⟨⟨t, e, ne, h⟩, r⟩ => ⟨⟨t, e, ne, h.mono s⟩, GrsAt.mono s r⟩
theorem GrsAt.past {p : Picture} {H H' : Hp} {G : Addr} {xs : List V} {o : HO} (hG : H G = some (.lst xs)) (s : Same H H') : ∀ {vs : List V} {gs : List Group}, GrsAt p H G vs gs → GrsAt p (upd H' G o) G vs gs
  | [], [], _ => trivial
  | _ :: _, _ :: _, ⟨⟨t, e, ne, h⟩, r⟩ => ⟨⟨t, e, ne, h.past hG ne s⟩, GrsAt.past hG s r⟩
theorem GrsAt.snoc {p : Picture} {H : Hp} {G t : Addr} {g : Group} (ne : t ≠ G) (h : PicM H t (Fs.seg p g.first g.last)) : ∀ {vs : List V} {gs : List Group}, GrsAt p H G vs gs → GrsAt p H G (vs ++ [.ref t]) (gs ++ [g])
  | [], [], _ => ⟨⟨t, rfl, ne, h⟩, trivial⟩
  | _ :: _, _ :: _, ⟨h1, r⟩ => ⟨h1, GrsAt.snoc ne h r⟩
theorem GrsAt.length {p : Picture} {H : Hp} {G : Addr} : ∀ {vs : List V} {gs : List Group}, GrsAt p H G vs gs → vs.length = gs.length
  | [], [], _ => rfl
  | _ :: _, _ :: _, ⟨_, r⟩ => by rw [List.length_cons, List.length_cons, GrsAt.length r]
theorem GrsAt.get {p : Picture} {H : Hp} {G : Addr} : ∀ {vs : List V} {gs : List Group} {i : Nat} {x : V}, GrsAt p H G vs gs → vs[i]? = some x → ∃ g t, gs[i]? = some g ∧ x = .ref t ∧ PicM H t (Fs.seg p g.first g.last)
  | [], [], i, x, _, h => by simp at h
  | _ :: vs, g :: gs, 0, x, ⟨⟨t, e, _, h⟩, _⟩, hx => by
    cases Option.some.inj hx
    exact ⟨g, t, rfl, e, h⟩
  | _ :: vs, g :: gs, i + 1, x, ⟨_, r⟩, hx => by
    obtain ⟨g', t, a, b, c⟩ := GrsAt.get (i := i) r (by simpa using hx)
    exact ⟨g', t, by simpa using a, b, c⟩
theorem chain_drop {p : Picture} : ∀ {gs : List Group} {i j : Nat} {g : Group}, Chain p i gs → gs[j]? = some g → g.first < g.last ∧ g.last ≤ p.length ∧ g.colour = median p g.first g.last ∧ Chain p g.first (gs.drop j) ∧ Chain p g.last (gs.drop (j + 1))
  | [], i, j, g, _, h => by simp at h
  | x :: r, i, 0, g, h, e => by
    cases Option.some.inj e
    obtain ⟨h1, h2, h3, h4, h5⟩ := h
    subst h1
    exact ⟨h2, h3, h4, ⟨rfl, h2, h3, h4, h5⟩, h5⟩
  | x :: r, i, j + 1, g, h, e => chain_drop (i := x.last) (j := j) h.2.2.2.2 (by simpa using e)
def spDiv (K : PySem.W.Frag) : Sp := fun vs H Q _ => ∃ (a : Addr) (p : Picture) (k e : Nat), vs = [.ref a, .int (k : Int)] ∧ PicL K H a p ∧ Good p ∧ k ≤ 13 ∧ T p k 0 = some e ∧
  ∀ H' D xs, Same H H' → H D = none → H' D = some (.lst xs) → GrsAt p H' D xs (Sr110.bestGroups p k) → Q (.ref D) H'
theorem ok_div {f : Addr} {fd : FuncData} (F : Fun K "best_division" "best_division" sDiv f fd) (cZ : Cal P w K mg base 5 "best_sizes" (spSizes K) []) : FnOk P w K mg base CX0 6 f fd ["shades", "k"] (spDiv K) := by
  refine F.ok scDiv (fun vs H Q E h => ?_) (fun cdv A outer s H vs Q E hr h => ?_)
  · obtain ⟨a, p, k, e, rfl, _⟩ := h
    rfl
  · obtain ⟨a, p, k, e, rfl, hP, hG, hk, hT, q⟩ := h
    refine ⟨_, pss_cons (ps_set (i := 2) scDiv.nd rfl (Or.inl rfl) (pe_lst pa_nil))
      (pss_cons (ps_set (i := 3) scDiv.nd rfl (Or.inl rfl) pe_int)
      (pss_cons (ps_for PassesOwn.never rfl (pi_list (C8.pe_c cZ hr (by decide) (by rfl) (pa_cons (pv 0) (pa_cons (pv 1) pa_nil)))) (pg_name (i := 4) scDiv.nd rfl (Or.inl rfl))
        (pss_cons (ps_expr (pe_bm PySem.F.plainAttrs_list PySem.F.slot_list_append PySem.F.type_list_append mt_append (pv 2) (pa_cons
          (pe_slice sl_list (pv 0) (po_some (pv 3)) (po_some (pe_op op_add (pv 3) (pv 4)))) pa_nil)))
        (pss_one (ps_aug (i := 3) scDiv.nd rfl (Or.inl rfl) (pv 4) ip_add))))
      (pss_one (ps_ret (pv 2))))), ?_⟩
    have h12 := hG.len
    obtain ⟨hch, hsum⟩ := chain_best (Nat.zero_le _) hT
    have hgl := chain_length hch
    obtain ⟨ts, hS, hTs⟩ := hP
    -- groups = []
    refine ⟨Nat.zero_le _, fun G nG => ?_⟩
    have s0 : Same H (upd H G (.lst [])) := Same.up nG
    refine ⟨.ref a, rfl, _, rfl, a, p, k, e, rfl, ⟨ts, s0.seq hS, hTs.mono s0⟩, hG, hk, hT, fun H1 l s1 hl => ?_⟩
    have s01 := s0.trans s1
    refine ⟨l, rfl, ⟨_, SqL.of hl⟩, ?_⟩
    by_cases hlen0 : (Sr110.bestGroups p k) = []
    · -- no groups
      have hz : natV (sizes p k 0) = [] := by
        unfold sizes natV
        have : Sr110.bestGroupsFrom p k 0 = [] := hlen0
        rw [this]; rfl
      rw [hz] at hl
      refine for_list (K := K) (a := l) (xs := []) (fun i σ H' => σ = [some (.ref a), some (.int (k : Int)), some (.ref G), some (.int 0), none] ∧ H' = H1) ⟨rfl, rfl⟩ (fun i σ H' _ h => by rw [h.2]; exact SqL.of hl) ?_ ?_
      · rintro i x σ H' hx
        simp at hx
      · rintro σ H' ⟨rfl, rfl⟩
        refine ⟨.ref G, rfl, q H' G [] s01 nG (s1 _ _ upd_same) ?_⟩
        rw [hlen0]; trivial
    · have hne : l ≠ G := by
        intro z
        subst z
        have h0 := s1 _ _ (upd_same (H := H) (a := l) (o := .lst []))
        rw [h0] at hl
        have h3 : ([] : List V) = natV (sizes p k 0) := HO.lst.inj (Option.some.inj hl)
        apply hlen0
        have h4 : (natV (sizes p k 0)).length = 0 := by rw [← h3]; rfl
        unfold natV sizes at h4
        rw [List.length_map, List.length_map] at h4
        exact List.eq_nil_of_length_eq_zero h4
      refine for_list (K := K) (a := l) (xs := natV (sizes p k 0)) (fun i σ H' => ∃ first : Nat, ∃ x4 xs, σ = [some (.ref a), some (.int (k : Int)), some (.ref G), some (.int (first : Int)), x4] ∧ Same H H' ∧ H' l = some (.lst (natV (sizes p k 0))) ∧
        H' G = some (.lst xs) ∧ GrsAt p H' G xs ((Sr110.bestGroups p k).take i) ∧ Chain p first ((Sr110.bestGroups p k).drop i)) ?_ ?_ ?_ ?_
      · exact ⟨0, none, [], rfl, s01, hl, s1 _ _ upd_same, trivial, hch⟩
      · rintro i σ H' _ ⟨first, x4, xs, rfl, sm, hl', _⟩
        exact SqL.of hl'
      · rintro i x σ H2 hx ⟨first, x4, xs, rfl, sm, hl2, hG2, hgr, hc⟩
        obtain ⟨g, hg, rfl⟩ : ∃ g, (Sr110.bestGroups p k)[i]? = some g ∧ x = .int ((gsz g : Nat) : Int) := by
          unfold natV sizes at hx
          rw [List.map_map, List.getElem?_map] at hx
          cases hgi : (Sr110.bestGroupsFrom p k 0)[i]? with
          | none => rw [hgi] at hx; cases hx
          | some g => rw [hgi] at hx; exact ⟨g, hgi, (Option.some.inj hx).symm⟩
        obtain ⟨g1, g2, g3, g4, g5⟩ := chain_drop hch hg
        have hdrop : (Sr110.bestGroups p k).drop i = g :: (Sr110.bestGroups p k).drop (i + 1) := by
          obtain ⟨hi, e1⟩ := List.getElem?_eq_some_iff.mp hg
          rw [List.drop_eq_getElem_cons hi, e1]
        have hfirst : first = g.first := by
          rw [hdrop] at hc
          exact hc.1.symm
        subst hfirst
        -- groups.append(shades[first:first + size])
        refine ⟨.ref G, rfl, .inl ⟨rfl, _, SqL.of hG2⟩, .ref a, rfl, _, rfl, (g.first : Int), rfl, _, rfl, _, rfl, _, _, rfl, rfl, ((g.first : Int) + ((gsz g : Nat) : Int)), rfl, a, ts, rfl, sm.seq hS, fun c nc => ?_⟩
        have ec : cutV ts (some (g.first : Int)) (some ((g.first : Int) + ((gsz g : Nat) : Int))) = (ts.drop g.first).take (g.last - g.first) := by
          have e2 : (g.first : Int) + ((gsz g : Nat) : Int) = ((g.last : Nat) : Int) := by unfold gsz; omega
          rw [e2]
          exact cut_seg (by omega) (by rw [hTs.length]; omega)
        rw [ec]
        have s4 : Same H2 (upd H2 c (.lst ((ts.drop g.first).take (g.last - g.first)))) := Same.up nc
        have hPic : PicM (upd H2 c (.lst ((ts.drop g.first).take (g.last - g.first)))) c (Fs.seg p g.first g.last) := ⟨_, upd_same, (hTs.mono (sm.trans s4)).seg⟩
        have hcG : c ≠ G := (ne_of_none hG2 nc).symm
        refine ⟨G, xs, _, rfl, rfl, s4 _ _ hG2, ?_, ?_⟩
        · have h5 := hgr.length
          rw [h5, List.length_take]
          have : Sr110.bestGroups p k = Sr110.bestGroupsFrom p k 0 := rfl
          exact small1000 (by rw [this]; omega)
        · refine ⟨_, rfl, _, rfl, _, _, rfl, rfl, g.last, some (.int ((gsz g : Nat) : Int)), _, ?_, (sm.trans s4).mut nG, ?_, upd_same, ?_, g5⟩
          · have e2 : (g.first : Int) + ((gsz g : Nat) : Int) = ((g.last : Nat) : Int) := by unfold gsz; omega
            show [some (V.ref a), some (V.int (k : Int)), some (V.ref G), some (V.int ((g.first : Int) + ((gsz g : Nat) : Int))), some (V.int ((gsz g : Nat) : Int))] = _
            rw [e2]
          · rw [upd_ne hne]
            exact s4 _ _ hl2
          · rw [List.take_add_one, hg]
            exact GrsAt.snoc hcG (hPic.past (s4 _ _ hG2) hcG (Same.refl _)) (hgr.past hG2 s4)
      · rintro σ H' ⟨first, x4, xs, rfl, sm, hl', hG', hgr, _⟩
        refine ⟨.ref G, rfl, q H' G xs sm nG hG' ?_⟩
        have e9 : (natV (sizes p k 0)).length = (Sr110.bestGroups p k).length := by
          unfold natV sizes
          rw [List.length_map, List.length_map]; rfl
        rw [e9, List.take_length] at hgr
        exact hgr
end
end Fs

set_option Elab.async false
set_option linter.all false
set_option maxRecDepth 100000
set_option maxHeartbeats 4000000
namespace Fs
open PySem PySem.Spec PyProof.Rows L2
open Sr110 (Shade Picture Group groupError median bestGroups)
abbrev sMinE : Stmt := top 8
abbrev nMinE : List Str := ["shades", "k", "group"]
theorem scMinE : FnScope nMinE ["shades", "k"] (defScope sMinE) := ⟨rfl, rfl, rfl, by decide +kernel, rfl, by decide +kernel, by decide +kernel⟩
/-- what a comprehension over groups has made behind i of them -/
def MadeG (H : Hp) (D : Addr) (f : Group → Nat) (gs : List Group) (i : Nat) (H' : Hp) : Prop := Same H H' ∧ H' D = some (.lst (((gs.take i).map f).map fun (n : Nat) => V.int (n : Int)))
theorem takeG_succ {f : Group → Nat} {gs : List Group} {i : Nat} {g : Group} (h : gs[i]? = some g) : ((gs.take (i + 1)).map f).map (fun (n : Nat) => V.int (n : Int)) = ((gs.take i).map f).map (fun (n : Nat) => V.int (n : Int)) ++ [V.int ((f g : Nat) : Int)] := by
  rw [List.take_add_one, h, List.map_append, List.map_append]; rfl
theorem sum_nats (l : List Nat) : (l.map fun (n : Nat) => (n : Int)).sum = ((l.sum : Nat) : Int) := by
  induction l with
  | nil => rfl
  | cons x r ih => rw [List.map_cons, List.sum_cons, List.sum_cons, ih]; omega
theorem best_few {p : Picture} {k e : Nat} (hG : Good p) (h : T p k 0 = some e) : (bestGroups p k).length ≤ 12 := by
  have := chain_length (chain_best (Nat.zero_le _) h).1
  have h12 := hG.len
  have : (bestGroups p k).length ≤ p.length - 0 := this
  omega
/-- what is known of each best group -/
theorem best_at {p : Picture} {k e i : Nat} {g : Group} (hG : Good p) (hT : T p k 0 = some e) (hg : (bestGroups p k)[i]? = some g) :
    g.first < g.last ∧ g.last ≤ p.length ∧ g.colour = medL (Fs.seg p g.first g.last) ∧ groupError p g.first g.last = errW (Fs.seg p g.first g.last) (medL (Fs.seg p g.first g.last)) ∧
    0 < (Fs.seg p g.first g.last).length ∧ (Fs.seg p g.first g.last).length ≤ 12 ∧ (Fs.seg p g.first g.last).length = g.last - g.first ∧ i < 12 := by
  have hch : Chain p 0 (bestGroups p k) := (chain_best (Nat.zero_le _) hT).1
  obtain ⟨g1, g2, g3, g4, g5⟩ := chain_drop hch hg
  have h12 := hG.len
  have hl := seg_length (i := g.first) g2
  have hi := (List.getElem?_eq_some_iff.mp hg).1
  have hf := best_few hG hT
  exact ⟨g1, g2, by rw [g3, median_seg g1 g2], groupError_seg g1 g2, by omega, by omega, hl, by omega⟩
section
variable {P : Program} {w : World} {K : PySem.W.Frag} {mg : Str → Option Value} {base : Heap}
/-! ### minimum_error -/
def spMinE (K : PySem.W.Frag) : Sp := fun vs H Q _ => ∃ (a : Addr) (p : Picture) (k e : Nat), vs = [.ref a, .int (k : Int)] ∧ PicL K H a p ∧ Good p ∧ k ≤ 13 ∧ T p k 0 = some e ∧
  ∀ H', Same H H' → Q (.int (e : Int)) H'
theorem ok_minE {f : Addr} {fd : FuncData} (F : Fun K "minimum_error" "minimum_error" sMinE f fd) (cD : Cal P w K mg base 6 "best_division" (spDiv K) []) (cE : Cal P w K mg base 3 "error_of" (spErr K) []) (ms : mg "sum" = none) :
    FnOk P w K mg base CX0 7 f fd ["shades", "k"] (spMinE K) := by
  refine F.ok scMinE (fun vs H Q E h => ?_) (fun cdv A outer s H vs Q E hr h => ?_)
  · obtain ⟨a, p, k, e, rfl, _⟩ := h
    rfl
  · obtain ⟨a, p, k, e, rfl, hP, hG, hk, hT, q⟩ := h
    refine ⟨_, pss_one (ps_ret (pe_callB (cr_sum rfl) (by rfl) ms boot_sum (pa_cons
        (by exact pe_lc (own := [("group", 2)]) (g := gName 2) (tt := tYes) rfl scMinE.nd (pi_list (C8.pe_c cD hr (by decide) (by rfl) (pa_cons (pv 0) (pa_cons (pv 1) pa_nil)))) (blkOk_by (N := nMinE) (sc := defScope sMinE) (by decide +kernel))
              (fun _ _ _ _ _ => pg_name (i := 2) scMinE.nd rfl (Or.inl rfl))
              (fun _ _ _ _ _ => pts_nil) (fun _ _ _ _ _ => by exact C8.pe_c cE hr (by decide) (by rfl) (pa_cons (pv 2) pa_nil))) pa_nil))), ?_⟩
    refine ⟨.ref a, rfl, _, rfl, a, p, k, e, rfl, hP, hG, hk, hT, fun H1 D xs s1 nD hD hgr => ?_⟩
    refine ⟨D, rfl, ⟨_, SqL.of hD⟩, fun G nG => ?_⟩
    refine lc_list (K := K) (a := D) (xs := xs) (MadeG H1 G (fun g => groupError p g.first g.last) (bestGroups p k)) ?_ ?_ ?_ ?_
    · exact ⟨Same.up nG, upd_same⟩
    · exact fun i H' _ h => SqL.of (h.1 _ _ hD)
    · rintro i v H' hv ⟨sm, hGv⟩
      obtain ⟨g, t, hg, rfl, ht⟩ := hgr.get hv
      obtain ⟨g1, g2, g3, g4, g5, g6, g7, g8⟩ := best_at hG hT hg
      refine ⟨rfl, .ref t, rfl, t, _, rfl, (ht.mono sm).l, g5, g6, hG.count, fun H3 s3 => ?_⟩
      refine ⟨_, s3 _ _ hGv, ?_, (sm.trans s3).mut nG, ?_⟩
      · rw [List.length_map, List.length_map, List.length_take]
        exact small1000 (by omega)
      · rw [upd_same, takeG_succ (f := fun g => groupError p g.first g.last) hg, g4]
    · rintro H2 ⟨s2, hGv⟩
      rw [hgr.length, List.take_length] at hGv
      refine ⟨G, ((bestGroups p k).map (fun g => groupError p g.first g.last)).map (fun (n : Nat) => (n : Int)), rfl, ?_, ?_⟩
      · rw [List.map_map]
        exact SqL.of hGv
      · have hs : ((bestGroups p k).map (fun g => groupError p g.first g.last)).sum = e := (chain_best (Nat.zero_le _) hT).2
        rw [sum_nats, hs]
        exact q _ (s1.trans s2)
end
end Fs

set_option Elab.async false
set_option linter.all false
set_option maxRecDepth 100000
set_option maxHeartbeats 4000000
namespace Fs
open PySem PySem.Spec PyProof.Rows L2
open Sr110 (Shade Picture Call perform isLevel isCount isShade isColourCount)
abbrev sLev : Stmt := top 25
abbrev sCnt : Stmt := top 26
abbrev sPlt : Stmt := top 27
abbrev sHas : Stmt := top 28
abbrev sFlt : Stmt := top 29
theorem scLev : FnScope ["number"] ["number"] (defScope sLev) := ⟨rfl, rfl, rfl, by decide +kernel, rfl, by decide +kernel, by decide +kernel⟩
theorem scPlt : FnScope ["palette", "colour"] ["palette"] (defScope sPlt) := ⟨rfl, rfl, rfl, by decide +kernel, rfl, by decide +kernel, by decide +kernel⟩
theorem scCnt : FnScope ["count"] ["count"] (defScope sCnt) := ⟨rfl, rfl, rfl, by decide +kernel, rfl, by decide +kernel, by decide +kernel⟩
theorem scHas : FnScope ["shades", "i"] ["shades", "i"] (defScope sHas) := ⟨rfl, rfl, rfl, by decide +kernel, rfl, by decide +kernel, by decide +kernel⟩
theorem scFlt : FnScope ["shades", "k"] ["shades", "k"] (defScope sFlt) := ⟨rfl, rfl, rfl, by decide +kernel, rfl, by decide +kernel, by decide +kernel⟩
/-- a number that the file's top names -/
theorem pe_num {X : Cx} {x : Str} {i : Int} {t : Tok} {pos : Pos} (hm : X.mg x = some (.int i t)) (hg : Gl X x := by rfl) (hd : (x == ("__debug__" : Str)) = false := by decide) : PE X (.Name x pos) (tC (.int i)) :=
  pe_glob hg hm (show RelV (.int i) (.int i t) from ⟨t, rfl⟩) hd
/-- the module's numbers -/
structure Con (mg : Str → Option Value) : Prop where
  noi : ∃ t, mg "NO_INSTANCE" = some (.int (-11) t)
  nos : ∃ t, mg "NO_SUCH_SHADE" = some (.int (-2) t)
  tak : ∃ t, mg "LEVEL_TAKEN" = some (.int (-17) t)
  oor : ∃ t, mg "OUT_OF_RANGE" = some (.int (-22) t)
  many : ∃ t, mg "TOO_MANY_SHADES" = some (.int (-28) t)
  noc : ∃ t, mg "NO_COLOURS" = some (.int (-33) t)
  hil : ∃ t, mg "HIGHEST_BRIGHTNESS" = some (.int 255 t)
  hic : ∃ t, mg "HIGHEST_COUNT" = some (.int 999 t)
  mos : ∃ t, mg "MOST_SHADES" = some (.int 12 t)
  moc : ∃ t, mg "MOST_COLOURS" = some (.int 12 t)
  cre : ∃ t, mg "CREATE" = some (.int 0 t)
  pal : ∃ t, mg "PALETTE_ERROR" = some (.int 11 t)
  nod : ∃ t, mg "NO_DIVISION" = some (.int (-1) t)
def rowP (p : Picture) (c : Call) : List Int := (perform p c).2.code :: (perform p c).2.values
def newP (p : Picture) (c : Call) : Picture := (perform p c).1.getD p
/-- what an operation leaves: its answer at r, the picture at a -/
structure Done (H : Hp) (a : Addr) (p : Picture) (c : Call) (H' : Hp) (r : Addr) : Prop where
  row : H' r = some (.lst ((rowP p c).map V.int))
  pic : PicM H' a (newP p c)
  but : SameBut a H H'
  ne : r ≠ a
  new : H r = none
theorem Done.query {H H' : Hp} {a r : Addr} {p : Picture} {c : Call} (hp : PicM H a p) (s : Same H H') (hn : H r = none) (hq : newP p c = p) (hr : H' r = some (.lst ((rowP p c).map V.int))) : Done H a p c H' r := by
  refine ⟨hr, ?_, SameBut.of s, ?_, hn⟩
  · rw [hq]
    exact hp.mono s
  · obtain ⟨ts, h1, _⟩ := hp
    exact (ne_of_none h1 hn).symm
def spOp1 (mk : Int → Call) : Sp := fun vs H Q _ => ∃ (a : Addr) (p : Picture) (x : Int), vs = [.ref a, .int x] ∧ PicM H a p ∧ Good p ∧ ∀ H' r, Done H a p (mk x) H' r → Q (.ref r) H'
def spOp2 (mk : Int → Int → Call) : Sp := fun vs H Q _ => ∃ (a : Addr) (p : Picture) (x y : Int), vs = [.ref a, .int x, .int y] ∧ PicM H a p ∧ Good p ∧ ∀ H' r, Done H a p (mk x y) H' r → Q (.ref r) H'
def spOp0 (c : Call) : Sp := fun vs H Q _ => ∃ (a : Addr) (p : Picture), vs = [.ref a] ∧ PicM H a p ∧ Good p ∧ ∀ H' r, Done H a p c H' r → Q (.ref r) H'
section
variable {P : Program} {w : World} {K : PySem.W.Frag} {mg : Str → Option Value} {base : Heap}
def spLev : Sp := fun vs H Q _ => ∃ z : Int, vs = [.int z] ∧ Q (.bl (isLevel z)) H
def spCnt : Sp := fun vs H Q _ => ∃ z : Int, vs = [.int z] ∧ Q (.bl (isCount z)) H
def spHas : Sp := fun vs H Q _ => ∃ (a : Addr) (p : Picture) (z : Int), vs = [.ref a, .int z] ∧ PicM H a p ∧ Q (.bl (isShade p z)) H
theorem chain_bool {lo x hi : Int} {Q : Bool → Prop} (h : Q (decide (lo ≤ x) && decide (x ≤ hi))) : (if decide (lo ≤ x) = true then Q (decide (x ≤ hi)) else Q false) := by
  cases e : decide (lo ≤ x) with
  | true => rw [e] at h; exact h
  | false => rw [e] at h; exact h
theorem ok_lev {f : Addr} {fd : FuncData} {k : Nat} (F : Fun K "is_brightness" "is_brightness" sLev f fd) (C : Con mg) : FnOk P w K mg base CX0 (k + 1) f fd ["number"] spLev := by
  refine F.ok scLev (fun vs H Q E h => ?_) (fun cdv A outer s H vs Q E hr h => ?_)
  · obtain ⟨z, rfl, _⟩ := h
    rfl
  · obtain ⟨z, rfl, q⟩ := h
    obtain ⟨t, ht⟩ := C.hil
    refine ⟨_, pss_one (ps_ret (pe_chain op_le op_le pe_int (pv 0) (pe_num ht))), ?_⟩
    refine ⟨_, rfl, _, _, rfl, rfl, _, rfl, ?_⟩
    cases e : decide ((0 : Int) ≤ z) with
    | true =>
      refine iteT ⟨_, _, rfl, rfl, ?_⟩
      have : isLevel z = decide (z ≤ 255) := by unfold isLevel SrCommon.inRange; rw [e]; rfl
      rw [this] at q
      exact q
    | false =>
      refine iteF ?_
      have : isLevel z = false := by unfold isLevel SrCommon.inRange; rw [e]; rfl
      rw [this] at q
      exact q
theorem ok_cnt {f : Addr} {fd : FuncData} {k : Nat} (F : Fun K "is_count" "is_count" sCnt f fd) (C : Con mg) : FnOk P w K mg base CX0 (k + 1) f fd ["count"] spCnt := by
  refine F.ok scCnt (fun vs H Q E h => ?_) (fun cdv A outer s H vs Q E hr h => ?_)
  · obtain ⟨z, rfl, _⟩ := h
    rfl
  · obtain ⟨z, rfl, q⟩ := h
    obtain ⟨t, ht⟩ := C.hic
    refine ⟨_, pss_one (ps_ret (pe_chain op_le op_le pe_int (pv 0) (pe_num ht))), ?_⟩
    refine ⟨_, rfl, _, _, rfl, rfl, _, rfl, ?_⟩
    cases e : decide ((1 : Int) ≤ z) with
    | true =>
      refine iteT ⟨_, _, rfl, rfl, ?_⟩
      have : isCount z = decide (z ≤ 999) := by unfold isCount SrCommon.inRange; rw [e]; rfl
      rw [this] at q
      exact q
    | false =>
      refine iteF ?_
      have : isCount z = false := by unfold isCount SrCommon.inRange; rw [e]; rfl
      rw [this] at q
      exact q
theorem ok_has {f : Addr} {fd : FuncData} {k : Nat} (F : Fun K "has_shade" "has_shade" sHas f fd) (ml : mg "len" = none) : FnOk P w K mg base CX0 (k + 1) f fd ["shades", "i"] spHas := by
  refine F.ok scHas (fun vs H Q E h => ?_) (fun cdv A outer s H vs Q E hr h => ?_)
  · obtain ⟨a, p, z, rfl, _⟩ := h
    rfl
  · obtain ⟨a, p, z, rfl, ⟨ts, hA, hT⟩, q⟩ := h
    refine ⟨_, pss_one (ps_ret (pe_chain op_le op_lt pe_int (pv 1) (pe_callB call_len_seq (by rfl) ml boot_len (pa_cons (pv 0) pa_nil)))), ?_⟩
    refine ⟨_, rfl, _, _, rfl, rfl, _, rfl, ?_⟩
    cases e : decide ((0 : Int) ≤ z) with
    | true =>
      refine iteT ⟨.ref a, rfl, a, ts, rfl, .inl (SqL.of hA), _, _, rfl, rfl, ?_⟩
      have : isShade p z = decide (z < (ts.length : Int)) := by unfold isShade SrCommon.isIndex; rw [e, hT.length]; rfl
      rw [this] at q
      exact q
    | false =>
      refine iteF ?_
      have : isShade p z = false := by unfold isShade SrCommon.isIndex; rw [e]; rfl
      rw [this] at q
      exact q
/-- the error that k colours are refused with, or 0 -/
def faultOf (p : Picture) (k : Int) : Int := if isColourCount k = false then -22 else if k = 0 ∧ 0 < p.length then -33 else 0
def spFlt : Sp := fun vs H Q _ => ∃ (a : Addr) (p : Picture) (z : Int), vs = [.ref a, .int z] ∧ PicM H a p ∧ Q (.int (faultOf p z)) H
theorem colours_in {k : Int} : isColourCount k = true ↔ 0 ≤ k ∧ k ≤ 12 := by
  unfold isColourCount SrCommon.inRange Sr110.maxShades
  rw [Bool.and_eq_true, decide_eq_true_eq, decide_eq_true_eq]
  exact Iff.rfl
theorem ok_flt {f : Addr} {fd : FuncData} {k : Nat} (F : Fun K "colours_fault" "colours_fault" sFlt f fd) (C : Con mg) (ml : mg "len" = none) : FnOk P w K mg base CX0 (k + 1) f fd ["shades", "k"] spFlt := by
  refine F.ok scFlt (fun vs H Q E h => ?_) (fun cdv A outer s H vs Q E hr h => ?_)
  · obtain ⟨a, p, z, rfl, _⟩ := h
    rfl
  · obtain ⟨a, p, z, rfl, ⟨ts, hA, hT⟩, q⟩ := h
    obtain ⟨t1, h1⟩ := C.moc
    obtain ⟨t2, h2⟩ := C.oor
    obtain ⟨t3, h3⟩ := C.noc
    refine ⟨_, pss_cons (ps_if (PW.pt (pw_or (pt_cmpR op_lt (pv 1) pe_int (nomark _)) (pw_or1 (pt_cmpR op_gt (pv 1) (pe_num h1) (nomark _)))))
        (pss_one (ps_ret (pe_num h2))) pss_nil)
      (pss_cons (ps_if (PW.pt (pw_and (pt_cmpR op_eq (pv 1) pe_int (nomark _)) (pw_and1 (pt_cmpR op_gt (pe_callB call_len_seq (by rfl) ml boot_len (pa_cons (pv 0) pa_nil)) pe_int (nomark _)))))
        (pss_one (ps_ret (pe_num h3))) pss_nil)
      (pss_one (ps_ret pe_int))), ?_⟩
    have out : ¬ (0 ≤ z ∧ z ≤ 12) → Q (.int (-22)) H := fun c => by
      have e : isColourCount z = false := by
        cases e : isColourCount z with
        | true => exact absurd (colours_in.mp e) c
        | false => rfl
      unfold faultOf at q
      rw [if_pos e] at q
      exact q
    refine ⟨_, rfl, _, _, rfl, rfl, _, rfl, ite2 (fun c => ?_) (fun c => ?_)⟩
    · have c := of_decide_eq_true c
      exact iteT (out fun z => by omega)
    · have c : ¬ z < 0 := fun z => c (decide_eq_true z)
      refine ⟨_, rfl, _, _, rfl, rfl, _, rfl, ite2 (fun d => ?_) (fun d => ?_)⟩
      · have d := of_decide_eq_true d
        exact out fun z => by omega
      · have d : ¬ (12 : Int) < z := fun z => d (decide_eq_true z)
        have e : ¬ isColourCount z = false := by
          rw [colours_in.mpr ⟨by omega, by omega⟩]
          exact Bool.noConfusion
        unfold faultOf at q
        rw [if_neg e] at q
        refine ⟨_, rfl, rfl, _, rfl, ite2 (fun c0 => ?_) (fun c0 => ?_)⟩
        · have c0 : z = 0 := V.int.inj (of_decide_eq_true c0)
          refine ⟨.ref a, rfl, a, ts, rfl, .inl (SqL.of hA), _, _, rfl, rfl, _, rfl, ite2 (fun c1 => ?_) (fun c1 => ?_)⟩
          · have c1 := of_decide_eq_true c1
            rw [if_pos ⟨c0, by rw [← hT.length]; omega⟩] at q
            exact q
          · have c1 : ¬ (0 : Int) < (ts.length : Int) := fun z => c1 (decide_eq_true z)
            rw [if_neg (by rw [← hT.length]; omega)] at q
            exact q
        · have c0 : ¬ z = 0 := fun z => c0 (decide_eq_true (congrArg V.int z))
          rw [if_neg (by omega)] at q
          exact iteF q
/-- a palette may have these colours -/
def palOk (l : List Int) : Bool := decide (1 ≤ l.length) && decide (l.length ≤ 12) && l.all isLevel
def spPlt (K : PySem.W.Frag) : Sp := fun vs H Q _ => ∃ (b : Addr) (l : List Int), vs = [.ref b] ∧ SqL K H b (l.map V.int) ∧ ∀ H', Same H H' → Q (.bl (palOk l)) H'
theorem all_id (l : List Int) : (l.map isLevel).all id = l.all isLevel := by
  rw [List.all_map]; rfl
theorem ok_plt {f : Addr} {fd : FuncData} (F : Fun K "is_palette" "is_palette" sPlt f fd) (cL : Cal P w K mg base 1 "is_brightness" spLev []) (C : Con mg) (ml : mg "len" = none) (mal : mg "all" = none) : FnOk P w K mg base CX0 2 f fd ["palette"] (spPlt K) := by
  refine F.ok scPlt (fun vs H Q E h => ?_) (fun cdv A outer s H vs Q E hr h => ?_)
  · obtain ⟨b, l, rfl, _⟩ := h
    rfl
  · obtain ⟨b, l, rfl, hb, q⟩ := h
    obtain ⟨t1, h1⟩ := C.moc
    refine ⟨_, pss_cons (ps_if (PW.pt (pw_or (pt_cmpR op_lt (pe_callB call_len_seq (by rfl) ml boot_len (pa_cons (pv 0) pa_nil)) pe_int (nomark _)) (pw_or1 (pt_cmpR op_gt (pe_callB call_len_seq (by rfl) ml boot_len (pa_cons (pv 0) pa_nil)) (pe_num h1) (nomark _)))))
        (pss_one (ps_ret pe_bl)) pss_nil)
      (pss_one (ps_ret (pe_callB (cr_all rfl) (by rfl) mal boot_all (pa_cons
        (by exact pe_lc (own := [("colour", 1)]) (g := gName 1) (tt := tYes) rfl scPlt.nd (pi_list (pv 0)) (blkOk_by (N := ["palette", "colour"]) (sc := defScope sPlt) (by decide +kernel))
              (fun _ _ _ _ _ => pg_name (i := 1) scPlt.nd rfl (Or.inl rfl)) (fun _ _ _ _ _ => pts_nil) (fun _ _ _ _ _ => by exact C8.pe_c cL hr (by decide) (by rfl) (pa_cons (pv 1) pa_nil))) pa_nil)))), ?_⟩
    have no : (l.length < 1 ∨ 12 < l.length) → Q (.bl false) H := fun c => by
      have e : palOk l = false := by
        unfold palOk
        rcases c with c | c
        · rw [decide_eq_false (by omega)]; rfl
        · rw [decide_eq_false (p := l.length ≤ 12) (by omega), Bool.and_false]; rfl
      rw [← e]
      exact q H (Same.refl _)
    have hlen : (l.map V.int).length = l.length := List.length_map _
    refine ⟨.ref b, rfl, b, _, rfl, .inl hb, _, _, rfl, rfl, _, rfl, ite2 (fun c => ?_) (fun c => ?_)⟩
    · have c := of_decide_eq_true c
      exact iteT (no (.inl (by omega)))
    · have c : ¬ ((l.map V.int).length : Int) < 1 := fun z => c (decide_eq_true z)
      refine ⟨.ref b, rfl, b, _, rfl, .inl hb, _, _, rfl, rfl, _, rfl, ite2 (fun d => ?_) (fun d => ?_)⟩
      · have d := of_decide_eq_true d
        exact no (.inr (by omega))
      · have d : ¬ (12 : Int) < ((l.map V.int).length : Int) := fun z => d (decide_eq_true z)
        have e : palOk l = l.all isLevel := by
          unfold palOk
          rw [decide_eq_true (by omega), decide_eq_true (by omega)]; rfl
        refine ⟨.ref b, rfl, b, rfl, ⟨_, hb⟩, fun D nD => ?_⟩
        refine lc_list (K := K) (a := b) (xs := l.map V.int) (fun i H' => Same H H' ∧ H' D = some (.lst ((l.take i).map fun z => V.bl (isLevel z)))) ?_ ?_ ?_ ?_
        · exact ⟨Same.up nD, upd_same⟩
        · exact fun i H' _ h => h.1.seq hb
        · rintro i x H' hx ⟨sm, hD⟩
          obtain ⟨z, hz, rfl⟩ : ∃ z, l[i]? = some z ∧ x = V.int z := by
            rw [List.getElem?_map] at hx
            cases e : l[i]? with
            | none => rw [e] at hx; cases hx
            | some z => rw [e] at hx; exact ⟨z, rfl, (Option.some.inj hx).symm⟩
          refine ⟨rfl, _, rfl, z, rfl, _, hD, ?_, sm.mut nD, ?_⟩
          · rw [List.length_map, List.length_take]
            exact small1000 (by omega)
          · rw [upd_same, List.take_add_one, hz, List.map_append]; rfl
        · rintro H' ⟨sm, hD⟩
          rw [hlen, List.take_length] at hD
          refine ⟨D, l.map isLevel, rfl, ?_, ?_⟩
          · rw [List.map_map]
            exact SqL.of hD
          · rw [all_id, ← e]
            exact q H' sm
end
end Fs

set_option Elab.async false
set_option linter.all false
set_option maxRecDepth 100000
set_option maxHeartbeats 4000000
namespace Fs
open PySem PySem.Spec PyProof.Rows L2
open Sr110 (Shade Picture Call perform isLevel isCount isShade isColourCount shadeAt insertShade)
abbrev sAdd : Stmt := top 30
abbrev sRem : Stmt := top 31
abbrev sSet : Stmt := top 32
abbrev nAdd : List Str := ["shades", "level", "count", "levels", "index", "shade", "darker"]
theorem scAdd : FnScope nAdd ["shades", "level", "count"] (defScope sAdd) := ⟨rfl, rfl, rfl, by decide +kernel, rfl, by decide +kernel, by decide +kernel⟩
theorem scRem : FnScope ["shades", "i"] ["shades", "i"] (defScope sRem) := ⟨rfl, rfl, rfl, by decide +kernel, rfl, by decide +kernel, by decide +kernel⟩
theorem scSet : FnScope ["shades", "i", "count", "shade"] ["shades", "i", "count"] (defScope sSet) := ⟨rfl, rfl, rfl, by decide +kernel, rfl, by decide +kernel, by decide +kernel⟩
/-- the levels of shades -/
def lvV (p : Picture) : List V := p.map fun s => V.int (s.level : Int)
theorem inV_lv (p : Picture) (l : Nat) : inV (.int (l : Int)) (lvV p) = p.any (fun s => s.level == l) := by
  unfold inV lvV
  rw [List.any_map]
  congr 1
  funext s
  show ((s.level : Int) == (l : Int)) = (s.level == l)
  rw [Bool.beq_eq_decide_eq, Bool.beq_eq_decide_eq]
  exact decide_eq_decide.mpr (by omega)
theorem flat_lv (p : Picture) : (lvV p).all flatV = true := by
  unfold lvV
  rw [List.all_map, List.all_eq_true]
  intro s _
  rfl
theorem lvV_get {p : Picture} {i : Nat} {x : V} (h : (lvV p)[i]? = some x) : ∃ s, p[i]? = some s ∧ x = .int (s.level : Int) := by
  unfold lvV at h
  rw [List.getElem?_map] at h
  cases e : p[i]? with
  | none => rw [e] at h; cases h
  | some s => rw [e] at h; exact ⟨s, rfl, (Option.some.inj h).symm⟩
theorem below_take_succ {p : Picture} {i l : Nat} {s : Shade} (h : p[i]? = some s) : below (p.take (i + 1)) l = if s.level < l then below (p.take i) l + 1 else below (p.take i) l := by
  unfold below
  rw [List.take_add_one, h, List.filter_append, List.length_append]
  by_cases c : s.level < l
  · simp [c]
  · simp [c]
theorem level_nat {z : Int} (h : isLevel z = true) : ∃ n : Nat, z = (n : Int) ∧ n ≤ 255 := by
  unfold isLevel SrCommon.inRange at h
  rw [Bool.and_eq_true, decide_eq_true_eq, decide_eq_true_eq] at h
  exact ⟨z.toNat, by omega, by omega⟩
theorem count_nat {z : Int} (h : isCount z = true) : ∃ n : Nat, z = (n : Int) ∧ 1 ≤ n ∧ n ≤ 999 := by
  unfold isCount SrCommon.inRange at h
  rw [Bool.and_eq_true, decide_eq_true_eq, decide_eq_true_eq] at h
  exact ⟨z.toNat, by omega, by omega, by omega⟩
theorem shade_nat {p : Picture} {z : Int} (h : isShade p z = true) : ∃ n : Nat, z = (n : Int) ∧ n < p.length := by
  unfold isShade SrCommon.isIndex at h
  rw [Bool.and_eq_true, decide_eq_true_eq, decide_eq_true_eq] at h
  exact ⟨z.toNat, by omega, by omega⟩
theorem Shs.up2 {H : Hp} {a r : Addr} {xs : List V} {o o' : HO} (hA : H a = some (.lst xs)) (hr : H r = none) : ∀ {us : List V} {p : Picture}, Shs H us p → Shs (upd (upd H a o) r o') us p
  | [], [], _ => trivial
  | u :: us, s :: p, ⟨⟨b, e1, e2⟩, e3⟩ => ⟨⟨b, e1, by rw [upd_ne (ne_of_none e2 hr), upd_ne (ne_of e2 hA (fun z => nomatch z))]; exact e2⟩, Shs.up2 hA hr e3⟩
section
variable {P : Program} {w : World} {K : PySem.W.Frag} {mg : Str → Option Value} {base : Heap}
/-- an operation that refuses -/
theorem Done.refuse {H : Hp} {a r : Addr} {p : Picture} {c : Call} {z : Int} (hp : PicM H a p) (hn : H r = none) (hc : perform p c = (none, .ofCode z)) : Done H a p c (upd H r (.lst [.int z])) r := by
  refine Done.query hp (Same.up hn) hn ?_ ?_
  · unfold newP
    rw [hc]; rfl
  · unfold rowP
    rw [hc, upd_same]; rfl
theorem add_out {p : Picture} {x y : Int} (h : isLevel x = false ∨ isCount y = false) : perform p (.addShade x y) = (none, .ofCode (-22)) := by
  show (if isLevel x = false ∨ isCount y = false then _ else _) = _
  rw [if_pos h]; rfl
theorem add_dup {p : Picture} {x y : Int} (h1 : isLevel x = true) (h2 : isCount y = true) (h : p.any (fun s => s.level == x.toNat) = true) : perform p (.addShade x y) = (none, .ofCode (-17)) := by
  show (if isLevel x = false ∨ isCount y = false then _ else _) = _
  rw [if_neg (by rw [h1, h2]; simp), if_pos h]; rfl
theorem add_full {p : Picture} {x y : Int} (h1 : isLevel x = true) (h2 : isCount y = true) (h : p.any (fun s => s.level == x.toNat) = false) (h3 : 12 ≤ p.length) : perform p (.addShade x y) = (none, .ofCode (-28)) := by
  show (if isLevel x = false ∨ isCount y = false then _ else _) = _
  rw [if_neg (by rw [h1, h2]; simp), if_neg (by rw [h]; exact Bool.noConfusion), if_pos (show Sr110.maxShades ≤ p.length from h3)]; rfl
theorem add_ok {p : Picture} {x y : Int} (h1 : isLevel x = true) (h2 : isCount y = true) (h : p.any (fun s => s.level == x.toNat) = false) (h3 : ¬ 12 ≤ p.length) :
    perform p (.addShade x y) = (some (insertShade ⟨x.toNat, y.toNat⟩ p), .ofCode ((below p x.toNat : Nat) : Int)) := by
  show (if isLevel x = false ∨ isCount y = false then _ else _) = _
  rw [if_neg (by rw [h1, h2]; simp), if_neg (by rw [h]; exact Bool.noConfusion), if_neg (show ¬ Sr110.maxShades ≤ p.length from h3)]; rfl
theorem ok_add {f : Addr} {fd : FuncData} {k : Nat} (F : Fun K "add_shade" "add_shade" sAdd f fd) (cL : Cal P w K mg base 1 "is_brightness" spLev []) (cC : Cal P w K mg base 1 "is_count" spCnt [])
    (C : Con mg) (ml : mg "len" = none) : FnOk P w K mg base CX0 (k + 2) f fd ["shades", "level", "count"] (spOp2 .addShade) := by
  refine F.ok scAdd (fun vs H Q E h => ?_) (fun cdv A outer s H vs Q E hr h => ?_)
  · obtain ⟨a, p, x, y, rfl, _⟩ := h
    rfl
  · obtain ⟨a, p, x, y, rfl, hP, hG, q⟩ := h
    obtain ⟨t1, h1⟩ := C.oor
    obtain ⟨t2, h2⟩ := C.tak
    obtain ⟨t3, h3⟩ := C.mos
    obtain ⟨t4, h4⟩ := C.many
    refine ⟨_, pss_cons (ps_if (PW.pt (pw_or (pt_not (pt_val (C8.pe_c cL hr (by omega) (by rfl) (pa_cons (pv 1) pa_nil)))) (pw_or1 (pt_not (pt_val (C8.pe_c cC hr (by omega) (by rfl) (pa_cons (pv 2) pa_nil)))))))
        (pss_one (ps_ret (pe_lst (pa_cons (pe_num h1) pa_nil)))) pss_nil)
      (pss_cons (ps_setLc (i := 3) (own := [("shade", 5)]) (g := gName 5) (tt := tYes) (te := tOp (rIxT K) (tVar 5) (tC (.int 0))) rfl scAdd.nd rfl rfl (sw_true rfl rfl rfl (by decide +kernel)) (pi_list (pv 0)) (blkOk_by (N := nAdd) (sc := defScope sAdd) (by decide +kernel))
        (fun _ _ _ _ _ => pg_name (i := 5) scAdd.nd rfl (Or.inl rfl)) (fun _ _ _ _ _ => pts_nil) (fun _ _ _ _ _ => pe_ix ix_tup (pv 5) pe_int (fun _ _ => rfl)))
      (pss_cons (ps_if (pt_cmpR op_in_seq (pv 1) (pv 3) (by rfl)) (pss_one (ps_ret (pe_lst (pa_cons (pe_num h2) pa_nil)))) pss_nil)
      (pss_cons (ps_if (pt_cmpR op_ge (pe_callB call_len_seq (by rfl) ml boot_len (pa_cons (pv 0) pa_nil)) (pe_num h3) (nomark _)) (pss_one (ps_ret (pe_lst (pa_cons (pe_num h4) pa_nil)))) pss_nil)
      (pss_cons (ps_set (i := 4) scAdd.nd rfl (Or.inl rfl) (pe_callB call_len_seq (by rfl) ml boot_len (pa_cons
        (by exact pe_lc (own := [("darker", 6)]) (g := gName 6) rfl scAdd.nd (pi_list (pv 3)) (blkOk_by (N := nAdd) (sc := defScope sAdd) (by decide +kernel))
              (fun _ _ _ _ _ => pg_name (i := 6) scAdd.nd rfl (Or.inl rfl)) (fun _ _ _ _ _ => pts_one (pt_cmpR op_lt (pv 6) (pv 1) (nomark _))) (fun _ _ _ _ _ => pv 6)) pa_nil)))
      (pss_cons (ps_expr (pe_bm PySem.F.plainAttrs_list PySem.F.slot_list_insert PySem.F.type_list_insert mt_insert (pv 0) (pa_cons (pv 4) (pa_cons (pe_tup (pa_cons (pv 1) (pa_cons (pv 2) pa_nil))) pa_nil))))
      (pss_one (ps_ret (pe_lst (pa_cons (pv 4) pa_nil))))))))), ?_⟩
    have hP0 := hP
    obtain ⟨ts, hA, hT⟩ := hP
    have bad : (isLevel x = false ∨ isCount y = false) → ∀ r, H r = none → Q (.ref r) (upd H r (.lst [.int (-22)])) := fun c r nr => q _ r (Done.refuse hP0 nr (add_out c))
    refine ⟨_, rfl, x, rfl, isLevel x, rfl, ?_⟩
    cases hx : isLevel x with
    | false => exact iteT ⟨by show 1 ≤ sizeLine; decide, fun r nr => bad (.inl hx) r nr⟩
    | true =>
    refine ⟨_, rfl, y, rfl, isCount y, rfl, ?_⟩
    cases hy : isCount y with
    | false => exact ⟨by show 1 ≤ sizeLine; decide, fun r nr => bad (.inr hy) r nr⟩
    | true =>
    obtain ⟨l, rfl, hl⟩ := level_nat hx
    obtain ⟨n, rfl, hn⟩ := count_nat hy
    -- levels = [shade[0] for shade in shades]
    refine ⟨.ref a, rfl, a, rfl, ⟨_, SqL.of hA⟩, fun D nD => ?_⟩
    refine lc_list (K := K) (a := a) (xs := ts) (Made H D (fun s => (s.level : Int)) p) ?_ ?_ ?_ ?_
    · exact ⟨Same.up nD, upd_same⟩
    · exact fun i H' _ h => SqL.of (h.1 _ _ hA)
    · rintro i v H' hv ⟨sm, hD⟩
      obtain ⟨s0, b, hs, rfl, hb⟩ := hT.get2 hv
      refine ⟨rfl, .ref b, rfl, b, _, 0, _, rfl, rfl, SqT.of (sm _ _ hb), atI_0, _, hD, ?_, sm.mut nD, ?_⟩
      · rw [List.length_map, List.length_take]
        exact small1000 (by have := hG.len; omega)
      · rw [upd_same, take_succ_map hs]
    · rintro H1 ⟨s1, hD⟩
      rw [hT.length, List.take_length] at hD
      have hD : H1 D = some (.lst (lvV p)) := hD
      refine ⟨_, rfl, .ref D, rfl, D, lvV p, rfl, .inl (SqL.of hD), rfl, flat_lv p, inV (.int (l : Int)) (lvV p), rfl, ?_⟩
      have hP1 : PicM H1 a p := hP0.mono s1
      have lift : ∀ z : Int, perform p (.addShade (l : Int) (n : Int)) = (none, .ofCode z) → ∀ r, H1 r = none → Q (.ref r) (upd H1 r (.lst [.int z])) := fun z hz r nr => by
        refine q _ r (Done.query hP0 (s1.trans (Same.up nr)) (s1.free nr) ?_ ?_)
        · unfold newP
          rw [hz]; rfl
        · unfold rowP
          rw [hz, upd_same]; rfl
      rw [inV_lv]
      cases hdup : p.any (fun s => s.level == l) with
      | true => exact iteT ⟨by show 1 ≤ sizeLine; decide, fun r nr => lift (-17) (add_dup hx hy (by simpa using hdup)) r nr⟩
      | false =>
      refine iteF ?_
      refine ⟨.ref a, rfl, a, ts, rfl, .inl (SqL.of (s1 _ _ hA)), _, _, rfl, rfl, _, rfl, ite2 (fun c => ?_) (fun c => ?_)⟩
      · have c := of_decide_eq_true c
        exact ⟨by show 1 ≤ sizeLine; decide, fun r nr => lift (-28) (add_full hx hy (by simpa using hdup) (by rw [← hT.length]; omega)) r nr⟩
      · have c : ¬ (12 : Int) ≤ (ts.length : Int) := fun z => c (decide_eq_true z)
        have hlen : p.length < 12 := by rw [← hT.length]; omega
        -- index = len([..])
        refine ⟨.ref D, rfl, D, rfl, ⟨_, SqL.of hD⟩, fun G nG => ?_⟩
        refine lc_list (K := K) (a := D) (xs := lvV p) (fun i H' => Same H1 H' ∧ ∃ ys, H' G = some (.lst ys) ∧ ys.length = below (p.take i) l) ?_ ?_ ?_ ?_
        · exact ⟨Same.up nG, [], upd_same, rfl⟩
        · exact fun i H' _ h => SqL.of (h.1 _ _ hD)
        · rintro i v H' hv ⟨sm, ys, hGy, hyl⟩
          obtain ⟨s0, hs, rfl⟩ := lvV_get hv
          refine ⟨rfl, _, rfl, _, rfl, _, _, rfl, rfl, _, rfl, ite2 (fun c2 => ?_) (fun c2 => ?_)⟩
          · have c2 := of_decide_eq_true c2
            refine ⟨_, rfl, ys, hGy, ?_, sm.mut nG, _, upd_same, ?_⟩
            · have := below_le (p.take i) l
              rw [List.length_take] at this
              exact small1000 (by omega)
            · rw [List.length_append, below_take_succ hs, if_pos (by omega), hyl]; rfl
          · have c2 : ¬ (s0.level : Int) < (l : Int) := fun z => c2 (decide_eq_true z)
            exact ⟨sm, ys, hGy, by rw [below_take_succ hs, if_neg (by omega), hyl]⟩
        · rintro H2 ⟨s2, ys, hGy, hyl⟩
          have hll : (lvV p).length = p.length := by unfold lvV; rw [List.length_map]
          rw [hll, List.take_length] at hyl
          refine ⟨G, ys, rfl, .inl (SqL.of hGy), ?_⟩
          have s12 := s1.trans s2
          have hA2 : H2 a = some (.lst ts) := s12 _ _ hA
          -- shades.insert(index, (level, count))
          refine ⟨.ref a, rfl, .inl ⟨rfl, _, SqL.of hA2⟩, _, rfl, _, rfl, _, rfl, by show 2 ≤ sizeLine; decide, fun t nt => ?_⟩
          have s3 := Same.up (o := .tup [V.int (l : Int), V.int (n : Int)]) nt
          have hta : t ≠ a := (ne_of_none hA2 nt).symm
          have hbl := below_le p l
          refine ⟨a, ts, (ys.length : Int), .ref t, rfl, rfl, s3 _ _ hA2, small1000 (by rw [hT.length]; omega), by omega, by omega, ?_⟩
          refine ⟨_, rfl, by show 1 ≤ sizeLine; decide, fun r nr => ?_⟩
          have hT3 : Shs (upd H2 t (.tup [V.int (l : Int), V.int (n : Int)])) ts p := hT.mono (s12.trans s3)
          have hra : r ≠ a := by
            intro z
            rw [z, upd_same] at nr
            cases nr
          have hperf := add_ok (p := p) (x := (l : Int)) (y := (n : Int)) hx hy (by simpa using hdup) (by omega)
          have nr2 : (upd H2 t (.tup [V.int (l : Int), V.int (n : Int)])) r = none := by
            rw [upd_ne hra] at nr
            exact nr
          refine q _ r ⟨?_, ?_, ?_, hra, (s12.trans s3).free nr2⟩
          · unfold rowP
            rw [hperf, upd_same, hyl]
            rfl
          · unfold newP
            rw [hperf]
            show PicM _ a (insertShade ⟨l, n⟩ p)
            refine ⟨_, by rw [upd_ne hra.symm]; exact upd_same, ?_⟩
            have hins := insert_at (s := ⟨l, n⟩) hG.asc (fun u hu => by
              have h5 := List.any_eq_false.mp hdup u hu
              simpa using h5)
            rw [hins, show ((ys.length : Int)).toNat = below p l by omega]
            refine Shs.up2 (s3 _ _ hA2) nr2 ?_
            have hone : Shs (upd H2 t (.tup [V.int (l : Int), V.int (n : Int)])) [.ref t] [⟨l, n⟩] := ⟨⟨t, rfl, upd_same⟩, trivial⟩
            exact ((hT3.take _).append hone).append (hT3.drop _)
          · intro b o hb h0
            rw [upd_ne (ne_of_none ((s12.trans s3) _ _ h0) nr2), upd_ne hb]
            exact (s12.trans s3) _ _ h0
theorem ok_rem {f : Addr} {fd : FuncData} {k : Nat} (F : Fun K "remove_shade" "remove_shade" sRem f fd) (cH : Cal P w K mg base 1 "has_shade" spHas [])
    (C : Con mg) (ml : mg "len" = none) : FnOk P w K mg base CX0 (k + 2) f fd ["shades", "i"] (spOp1 .removeShade) := by
  refine F.ok scRem (fun vs H Q E h => ?_) (fun cdv A outer s H vs Q E hr h => ?_)
  · obtain ⟨a, p, x, rfl, _⟩ := h
    rfl
  · obtain ⟨a, p, x, rfl, hP, hG, q⟩ := h
    obtain ⟨t1, h1⟩ := C.nos
    refine ⟨_, pss_cons (ps_if (pt_not (pt_val (C8.pe_c cH hr (by omega) (by rfl) (pa_cons (pv 0) (pa_cons (pv 1) pa_nil)))))
        (pss_one (ps_ret (pe_lst (pa_cons (pe_num h1) pa_nil)))) pss_nil)
      (pss_cons (ps_expr (pe_bm PySem.F.plainAttrs_list PySem.F.slot_list_pop PySem.F.type_list_pop mt_popAt (pv 0) (pa_cons (pv 1) pa_nil)))
      (pss_one (ps_ret (pe_lst (pa_cons (pe_callB call_len_seq (by rfl) ml boot_len (pa_cons (pv 0) pa_nil)) pa_nil))))), ?_⟩
    have hP0 := hP
    obtain ⟨ts, hA, hT⟩ := hP
    refine ⟨_, rfl, _, rfl, a, p, x, rfl, hP0, _, rfl, ?_⟩
    cases hx : isShade p x with
    | false =>
      refine iteT ⟨by show 1 ≤ sizeLine; decide, fun r nr => q _ r (Done.refuse hP0 nr ?_)⟩
      show (if isShade p x = false then _ else _) = _
      rw [if_pos hx]; rfl
    | true =>
      obtain ⟨i, rfl, hi⟩ := shade_nat hx
      have hi' : i < ts.length := by rw [hT.length]; exact hi
      have h12 := hG.len
      have hix : seqIndex? (i : Int) ts.length = some i := (ixN_seq (n := ts.length) (i := (i : Int)) (j := i) (by unfold ixN; rw [if_pos (by omega), if_pos (by omega)]; simp)).1
      refine ⟨.ref a, rfl, .inl ⟨rfl, _, SqL.of hA⟩, _, rfl, a, ts, (i : Int), i, _, rfl, rfl, hA, by omega, by omega, hix, List.getElem?_eq_getElem hi', ?_⟩
      refine ⟨.ref a, rfl, a, _, rfl, .inl (SqL.of upd_same), by show 1 ≤ sizeLine; decide, fun r nr => ?_⟩
      have hra : r ≠ a := by
        intro z
        rw [z, upd_same] at nr
        cases nr
      have nr2 : H r = none := by rw [upd_ne hra] at nr; exact nr
      have hperf : perform p (.removeShade (i : Int)) = (some (p.eraseIdx i), .ofCode ((p.length - 1 : Nat) : Int)) := by
        show (if isShade p (i : Int) = false then _ else _) = _
        rw [if_neg (by rw [hx]; exact Bool.noConfusion)]; rfl
      refine q _ r ⟨?_, ?_, fun b o hb h0 => ?_, hra, nr2⟩
      · unfold rowP
        rw [hperf, upd_same]
        have : (ts.eraseIdx i).length = p.length - 1 := by rw [List.length_eraseIdx_of_lt hi', hT.length]
        rw [this]; rfl
      · unfold newP
        rw [hperf]
        refine ⟨_, by rw [upd_ne hra.symm]; exact upd_same, ?_⟩
        exact Shs.up2 hA nr2 (hT.erase i)
      · rw [upd_ne (ne_of_none h0 nr2), upd_ne hb]
        exact h0
theorem ok_set {f : Addr} {fd : FuncData} {k : Nat} (F : Fun K "set_count" "set_count" sSet f fd) (cH : Cal P w K mg base 1 "has_shade" spHas []) (cC : Cal P w K mg base 1 "is_count" spCnt [])
    (C : Con mg) : FnOk P w K mg base CX0 (k + 2) f fd ["shades", "i", "count"] (spOp2 .setCount) := by
  refine F.ok scSet (fun vs H Q E h => ?_) (fun cdv A outer s H vs Q E hr h => ?_)
  · obtain ⟨a, p, x, y, rfl, _⟩ := h
    rfl
  · obtain ⟨a, p, x, y, rfl, hP, hG, q⟩ := h
    obtain ⟨t1, h1⟩ := C.nos
    obtain ⟨t2, h2⟩ := C.oor
    refine ⟨_, pss_cons (ps_if (pt_not (pt_val (C8.pe_c cH hr (by omega) (by rfl) (pa_cons (pv 0) (pa_cons (pv 1) pa_nil)))))
        (pss_one (ps_ret (pe_lst (pa_cons (pe_num h1) pa_nil)))) pss_nil)
      (pss_cons (ps_if (pt_not (pt_val (C8.pe_c cC hr (by omega) (by rfl) (pa_cons (pv 2) pa_nil))))
        (pss_one (ps_ret (pe_lst (pa_cons (pe_num h2) pa_nil)))) pss_nil)
      (pss_cons (ps_set (i := 3) scSet.nd rfl (Or.inl rfl) (pe_ix ix_list (pv 0) (pv 1) (fun _ _ => rfl)))
      (pss_cons (ps_asg (pe_tup (pa_cons (pe_ix ix_tup (pv 3) pe_int (fun _ _ => rfl)) (pa_cons (pv 2) pa_nil))) (pg_sub (pv 0) (pv 1) set_list))
      (pss_one (ps_ret (pe_lst (pa_cons (pe_ix ix_tup (pv 3) pe_int (fun _ _ => rfl)) pa_nil))))))), ?_⟩
    have hP0 := hP
    obtain ⟨ts, hA, hT⟩ := hP
    refine ⟨_, rfl, _, rfl, a, p, x, rfl, hP0, _, rfl, ?_⟩
    cases hx : isShade p x with
    | false =>
      refine iteT ⟨by show 1 ≤ sizeLine; decide, fun r nr => q _ r (Done.refuse hP0 nr ?_)⟩
      show (if isShade p x = false then _ else _) = _
      rw [if_pos hx]; rfl
    | true =>
      refine ⟨_, rfl, y, rfl, _, rfl, ?_⟩
      cases hy : isCount y with
      | false =>
        refine iteT ⟨by show 1 ≤ sizeLine; decide, fun r nr => q _ r (Done.refuse hP0 nr ?_)⟩
        show (if isShade p x = false then _ else if isCount y = false then _ else _) = _
        rw [if_neg (by rw [hx]; exact Bool.noConfusion), if_pos hy]; rfl
      | true =>
        obtain ⟨i, rfl, hi⟩ := shade_nat hx
        obtain ⟨n, rfl, hn⟩ := count_nat hy
        have hi' : i < ts.length := by rw [hT.length]; exact hi
        obtain ⟨b, hb1, hb2⟩ := hT.get (List.getElem?_eq_getElem hi)
        refine ⟨.ref a, rfl, _, rfl, a, ts, (i : Int), .ref b, rfl, rfl, SqL.of hA, atI_nat hb1, ?_⟩
        refine ⟨.ref b, rfl, b, _, 0, _, rfl, rfl, SqT.of hb2, atI_0, _, rfl, by show 2 ≤ sizeLine; decide, fun t nt => ?_⟩
        have s1 := Same.up (o := .tup [V.int ((p[i]).level : Int), V.int (n : Int)]) nt
        have hta : t ≠ a := (ne_of_none hA nt).symm
        refine ⟨.ref a, rfl, _, rfl, a, ts, (i : Int), i, rfl, rfl, s1 _ _ hA, by unfold ixN; rw [if_pos (by omega), if_pos (by omega)]; simp, ?_⟩
        have hba : b ≠ a := ne_of hb2 hA (fun z => nomatch z)
        have hb3 : (upd (upd H t (.tup [V.int ((p[i]).level : Int), V.int (n : Int)])) a (.lst (ts.set i (.ref t)))) b = some (shO (p[i])) := by
          rw [upd_ne hba]
          exact s1 _ _ hb2
        refine ⟨.ref b, rfl, b, _, 1, _, rfl, rfl, SqT.of hb3, atI_1, by show 1 ≤ sizeLine; decide, fun r nr => ?_⟩
        have hra : r ≠ a := by
          intro z
          rw [z, upd_same] at nr
          cases nr
        have nr2 : (upd H t (.tup [V.int ((p[i]).level : Int), V.int (n : Int)])) r = none := by rw [upd_ne hra] at nr; exact nr
        have hat : shadeAt p i = p[i] := by simp [shadeAt, hi]
        have hperf : perform p (.setCount (i : Int) (n : Int)) = (some (p.set i { shadeAt p i with count := n }), .ofCode (((shadeAt p i).count : Nat) : Int)) := by
          show (if isShade p (i : Int) = false then _ else if isCount (n : Int) = false then _ else _) = _
          rw [if_neg (by rw [hx]; exact Bool.noConfusion), if_neg (by rw [hy]; exact Bool.noConfusion)]; rfl
        refine q _ r ⟨?_, ?_, fun b' o hb' h0 => ?_, hra, s1.free nr2⟩
        · unfold rowP
          rw [hperf, upd_same, hat]; rfl
        · unfold newP
          rw [hperf]
          refine ⟨_, by rw [upd_ne hra.symm]; exact upd_same, ?_⟩
          have hS : Shs (upd H t (.tup [V.int ((p[i]).level : Int), V.int (n : Int)])) (ts.set i (.ref t)) (p.set i { shadeAt p i with count := n }) := (hT.mono s1).set (s := { shadeAt p i with count := n }) (by rw [hat]; exact upd_same) i
          exact Shs.up2 (s1 _ _ hA) nr2 hS
        · rw [upd_ne (ne_of_none (s1 _ _ h0) nr2), upd_ne hb']
          exact s1 _ _ h0
end
end Fs

set_option Elab.async false
set_option linter.all false
set_option maxRecDepth 100000
set_option maxHeartbeats 4000000
namespace Fs
open PySem PySem.Spec PyProof.Rows L2
open Sr110 (Shade Picture Call Group perform isLevel isCount isShade isColourCount shadeAt groupError groupsResult bestGroups tileCount)
abbrev sMin : Stmt := top 33
abbrev sPal : Stmt := top 34
abbrev sGrp : Stmt := top 35
abbrev sCol : Stmt := top 36
abbrev nMin : List Str := ["shades", "k", "fault"]
abbrev nPal : List Str := ["shades", "k", "fault", "colours", "group"]
abbrev nGrp : List Str := ["shades", "k", "fault", "groups", "answer", "group"]
abbrev nCol : List Str := ["shades", "i", "k", "fault", "colours", "group"]
theorem scMin : FnScope nMin ["shades", "k"] (defScope sMin) := ⟨rfl, rfl, rfl, by decide +kernel, rfl, by decide +kernel, by decide +kernel⟩
theorem scPal : FnScope nPal ["shades", "k"] (defScope sPal) := ⟨rfl, rfl, rfl, by decide +kernel, rfl, by decide +kernel, by decide +kernel⟩
theorem scGrp : FnScope nGrp ["shades", "k"] (defScope sGrp) := ⟨rfl, rfl, rfl, by decide +kernel, rfl, by decide +kernel, by decide +kernel⟩
theorem scCol : FnScope nCol ["shades", "i", "k"] (defScope sCol) := ⟨rfl, rfl, rfl, by decide +kernel, rfl, by decide +kernel, by decide +kernel⟩
/-! ### refused, or a number of colours with a division -/
theorem fault_cases (p : Picture) (z : Int) : faultOf p z < 0 ∨ (faultOf p z = 0 ∧ ∃ k e : Nat, z = (k : Int) ∧ k ≤ 12 ∧ T p k 0 = some e) := by
  unfold faultOf
  cases h : isColourCount z with
  | false => exact .inl (by rw [if_pos rfl]; decide)
  | true =>
    rw [if_neg Bool.noConfusion]
    by_cases c : z = 0 ∧ 0 < p.length
    · exact .inl (by rw [if_pos c]; decide)
    · rw [if_neg c]
      obtain ⟨h1, h2⟩ := colours_in.mp h
      refine .inr ⟨rfl, ?_⟩
      cases hk : z.toNat with
      | zero =>
        have hp : p.length = 0 := by omega
        exact ⟨0, 0, by omega, by omega, by rw [T_zero (Nat.zero_le _), if_pos (by omega)]⟩
      | succ k =>
        obtain ⟨e, he⟩ := T_some (p := p) (k := k) (i := 0) (Nat.zero_le _)
        exact ⟨k + 1, e, by omega, by omega, he⟩
theorem gr_fault {p : Picture} {z : Int} {f : List Group → SrCommon.Result} (h : faultOf p z < 0) : groupsResult p z f = .ofCode (faultOf p z) := by
  unfold groupsResult
  unfold faultOf at h ⊢
  cases hc : isColourCount z with
  | false => rw [if_pos rfl, if_pos rfl]; rfl
  | true =>
    rw [hc, if_neg Bool.noConfusion] at h
    rw [if_neg Bool.noConfusion, if_neg Bool.noConfusion]
    by_cases c : z = 0 ∧ 0 < p.length
    · rw [if_pos c]
      have e : Sr110.minError p z.toNat = none := by
        rw [c.1, show (0 : Int).toNat = 0 from rfl, minError_zero, if_neg (by omega)]
      rw [e]; rfl
    · rw [if_neg c] at h
      exact absurd h (by decide)
theorem gr_ok {p : Picture} {k e : Nat} {f : List Group → SrCommon.Result} (hk : k ≤ 12) (h : T p k 0 = some e) : groupsResult p (k : Int) f = f (bestGroups p k) := by
  unfold groupsResult
  rw [if_neg (by rw [colours_in.mpr ⟨by omega, by omega⟩]; exact Bool.noConfusion)]
  have e2 : Sr110.minError p (k : Int).toNat = some e := h
  rw [e2]; rfl
theorem min_fault {p : Picture} {z : Int} (h : faultOf p z < 0) : perform p (.minError z) = (none, .ofCode (faultOf p z)) := by
  have q := gr_fault (f := fun _ => .ofCode 0) h
  unfold groupsResult at q
  show (none, if isColourCount z = false then _ else _) = _
  congr 1
  cases hc : isColourCount z with
  | false => rw [hc] at q; exact q
  | true =>
    rw [hc, if_neg Bool.noConfusion] at q
    rw [if_neg Bool.noConfusion]
    cases hm : Sr110.minError p z.toNat with
    | none => rw [hm] at q; exact q
    | some e =>
      rw [hm] at q
      have q' : SrCommon.Result.ofCode 0 = SrCommon.Result.ofCode (faultOf p z) := q
      have : (0 : Int) = faultOf p z := congrArg SrCommon.Result.code q'
      omega
theorem min_ok {p : Picture} {k e : Nat} (hk : k ≤ 12) (h : T p k 0 = some e) : perform p (.minError (k : Int)) = (none, .ofCode (e : Int)) := by
  show (none, if isColourCount (k : Int) = false then _ else _) = _
  rw [if_neg (by rw [colours_in.mpr ⟨by omega, by omega⟩]; exact Bool.noConfusion)]
  have e2 : Sr110.minError p (k : Int).toNat = some e := h
  rw [e2]; rfl
section
variable {P : Program} {w : World} {K : PySem.W.Frag} {mg : Str → Option Value} {base : Heap}
theorem Done.lift {H H1 : Hp} {a r : Addr} {p : Picture} {c : Call} {res : SrCommon.Result} (hp : PicM H a p) (s : Same H H1) (hn : H1 r = none) (hc : perform p c = (none, res)) : Done H a p c (upd H1 r (.lst ((res.code :: res.values).map V.int))) r := by
  refine Done.query hp (s.trans (Same.up hn)) (s.free hn) ?_ ?_
  · unfold newP
    rw [hc]; rfl
  · unfold rowP
    rw [hc, upd_same]
theorem ok_min {f : Addr} {fd : FuncData} (F : Fun K "min_error" "min_error" sMin f fd) (cF : Cal P w K mg base 1 "colours_fault" spFlt []) (cN : Cal P w K mg base 7 "minimum_error" (spMinE K) []) :
    FnOk P w K mg base CX0 8 f fd ["shades", "k"] (spOp1 .minError) := by
  refine F.ok scMin (fun vs H Q E h => ?_) (fun cdv A outer s H vs Q E hr h => ?_)
  · obtain ⟨a, p, x, rfl, _⟩ := h
    rfl
  · obtain ⟨a, p, z, rfl, hP, hG, q⟩ := h
    refine ⟨_, pss_cons (ps_set (i := 2) scMin.nd rfl (Or.inl rfl) (C8.pe_c cF hr (by decide) (by rfl) (pa_cons (pv 0) (pa_cons (pv 1) pa_nil))))
      (pss_cons (ps_if (pt_cmpR op_lt (pv 2) pe_int (nomark _)) (pss_one (ps_ret (pe_lst (pa_cons (pv 2) pa_nil)))) pss_nil)
      (pss_one (ps_ret (pe_lst (pa_cons (C8.pe_c cN hr (by decide) (by rfl) (pa_cons (pv 0) (pa_cons (pv 1) pa_nil))) pa_nil))))), ?_⟩
    refine ⟨_, rfl, _, rfl, a, p, z, rfl, hP, ?_⟩
    refine ⟨_, rfl, _, _, rfl, rfl, _, rfl, ?_⟩
    rcases fault_cases p z with c | ⟨c, k', e, rfl, hk, hT⟩
    · rw [decide_eq_true c]
      exact iteT ⟨_, rfl, by show 1 ≤ sizeLine; decide, fun r nr => q _ r (Done.lift hP (Same.refl _) nr (min_fault c))⟩
    · rw [c]
      refine iteF ?_
      refine ⟨_, rfl, _, rfl, a, p, k', e, rfl, hP.l, hG, by omega, hT, fun H1 s1 => ?_⟩
      exact ⟨by show 1 ≤ sizeLine; decide, fun r nr => q _ r (Done.lift hP s1 nr (min_ok hk hT))⟩
theorem ok_pal {f : Addr} {fd : FuncData} (F : Fun K "best_palette" "best_palette" sPal f fd) (cF : Cal P w K mg base 1 "colours_fault" spFlt []) (cD : Cal P w K mg base 6 "best_division" (spDiv K) [])
    (cM : Cal P w K mg base 2 "median_of" (spMed K) []) (ml : mg "len" = none) :
    FnOk P w K mg base CX0 8 f fd ["shades", "k"] (spOp1 .bestPalette) := by
  refine F.ok scPal (fun vs H Q E h => ?_) (fun cdv A outer s H vs Q E hr h => ?_)
  · obtain ⟨a, p, x, rfl, _⟩ := h
    rfl
  · obtain ⟨a, p, z, rfl, hP, hG, q⟩ := h
    refine ⟨_, pss_cons (ps_set (i := 2) scPal.nd rfl (Or.inl rfl) (C8.pe_c cF hr (by decide) (by rfl) (pa_cons (pv 0) (pa_cons (pv 1) pa_nil))))
      (pss_cons (ps_if (pt_cmpR op_lt (pv 2) pe_int (nomark _)) (pss_one (ps_ret (pe_lst (pa_cons (pv 2) pa_nil)))) pss_nil)
      (pss_cons (ps_setLc (i := 3) (own := [("group", 4)]) (g := gName 4) (tt := tYes) rfl scPal.nd rfl rfl (sw_true rfl rfl rfl (by decide +kernel))
              (pi_list (C8.pe_c cD hr (by decide) (by rfl) (pa_cons (pv 0) (pa_cons (pv 1) pa_nil)))) (blkOk_by (N := nPal) (sc := defScope sPal) (by decide +kernel))
              (fun _ _ _ _ _ => pg_name (i := 4) scPal.nd rfl (Or.inl rfl))
              (fun _ _ _ _ _ => pts_nil) (fun _ _ _ _ _ => by exact C8.pe_c cM hr (by decide) (by rfl) (pa_cons (pv 4) pa_nil)))
      (pss_one (ps_ret (pe_op op_cat (pe_lst (pa_cons (pe_callB call_len_seq (by rfl) ml boot_len (pa_cons (pv 3) pa_nil)) pa_nil)) (pv 3)))))), ?_⟩
    refine ⟨_, rfl, _, rfl, a, p, z, rfl, hP, ?_⟩
    refine ⟨_, rfl, _, _, rfl, rfl, _, rfl, ?_⟩
    rcases fault_cases p z with c | ⟨c, k', e, rfl, hk, hT⟩
    · rw [decide_eq_true c]
      refine iteT ⟨_, rfl, by show 1 ≤ sizeLine; decide, fun r nr => q _ r (Done.lift (res := .ofCode (faultOf p z)) hP (Same.refl _) nr ?_)⟩
      exact congrArg (Prod.mk none) (gr_fault c)
    · rw [c]
      refine iteF ?_
      refine ⟨_, rfl, _, rfl, a, p, k', e, rfl, hP.l, hG, by omega, hT, fun H1 D xs s1 nD hD hgr => ?_⟩
      refine ⟨D, rfl, ⟨_, SqL.of hD⟩, fun G nG => ?_⟩
      have hfew := best_few hG hT
      refine lc_list (K := K) (a := D) (xs := xs) (MadeG H1 G (fun g => g.colour) (bestGroups p k')) ?_ ?_ ?_ ?_
      · exact ⟨Same.up nG, upd_same⟩
      · exact fun i H' _ h => SqL.of (h.1 _ _ hD)
      · rintro i v H' hv ⟨sm, hGv⟩
        obtain ⟨g, t, hg, rfl, ht⟩ := hgr.get hv
        obtain ⟨g1, g2, g3, g4, g5, g6, g7, g8⟩ := best_at hG hT hg
        refine ⟨rfl, .ref t, rfl, t, _, rfl, (ht.mono sm).l, g5, g6, fun H3 s3 => ?_⟩
        refine ⟨_, s3 _ _ hGv, ?_, (sm.trans s3).mut nG, ?_⟩
        · rw [List.length_map, List.length_map, List.length_take]
          exact small1000 (by omega)
        · rw [upd_same, takeG_succ (f := fun g => g.colour) hg, g3]
      · rintro H2 ⟨s2, hGv⟩
        rw [hgr.length, List.take_length] at hGv
        refine ⟨.ref G, rfl, G, _, rfl, .inl (SqL.of hGv), by show 1 ≤ sizeLine; decide, fun c nc => ?_⟩
        have hcG : c ≠ G := (ne_of_none hGv nc).symm
        refine ⟨.ref G, rfl, c, G, _, _, rfl, rfl, upd_same, by rw [upd_ne hcG.symm]; exact hGv, ?_, fun r nr => ?_⟩
        · rw [List.length_map, List.length_map, sizeLine_eq]
          show 1 + _ ≤ _
          omega
        · have hres : perform p (.bestPalette (k' : Int)) = (none, ⟨((bestGroups p k').length : Int), SrCommon.natsToInts ((bestGroups p k').map fun g => g.colour)⟩) := congrArg (Prod.mk none) (gr_ok hk hT)
          have hd := Done.lift hP ((s1.trans s2).trans (Same.up nc)) nr hres
          have e1 : (((bestGroups p k').length : Int) :: SrCommon.natsToInts ((bestGroups p k').map fun g => g.colour)).map V.int = [V.int (((((bestGroups p k').map fun g => g.colour).map fun (n : Nat) => V.int (n : Int)).length : Nat) : Int)] ++ ((bestGroups p k').map fun g => g.colour).map (fun (n : Nat) => V.int (n : Int)) := by
            unfold SrCommon.natsToInts
            rw [List.map_cons, List.length_map, List.length_map, List.map_map]; rfl
          show Q (.ref r) (upd _ r (.lst ([V.int _] ++ _)))
          rw [e1] at hd
          exact q _ r hd
theorem ok_grp {f : Addr} {fd : FuncData} (F : Fun K "best_groups" "best_groups" sGrp f fd) (cF : Cal P w K mg base 1 "colours_fault" spFlt []) (cD : Cal P w K mg base 6 "best_division" (spDiv K) [])
    (cE : Cal P w K mg base 3 "error_of" (spErr K) []) (ml : mg "len" = none) :
    FnOk P w K mg base CX0 8 f fd ["shades", "k"] (spOp1 .bestGroups) := by
  refine F.ok scGrp (fun vs H Q E h => ?_) (fun cdv A outer s H vs Q E hr h => ?_)
  · obtain ⟨a, p, x, rfl, _⟩ := h
    rfl
  · obtain ⟨a, p, z, rfl, hP, hG, q⟩ := h
    refine ⟨_, pss_cons (ps_set (i := 2) scGrp.nd rfl (Or.inl rfl) (C8.pe_c cF hr (by decide) (by rfl) (pa_cons (pv 0) (pa_cons (pv 1) pa_nil))))
      (pss_cons (ps_if (pt_cmpR op_lt (pv 2) pe_int (nomark _)) (pss_one (ps_ret (pe_lst (pa_cons (pv 2) pa_nil)))) pss_nil)
      (pss_cons (ps_set (i := 3) scGrp.nd rfl (Or.inl rfl) (C8.pe_c cD hr (by decide) (by rfl) (pa_cons (pv 0) (pa_cons (pv 1) pa_nil))))
      (pss_cons (ps_set (i := 4) scGrp.nd rfl (Or.inl rfl) (pe_lst (pa_cons (pe_callB call_len_seq (by rfl) ml boot_len (pa_cons (pv 3) pa_nil)) pa_nil)))
      (pss_cons (ps_for PassesOwn.never rfl (pi_list (pv 3)) (pg_name (i := 5) scGrp.nd rfl (Or.inl rfl))
        (pss_cons (ps_expr (pe_bm PySem.F.plainAttrs_list PySem.F.slot_list_append PySem.F.type_list_append mt_append (pv 4) (pa_cons (pe_callB call_len_seq (by rfl) ml boot_len (pa_cons (pv 5) pa_nil)) pa_nil)))
        (pss_one (ps_expr (pe_bm PySem.F.plainAttrs_list PySem.F.slot_list_append PySem.F.type_list_append mt_append (pv 4) (pa_cons (C8.pe_c cE hr (by decide) (by rfl) (pa_cons (pv 5) pa_nil)) pa_nil))))))
      (pss_one (ps_ret (pv 4))))))), ?_⟩
    refine ⟨_, rfl, _, rfl, a, p, z, rfl, hP, ?_⟩
    refine ⟨_, rfl, _, _, rfl, rfl, _, rfl, ?_⟩
    rcases fault_cases p z with c | ⟨c, k', e, rfl, hk, hT⟩
    · rw [decide_eq_true c]
      refine iteT ⟨_, rfl, by show 1 ≤ sizeLine; decide, fun r nr => q _ r (Done.lift (res := .ofCode (faultOf p z)) hP (Same.refl _) nr ?_)⟩
      exact congrArg (Prod.mk none) (gr_fault c)
    · rw [c]
      refine iteF ?_
      refine ⟨_, rfl, _, rfl, a, p, k', e, rfl, hP.l, hG, by omega, hT, fun H1 D xs s1 nD hD hgr => ?_⟩
      have hfew := best_few hG hT
      refine ⟨.ref D, rfl, D, xs, rfl, .inl (SqL.of hD), by show 1 ≤ sizeLine; decide, fun G nG => ?_⟩
      have s2 : Same H1 (upd H1 G (.lst [V.int (xs.length : Int)])) := Same.up nG
      have hrow : ∀ i, i ≤ (bestGroups p k').length → True := fun _ _ => trivial
      let part : Nat → List V := fun i => V.int (xs.length : Int) :: (((bestGroups p k').take i).flatMap fun g => [((g.last - g.first : Nat) : Int), (groupError p g.first g.last : Int)]).map V.int
      have plen : ∀ i, (part i).length ≤ 2 * i + 1 := by
        intro i
        show ((((bestGroups p k').take i).flatMap fun g => [((g.last - g.first : Nat) : Int), (groupError p g.first g.last : Int)]).map V.int).length + 1 ≤ _
        rw [List.length_map]
        have : ∀ l : List Group, (l.flatMap fun g => [((g.last - g.first : Nat) : Int), (groupError p g.first g.last : Int)]).length = 2 * l.length := by
          intro l
          induction l with
          | nil => rfl
          | cons g r ih =>
            rw [List.flatMap_cons, List.length_append, ih]
            simp only [List.length_cons, List.length_nil]
            omega
        rw [this, List.length_take]
        omega
      refine ⟨.ref D, rfl, D, rfl, ⟨_, SqL.of (s2 _ _ hD)⟩, ?_⟩
      refine for_list (K := K) (a := D) (xs := xs) (fun i σ H' => ∃ x5, σ = [some (.ref a), some (.int (k' : Int)), some (.int 0), some (.ref D), some (.ref G), x5] ∧ Same H1 H' ∧ H' G = some (.lst (part i))) ?_ ?_ ?_ ?_
      · refine ⟨none, ?_, s2, upd_same⟩
        rfl
      · rintro i σ H' _ ⟨x5, rfl, sm, _⟩
        exact SqL.of (sm _ _ hD)
      · rintro i v σ H' hv ⟨x5, rfl, sm, hGv⟩
        obtain ⟨g, t, hg, rfl, ht⟩ := hgr.get hv
        have hi : i < (bestGroups p k').length := (List.getElem?_eq_some_iff.mp hg).1
        obtain ⟨g1, g2, g3, g4, g5, g6, g7, g8⟩ := best_at hG hT hg
        obtain ⟨us, hu, hsh⟩ := ht
        have hPt : PicM H1 t (Fs.seg p g.first g.last) := ⟨us, hu, hsh⟩
        refine ⟨.ref G, rfl, .inl ⟨rfl, _, SqL.of hGv⟩, .ref t, rfl, t, us, rfl, .inl (SqL.of (sm _ _ hu)), G, _, _, rfl, rfl, hGv, small1000 (by have := plen i; omega), ?_⟩
        have sm1 := sm.mut (o := .lst (part i ++ [V.int (us.length : Int)])) nG
        refine ⟨.ref G, rfl, .inl ⟨rfl, _, SqL.of upd_same⟩, .ref t, rfl, t, _, rfl, (hPt.mono sm1).l, g5, g6, hG.count, fun H3 s3 => ?_⟩
        refine ⟨G, _, _, rfl, rfl, s3 _ _ upd_same, ?_, some (.ref t), rfl, (sm1.trans s3).mut nG, ?_⟩
        · rw [List.length_append]
          have := plen i
          exact small1000 (by show _ + 1 ≤ 1000; omega)
        · rw [upd_same]
          rw [← g4, hsh.length, g7]
          show some (HO.lst ((V.int (xs.length : Int) :: _) ++ [V.int ((g.last - g.first : Nat) : Int)] ++ [V.int ((groupError p g.first g.last : Nat) : Int)])) = some (HO.lst (V.int (xs.length : Int) :: _))
          rw [List.take_add_one, hg, List.flatMap_append, List.map_append, List.append_assoc, List.cons_append]
          rfl
      · rintro σ H' ⟨x5, rfl, sm, hGv⟩
        rw [hgr.length] at hGv
        refine ⟨.ref G, rfl, q H' G (Done.query hP (s1.trans sm) (s1.free nG) ?_ ?_)⟩
        · unfold newP
          rfl
        · have hres : perform p (.bestGroups (k' : Int)) = (none, ⟨((bestGroups p k').length : Int), (bestGroups p k').flatMap fun g => [((g.last - g.first : Nat) : Int), (groupError p g.first g.last : Int)]⟩) := congrArg (Prod.mk none) (gr_ok hk hT)
          unfold rowP
          rw [hres, hGv]
          show some (HO.lst (V.int (xs.length : Int) :: _)) = _
          rw [List.take_length, hgr.length]
          rfl
theorem ok_col {f : Addr} {fd : FuncData} (F : Fun K "colour_of" "colour_of" sCol f fd) (cF : Cal P w K mg base 1 "colours_fault" spFlt []) (cD : Cal P w K mg base 6 "best_division" (spDiv K) [])
    (cM : Cal P w K mg base 2 "median_of" (spMed K) []) (cH : Cal P w K mg base 1 "has_shade" spHas []) (C : Con mg) (ml : mg "len" = none) :
    FnOk P w K mg base CX0 8 f fd ["shades", "i", "k"] (spOp2 .colourOf) := by
  refine F.ok scCol (fun vs H Q E h => ?_) (fun cdv A outer s H vs Q E hr h => ?_)
  · obtain ⟨a, p, x, y, rfl, _⟩ := h
    rfl
  · obtain ⟨a, p, x, z, rfl, hP, hG, q⟩ := h
    obtain ⟨t1, h1⟩ := C.nos
    refine ⟨_, pss_cons (ps_if (pt_not (pt_val (C8.pe_c cH hr (by decide) (by rfl) (pa_cons (pv 0) (pa_cons (pv 1) pa_nil)))))
        (pss_one (ps_ret (pe_lst (pa_cons (pe_num h1) pa_nil)))) pss_nil)
      (pss_cons (ps_set (i := 3) scCol.nd rfl (Or.inl rfl) (C8.pe_c cF hr (by decide) (by rfl) (pa_cons (pv 0) (pa_cons (pv 2) pa_nil))))
      (pss_cons (ps_if (pt_cmpR op_lt (pv 3) pe_int (nomark _)) (pss_one (ps_ret (pe_lst (pa_cons (pv 3) pa_nil)))) pss_nil)
      (pss_cons (ps_set (i := 4) scCol.nd rfl (Or.inl rfl) (pe_lst pa_nil))
      (pss_cons (ps_for PassesOwn.never rfl (pi_list (C8.pe_c cD hr (by decide) (by rfl) (pa_cons (pv 0) (pa_cons (pv 2) pa_nil)))) (pg_name (i := 5) scCol.nd rfl (Or.inl rfl))
        (pss_one (ps_expr (pe_bm PySem.F.plainAttrs_list PySem.F.slot_list_extend PySem.F.type_list_extend mt_extend (pv 4) (pa_cons (pe_op op_rep (pe_lst (pa_cons (C8.pe_c cM hr (by decide) (by rfl) (pa_cons (pv 5) pa_nil)) pa_nil)) (pe_callB call_len_seq (by rfl) ml boot_len (pa_cons (pv 5) pa_nil))) pa_nil)))))
      (pss_one (ps_ret (pe_lst (pa_cons (pe_ix ix_list (pv 4) (pv 1) (fun _ _ => rfl)) pa_nil)))))))), ?_⟩
    refine ⟨_, rfl, _, rfl, a, p, x, rfl, hP, _, rfl, ?_⟩
    cases hx : isShade p x with
    | false =>
      refine iteT ⟨by show 1 ≤ sizeLine; decide, fun r nr => q _ r (Done.refuse hP nr ?_)⟩
      show (none, if isShade p x = false then _ else _) = _
      rw [if_pos hx]; rfl
    | true =>
      refine ⟨_, rfl, _, rfl, a, p, z, rfl, hP, ?_⟩
      refine ⟨_, rfl, _, _, rfl, rfl, _, rfl, ?_⟩
      obtain ⟨i, rfl, hi⟩ := shade_nat hx
      rcases fault_cases p z with c | ⟨c, k', e, rfl, hk, hT⟩
      · rw [decide_eq_true c]
        refine iteT ⟨_, rfl, by show 1 ≤ sizeLine; decide, fun r nr => q _ r (Done.lift (res := .ofCode (faultOf p z)) hP (Same.refl _) nr ?_)⟩
        show (none, if isShade p (i : Int) = false then _ else if isColourCount z = false then _ else _) = _
        rw [if_neg (by rw [hx]; exact Bool.noConfusion)]
        unfold faultOf at c ⊢
        cases hz : isColourCount z with
        | false => rw [if_pos rfl, if_pos rfl]; rfl
        | true =>
          rw [hz, if_neg Bool.noConfusion] at c
          rw [if_neg Bool.noConfusion, if_neg Bool.noConfusion]
          by_cases c0 : z = 0 ∧ 0 < p.length
          · rw [if_pos c0, c0.1]; rfl
          · rw [if_neg c0] at c
            exact absurd c (by decide)
      · rw [c]
        refine iteF ?_
        have hfew := best_few hG hT
        have hch := (chain_best (Nat.zero_le _) hT).1
        have hch : Chain p 0 (bestGroups p k') := hch
        have h12 := hG.len
        -- colours = []
        refine ⟨Nat.zero_le _, fun G nG => ?_⟩
        have s0 : Same H (upd H G (.lst [])) := Same.up nG
        refine ⟨_, rfl, _, rfl, a, p, k', e, rfl, (hP.mono s0).l, hG, by omega, hT, fun H1 D xs s1 nD hD hgr => ?_⟩
        have hDG : D ≠ G := by
          intro z
          rw [z, upd_same] at nD
          cases nD
        have s01 := s0.trans s1
        refine ⟨D, rfl, ⟨_, SqL.of hD⟩, ?_⟩
        have hG1 : H1 G = some (.lst []) := s1 _ _ upd_same
        -- what stood ahead of the loop stands, G aside; each group lies elsewhere
        refine for_list (K := K) (a := D) (xs := xs) (fun j σ H' => ∃ x5, σ = [some (.ref a), some (.int (i : Int)), some (.int (k' : Int)), some (.int 0), some (.ref G), x5] ∧ SameBut G H1 H' ∧ H' G = some (.lst (natV (spread ((bestGroups p k').take j))))) ?_ ?_ ?_ ?_
        · refine ⟨none, ?_, SameBut.refl, hG1⟩
          rfl
        · rintro j σ H' _ ⟨x5, rfl, sm, _⟩
          exact SqL.of (sm _ _ hDG hD)
        · rintro j v σ H' hv ⟨x5, rfl, sm, hGv⟩
          obtain ⟨g, t, hg, rfl, ht⟩ := hgr.get hv
          obtain ⟨g1, g2, g3, g4, g5, g6, g7, g8⟩ := best_at hG hT hg
          have htG : t ≠ G := by
            intro z
            obtain ⟨us, hu, hsh⟩ := ht
            rw [z, hG1] at hu
            have h3 : ([] : List V) = us := HO.lst.inj (Option.some.inj hu)
            have h4 := hsh.length
            rw [← h3, List.length_nil] at h4
            omega
          have ht' : PicM H' t (Fs.seg p g.first g.last) := ht.but hG1 htG sm
          refine ⟨.ref G, rfl, .inl ⟨rfl, _, SqL.of hGv⟩, .ref t, rfl, t, _, rfl, ht'.l, g5, g6, fun H3 s3 => ?_⟩
          refine ⟨by show 1 ≤ sizeLine; decide, fun c nc => ?_⟩
          have s2 := Same.up (o := .lst [V.int ((medL (Fs.seg p g.first g.last) : Nat) : Int)]) nc
          obtain ⟨us, hu, hsh⟩ := ht'.mono (s3.trans s2)
          have hul : us.length = gsz g := by rw [hsh.length, g7]; rfl
          have hsz : gsz g ≤ 12 := by unfold gsz; omega
          refine ⟨.ref t, rfl, t, us, rfl, .inl (SqL.of hu), c, (us.length : Int), _, rfl, rfl, upd_same, by omega, by omega, by rw [sizeLine_eq]; show 1 * _ ≤ _; omega, fun c2 nc2 => ?_⟩
          have s4 := Same.up (o := .lst (List.replicate ((us.length : Int)).toNat [V.int ((medL (Fs.seg p g.first g.last) : Nat) : Int)]).flatten) nc2
          have s23 := (s3.trans s2).trans s4
          have hspl : (spread ((bestGroups p k').take j)).length ≤ 12 := by
            have h5 := spread_length hch
            have h6 : spread (bestGroups p k') = spread ((bestGroups p k').take j) ++ spread ((bestGroups p k').drop j) := by
              unfold spread
              rw [← List.flatMap_append, List.take_append_drop]
            rw [h6, List.length_append] at h5
            omega
          refine ⟨G, c2, _, _, rfl, rfl, s23 _ _ hGv, upd_same, ?_, some (.ref t), rfl, fun b o hb h => ?_, ?_⟩
          · rw [List.flatten_replicate_singleton, List.length_replicate]
            unfold natV
            rw [List.length_map, sizeLine_eq]
            omega
          · rw [upd_ne hb]
            exact s23 _ _ (sm b o hb h)
          · rw [upd_same, List.take_add_one, hg, ← g3, hul]
            congr 2
            unfold natV spread
            rw [List.flatMap_append, List.map_append]
            congr 1
            show (List.replicate (((gsz g : Nat) : Int)).toNat [V.int (g.colour : Int)]).flatten = List.map _ (List.replicate (gsz g) g.colour ++ [])
            rw [List.append_nil, List.map_replicate, List.flatten_replicate_singleton]
            rfl
        · rintro σ H' ⟨x5, rfl, sm, hGv⟩
          rw [hgr.length, List.take_length] at hGv
          have hfind := spread_find (j := i) hch (Nat.zero_le _)
          have hlt : i < (spread (bestGroups p k')).length := by rw [spread_length hch]; omega
          rw [Nat.sub_zero, List.getElem?_eq_getElem hlt] at hfind
          obtain ⟨g, hg, hcol⟩ : ∃ g, ((bestGroups p k').find? fun g => decide (g.first ≤ i) && decide (i < g.last)) = some g ∧ g.colour = (spread (bestGroups p k'))[i] := by
            cases hf : (bestGroups p k').find? fun g => decide (g.first ≤ i) && decide (i < g.last) with
            | none => rw [hf] at hfind; cases hfind
            | some g => rw [hf] at hfind; exact ⟨g, rfl, (Option.some.inj hfind).symm⟩
          have hget : (natV (spread (bestGroups p k')))[i]? = some (.int ((g.colour : Nat) : Int)) := by
            unfold natV
            rw [List.getElem?_map, List.getElem?_eq_getElem hlt, hcol]; rfl
          refine ⟨.ref G, rfl, _, rfl, G, _, (i : Int), _, rfl, rfl, SqL.of hGv, atI_nat hget, by show 1 ≤ sizeLine; decide, fun r nr => ?_⟩
          refine q _ r (Done.lift (res := .ofCode ((g.colour : Nat) : Int)) hP (SameBut.same nG s01 sm) nr ?_)
          show (none, if isShade p (i : Int) = false then _ else if isColourCount (k' : Int) = false then _ else _) = _
          rw [if_neg (by rw [hx]; exact Bool.noConfusion), if_neg (by rw [colours_in.mpr ⟨by omega, by omega⟩]; exact Bool.noConfusion)]
          have hg2 : ((Sr110.bestGroups p (k' : Int).toNat).find? fun g => decide (g.first ≤ (i : Int).toNat) && decide ((i : Int).toNat < g.last)) = some g := hg
          rw [hg2]; rfl
end
end Fs

set_option Elab.async false
set_option linter.all false
set_option maxRecDepth 100000
set_option maxHeartbeats 4000000
namespace Fs
open PySem PySem.Spec PyProof.Rows L2
open Sr110 (Shade Picture difference nearestColour paletteError)
abbrev sDis : Stmt := top 9
abbrev sEwp : Stmt := top 10
abbrev nDis : List Str := ["level", "palette", "colour"]
abbrev nEwp : List Str := ["shades", "palette", "level", "count"]
theorem scDis : FnScope nDis ["level", "palette"] (defScope sDis) := ⟨rfl, rfl, rfl, by decide +kernel, rfl, by decide +kernel, by decide +kernel⟩
theorem scEwp : FnScope nEwp ["shades", "palette"] (defScope sEwp) := ⟨rfl, rfl, rfl, by decide +kernel, rfl, by decide +kernel, by decide +kernel⟩
section
variable {P : Program} {w : World} {K : PySem.W.Frag} {mg : Str → Option Value} {base : Heap}
def spDis (K : PySem.W.Frag) : Sp := fun vs H Q _ => ∃ (l : Nat) (b : Addr) (cs : List Nat), vs = [.int (l : Int), .ref b] ∧ SqL K H b (natV cs) ∧ 0 < cs.length ∧ cs.length ≤ 12 ∧
  ∀ H', Same H H' → Q (.int ((difference l (nearestColour cs l) : Nat) : Int)) H'
theorem natV_get {cs : List Nat} {i : Nat} {x : V} (h : (natV cs)[i]? = some x) : ∃ c, cs[i]? = some c ∧ x = .int (c : Int) := by
  unfold natV at h
  rw [List.getElem?_map] at h
  cases e : cs[i]? with
  | none => rw [e] at h; cases h
  | some c => rw [e] at h; exact ⟨c, rfl, (Option.some.inj h).symm⟩
theorem ok_dis {f : Addr} {fd : FuncData} (F : Fun K "distance" "distance" sDis f fd) (mm : mg "min" = none) (ma : mg "abs" = none) : FnOk P w K mg base CX0 1 f fd ["level", "palette"] (spDis K) := by
  refine F.ok scDis (fun vs H Q E h => ?_) (fun cdv A outer s H vs Q E hr h => ?_)
  · obtain ⟨l, b, cs, rfl, _⟩ := h
    rfl
  · obtain ⟨l, b, cs, rfl, hb, h0, hl, q⟩ := h
    refine ⟨_, pss_one (ps_ret (pe_callB (cr_min rfl) (by rfl) mm boot_min (pa_cons
      (by exact pe_lc (own := [("colour", 2)]) (g := gName 2) (tt := tYes) rfl scDis.nd (pi_list (pv 1)) (blkOk_by (N := nDis) (sc := defScope sDis) (by decide +kernel))
            (fun _ _ _ _ _ => pg_name (i := 2) scDis.nd rfl (Or.inl rfl))
            (fun _ _ _ _ _ => pts_nil)
            (fun _ _ _ _ _ => by exact pe_callB call_abs (by rfl) ma boot_abs (pa_cons (pe_op op_sub (pv 0) (pv 2)) pa_nil)))
      pa_nil))), ?_⟩
    have hlen : (natV cs).length = cs.length := by unfold natV; rw [List.length_map]
    refine ⟨.ref b, rfl, b, rfl, ⟨_, hb⟩, fun D nD => ?_⟩
    refine lc_list (K := K) (a := b) (xs := natV cs) (fun i H' => Same H H' ∧ H' D = some (.lst ((cs.take i).map fun (c : Nat) => V.int ((difference l c : Nat) : Int)))) ?_ ?_ ?_ ?_
    · exact ⟨Same.up nD, upd_same⟩
    · exact fun i H' _ h => h.1.seq hb
    · rintro i x H' hx ⟨sm, hD⟩
      obtain ⟨c, hc, rfl⟩ := natV_get hx
      refine ⟨rfl, _, rfl, _, rfl, _, _, rfl, rfl, _, rfl, _, hD, ?_, sm.mut nD, ?_⟩
      · rw [List.length_map, List.length_take]
        exact small1000 (by omega)
      · rw [upd_same, List.take_add_one, hc, List.map_append, ← diff_int]
        rfl
    · rintro H' ⟨sm, hD⟩
      rw [hlen, List.take_length] at hD
      refine ⟨D, cs.map (fun c => ((difference l c : Nat) : Int)), rfl, ?_, ?_, fun m hm hle => ?_⟩
      · rw [List.map_map]
        exact SqL.of hD
      · rw [List.length_map]; exact h0
      · obtain ⟨c, hc, rfl⟩ := List.mem_map.mp hm
        have e := nearest_is (pal := cs) (level := l) (m := difference l c) ⟨c, hc, rfl⟩ (fun d hd => by
          have := hle _ (List.mem_map.mpr ⟨d, hd, rfl⟩)
          omega)
        rw [← e]
        exact q H' sm
def spEwp (K : PySem.W.Frag) : Sp := fun vs H Q _ => ∃ (a b : Addr) (p : Picture) (cs : List Nat), vs = [.ref a, .ref b] ∧ PicL K H a p ∧ Good p ∧ SqL K H b (natV cs) ∧ 0 < cs.length ∧ cs.length ≤ 12 ∧
  ∀ H', Same H H' → Q (.int ((paletteError p cs : Nat) : Int)) H'
theorem ok_ewp {f : Addr} {fd : FuncData} (F : Fun K "error_with_palette" "error_with_palette" sEwp f fd) (cD : Cal P w K mg base 1 "distance" (spDis K) []) (ms : mg "sum" = none) : FnOk P w K mg base CX0 2 f fd ["shades", "palette"] (spEwp K) := by
  refine F.ok scEwp (fun vs H Q E h => ?_) (fun cdv A outer s H vs Q E hr h => ?_)
  · obtain ⟨a, b, p, cs, rfl, _⟩ := h
    rfl
  · obtain ⟨a, b, p, cs, rfl, hP, hG, hb, h0, hl, q⟩ := h
    refine ⟨_, pss_one (ps_ret (pe_callB (cr_sum rfl) (by rfl) ms boot_sum (pa_cons
      (by exact pe_lc (own := [("level", 2), ("count", 3)]) (g := gTup K 2 (gCons (gName 2) (gCons (gName 3) gNil))) (tt := tYes) rfl scEwp.nd (pi_list (pv 0)) (blkOk_by (N := nEwp) (sc := defScope sEwp) (by decide +kernel))
            (fun _ _ _ _ _ => by exact pg_tup rfl (pgs_cons (pg_name (i := 2) scEwp.nd rfl (Or.inl rfl)) (pgs_cons (pg_name (i := 3) scEwp.nd rfl (Or.inl rfl)) pgs_nil)))
            (fun _ _ _ _ _ => pts_nil)
            (fun _ _ _ _ _ => by exact pe_op op_mul (pv 3) (C8.pe_c cD hr (by decide) (by rfl) (pa_cons (pv 2) (pa_cons (pv 1) pa_nil)))))
      pa_nil))), ?_⟩
    have h12 := hG.len
    obtain ⟨ts, hS, hT⟩ := hP
    refine ⟨.ref a, rfl, a, rfl, ⟨_, hS⟩, fun D nD => ?_⟩
    refine lc_list (K := K) (a := a) (xs := ts) (Made H D (fun s => ((s.count * difference s.level (nearestColour cs s.level) : Nat) : Int)) p) ?_ ?_ ?_ ?_
    · exact ⟨Same.up nD, upd_same⟩
    · exact fun i H' _ h => h.1.seq hS
    · rintro i x H' hx ⟨sm, hD⟩
      obtain ⟨s, t, hs, rfl, ht⟩ := hT.get2 hx
      have hc := (hG.bnd s (List.mem_of_getElem? hs)).2.2
      refine ⟨t, _, rfl, SqT.of (sm _ _ ht), rfl, _, _, rfl, _, _, rfl, rfl, rfl, ?_⟩
      refine ⟨_, rfl, _, rfl, _, rfl, s.level, b, cs, rfl, sm.seq hb, h0, hl, fun H3 s3 => ?_⟩
      refine ⟨_, _, rfl, rfl, .inl ⟨?_, ?_⟩, ?_⟩
      · exact Int.lt_of_lt_of_le (by decide) (Int.natCast_nonneg _)
      · omega
      · refine ⟨_, s3 _ _ hD, ?_, (sm.trans s3).mut nD, ?_⟩
        · rw [List.length_map, List.length_take]
          exact small1000 (by omega)
        · rw [upd_same, take_succ_map hs]
          congr 3
    · rintro H' ⟨sm, hD⟩
      rw [hT.length, List.take_length] at hD
      refine ⟨D, p.map (fun s => ((s.count * difference s.level (nearestColour cs s.level) : Nat) : Int)), rfl, ?_, ?_⟩
      · rw [List.map_map]
        exact SqL.of hD
      · rw [sum_ints, ← sum_eq]
        exact q H' sm
end
end Fs

set_option Elab.async false
set_option linter.all false
set_option maxRecDepth 100000
set_option maxHeartbeats 4000000
namespace Fs
open PySem PySem.Spec PyProof.Rows L2
open Sr110 (Shade Picture Call Group perform isLevel isCount isShade isColourCount shadeAt groupError groupsResult bestGroups tileCount optionToInt)
abbrev sRed : Stmt := top 37
abbrev sTab : Stmt := top 38
abbrev sMnc : Stmt := top 39
abbrev nRed : List Str := ["shades", "k", "fault"]
abbrev nTab : List Str := ["shades", "without_colours", "errors", "k"]
abbrev nMnc : List Str := ["shades", "max_error", "k"]
theorem scRed : FnScope nRed ["shades", "k"] (defScope sRed) := ⟨rfl, rfl, rfl, by decide +kernel, rfl, by decide +kernel, by decide +kernel⟩
theorem scTab : FnScope nTab ["shades"] (defScope sTab) := ⟨rfl, rfl, rfl, by decide +kernel, rfl, by decide +kernel, by decide +kernel⟩
theorem scMnc : FnScope nMnc ["shades", "max_error"] (defScope sMnc) := ⟨rfl, rfl, rfl, by decide +kernel, rfl, by decide +kernel, by decide +kernel⟩
theorem red_fault {p : Picture} {z : Int} (h : faultOf p z < 0) : perform p (.errorReduction z) = (none, .ofCode (faultOf p z)) := by
  have q := gr_fault (f := fun _ => .ofCode 0) h
  unfold groupsResult at q
  show (none, if isColourCount z = false then _ else _) = _
  congr 1
  cases hc : isColourCount z with
  | false => rw [hc] at q; exact q
  | true =>
    rw [hc, if_neg Bool.noConfusion] at q
    rw [if_neg Bool.noConfusion]
    cases hm : Sr110.minError p z.toNat with
    | none => rw [hm] at q; exact q
    | some e =>
      rw [hm] at q
      have q' : SrCommon.Result.ofCode 0 = SrCommon.Result.ofCode (faultOf p z) := q
      have : (0 : Int) = faultOf p z := congrArg SrCommon.Result.code q'
      omega
theorem red_ok {p : Picture} {k a b : Nat} (hk : k ≤ 12) (h : T p k 0 = some a) (h2 : T p (k + 1) 0 = some b) : perform p (.errorReduction (k : Int)) = (none, .ofCode ((a : Int) - (b : Int))) := by
  show (none, if isColourCount (k : Int) = false then _ else _) = _
  rw [if_neg (by rw [colours_in.mpr ⟨by omega, by omega⟩]; exact Bool.noConfusion)]
  have e1 : Sr110.minError p (k : Int).toNat = some a := h
  have e2 : Sr110.minError p ((k : Int).toNat + 1) = some b := h2
  rw [e1, e2, ← reduction_int (p := p) (k := k) h h2]; rfl
/-- the numbers of a table of errors behind the first -/
def tabE (p : Picture) (n : Nat) : List V := (List.range n).map fun i => V.int (optionToInt (Sr110.minError p (i + 1)))
theorem tabE_succ (p : Picture) (n : Nat) : tabE p (n + 1) = tabE p n ++ [V.int (optionToInt (Sr110.minError p (n + 1)))] := by
  unfold tabE
  rw [List.range_succ, List.map_append]; rfl
theorem tabE_length (p : Picture) (n : Nat) : (tabE p n).length = n := by unfold tabE; rw [List.length_map, List.length_range]
theorem tab_all (p : Picture) : ((List.range (p.length + 1)).map fun k => optionToInt (Sr110.minError p k)).map V.int = V.int (optionToInt (Sr110.minError p 0)) :: tabE p p.length := by
  rw [List.range_succ_eq_map]
  unfold tabE
  simp only [List.map_cons, List.map_map]
  rfl
section
variable {P : Program} {w : World} {K : PySem.W.Frag} {mg : Str → Option Value} {base : Heap}
theorem ok_red {f : Addr} {fd : FuncData} (F : Fun K "error_reduction" "error_reduction" sRed f fd) (cF : Cal P w K mg base 1 "colours_fault" spFlt []) (cN : Cal P w K mg base 7 "minimum_error" (spMinE K) []) :
    FnOk P w K mg base CX0 8 f fd ["shades", "k"] (spOp1 .errorReduction) := by
  refine F.ok scRed (fun vs H Q E h => ?_) (fun cdv A outer s H vs Q E hr h => ?_)
  · obtain ⟨a, p, x, rfl, _⟩ := h
    rfl
  · obtain ⟨a, p, z, rfl, hP, hG, q⟩ := h
    refine ⟨_, pss_cons (ps_set (i := 2) scRed.nd rfl (Or.inl rfl) (C8.pe_c cF hr (by decide) (by rfl) (pa_cons (pv 0) (pa_cons (pv 1) pa_nil))))
      (pss_cons (ps_if (pt_cmpR op_lt (pv 2) pe_int (nomark _)) (pss_one (ps_ret (pe_lst (pa_cons (pv 2) pa_nil)))) pss_nil)
      (pss_one (ps_ret (pe_lst (pa_cons (pe_op op_sub (C8.pe_c cN hr (by decide) (by rfl) (pa_cons (pv 0) (pa_cons (pv 1) pa_nil)))
        (C8.pe_c cN hr (by decide) (by rfl) (pa_cons (pv 0) (pa_cons (pe_op op_add (pv 1) pe_int) pa_nil)))) pa_nil))))), ?_⟩
    refine ⟨_, rfl, _, rfl, a, p, z, rfl, hP, ?_⟩
    refine ⟨_, rfl, _, _, rfl, rfl, _, rfl, ?_⟩
    rcases fault_cases p z with c | ⟨c, k', e, rfl, hk, hT⟩
    · rw [decide_eq_true c]
      exact iteT ⟨_, rfl, by show 1 ≤ sizeLine; decide, fun r nr => q _ r (Done.lift hP (Same.refl _) nr (red_fault c))⟩
    · rw [c]
      refine iteF ?_
      obtain ⟨e2, hT2⟩ := T_some (p := p) (k := k') (i := 0) (Nat.zero_le _)
      refine ⟨_, rfl, _, rfl, a, p, k', e, rfl, hP.l, hG, by omega, hT, fun H1 s1 => ?_⟩
      refine ⟨_, rfl, _, rfl, _, _, rfl, rfl, a, p, k' + 1, e2, rfl, (hP.mono s1).l, hG, by omega, hT2, fun H2 s2 => ?_⟩
      exact ⟨_, _, rfl, rfl, by show 1 ≤ sizeLine; decide, fun r nr => q _ r (Done.lift hP (s1.trans s2) nr (red_ok hk hT hT2))⟩
theorem ok_tab {f : Addr} {fd : FuncData} (F : Fun K "error_table" "error_table" sTab f fd) (cN : Cal P w K mg base 7 "minimum_error" (spMinE K) []) (C : Con mg) (ml : mg "len" = none) (mr : mg "range" = none) :
    FnOk P w K mg base CX0 8 f fd ["shades"] (spOp0 .errorTable) := by
  refine F.ok scTab (fun vs H Q E h => ?_) (fun cdv A outer s H vs Q E hr h => ?_)
  · obtain ⟨a, p, rfl, _⟩ := h
    rfl
  · obtain ⟨a, p, rfl, hP, hG, q⟩ := h
    obtain ⟨t1, h1⟩ := C.nod
    refine ⟨_, pss_cons (ps_set (i := 1) scTab.nd rfl (Or.inl rfl) pe_int)
      (pss_cons (ps_if (pt_cmpR op_gt (pe_callB call_len_seq (by rfl) ml boot_len (pa_cons (pv 0) pa_nil)) pe_int (nomark _)) (pss_one (ps_set (i := 1) scTab.nd rfl (Or.inl rfl) (pe_num h1))) pss_nil)
      (pss_cons (ps_setLc (i := 2) (own := [("k", 3)]) (g := gName 3) (tt := tYes) rfl scTab.nd rfl rfl (sw_true rfl rfl rfl (by decide +kernel))
              (pi_range2 (by rfl) mr (pa_cons pe_int (pa_cons (pe_op op_add (pe_callB call_len_seq (by rfl) ml boot_len (pa_cons (pv 0) pa_nil)) pe_int) pa_nil))) (blkOk_by (N := nTab) (sc := defScope sTab) (by decide +kernel))
              (fun _ _ _ _ _ => pg_name (i := 3) scTab.nd rfl (Or.inl rfl))
              (fun _ _ _ _ _ => pts_nil) (fun _ _ _ _ _ => by exact C8.pe_c cN hr (by decide) (by rfl) (pa_cons (pv 0) (pa_cons (pv 3) pa_nil))))
      (pss_one (ps_ret (pe_op op_cat (pe_lst (pa_cons (pe_callB call_len_seq (by rfl) ml boot_len (pa_cons (pv 0) pa_nil)) (pa_cons (pv 1) pa_nil))) (pv 2)))))), ?_⟩
    have h12 := hG.len
    have hP0 := hP
    obtain ⟨ts, hA, hT⟩ := hP
    have hlen := hT.length
    have hz : optionToInt (Sr110.minError p 0) = if 0 < p.length then -1 else 0 := by
      rw [minError_zero]
      by_cases c : p.length = 0
      · rw [if_pos c, if_neg (by omega)]; rfl
      · rw [if_neg c, if_pos (by omega)]; rfl
    have step : ∀ (z : Int), z = optionToInt (Sr110.minError p 0) → ∀ (H2 : Hp) (r : Addr), Same H H2 → H r = none → H2 r = some (.lst ([V.int (ts.length : Int), V.int z] ++ tabE p p.length)) → Q (.ref r) H2 := by
      intro z ez H2 r s2 nr hr2
      refine q H2 r (Done.query hP0 s2 nr rfl ?_)
      rw [hr2, ez]
      show some (HO.lst (V.int (ts.length : Int) :: V.int _ :: tabE p p.length)) = some (HO.lst (V.int (p.length : Int) :: ((List.range (p.length + 1)).map fun k => optionToInt (Sr110.minError p k)).map V.int))
      rw [tab_all, hlen]
    refine ⟨.ref a, rfl, a, ts, rfl, .inl (SqL.of hA), _, _, rfl, rfl, _, rfl, ite2 (fun c => ?_) (fun c => ?_)⟩
    · have c := of_decide_eq_true c
      have ez : (-1 : Int) = optionToInt (Sr110.minError p 0) := by rw [hz, if_pos (by omega)]
      have step := step _ ez
      refine ⟨.ref a, rfl, a, ts, rfl, .inl (SqL.of hA), _, _, rfl, rfl, _, _, rfl, by omega, fun D nD => ?_⟩
      refine lc_range (lo := 1) (n := ((ts.length : Int) + 1 - 1).toNat) (fun i H' => Same H H' ∧ H' D = some (.lst (tabE p i))) ?_ ?_ ?_
      · exact ⟨Same.up nD, upd_same⟩
      · rintro i H' hi ⟨sm, hD⟩
        obtain ⟨e, hTe⟩ := T_some (p := p) (k := i) (i := 0) (Nat.zero_le _)
        refine ⟨rfl, .ref a, rfl, _, rfl, a, p, i + 1, e, ?_, (hP0.mono sm).l, hG, by omega, hTe, fun H3 s3 => ?_⟩
        · show [V.ref a, V.int (1 + (i : Int))] = _
          rw [show (1 : Int) + (i : Int) = ((i + 1 : Nat) : Int) by omega]
        · refine ⟨_, s3 _ _ hD, ?_, (sm.trans s3).mut nD, ?_⟩
          · rw [tabE_length]
            exact small1000 (by omega)
          · rw [upd_same, tabE_succ]
            have e2 : Sr110.minError p (i + 1) = some e := hTe
            rw [e2]; rfl
      · rintro H' ⟨sm, hD⟩
        have en : ((ts.length : Int) + 1 - 1).toNat = p.length := by omega
        rw [en] at hD
        refine ⟨.ref a, rfl, a, ts, rfl, .inl (SqL.of (sm _ _ hA)), _, rfl, by show 2 ≤ sizeLine; decide, fun c1 nc1 => ?_⟩
        have s2 := Same.up (o := .lst [V.int (ts.length : Int), V.int (-1)]) nc1
        refine ⟨.ref D, rfl, c1, D, _, _, rfl, rfl, upd_same, s2 _ _ hD, ?_, fun r nr => ?_⟩
        · rw [tabE_length, sizeLine_eq]
          show 2 + _ ≤ _
          omega
        · exact step _ r ((sm.trans s2).trans (Same.up nr)) ((sm.trans s2).free nr) upd_same
    · have c : ¬ (0 : Int) < (ts.length : Int) := fun z => c (decide_eq_true z)
      have ez : (0 : Int) = optionToInt (Sr110.minError p 0) := by rw [hz, if_neg (by omega)]
      have step := step _ ez
      refine ⟨.ref a, rfl, a, ts, rfl, .inl (SqL.of hA), _, _, rfl, rfl, _, _, rfl, by omega, fun D nD => ?_⟩
      refine lc_range (lo := 1) (n := ((ts.length : Int) + 1 - 1).toNat) (fun i H' => Same H H' ∧ H' D = some (.lst (tabE p i))) ?_ ?_ ?_
      · exact ⟨Same.up nD, upd_same⟩
      · rintro i H' hi ⟨sm, hD⟩
        omega
      · rintro H' ⟨sm, hD⟩
        have en : ((ts.length : Int) + 1 - 1).toNat = p.length := by omega
        rw [en] at hD
        refine ⟨.ref a, rfl, a, ts, rfl, .inl (SqL.of (sm _ _ hA)), _, rfl, by show 2 ≤ sizeLine; decide, fun c1 nc1 => ?_⟩
        have s2 := Same.up (o := .lst [V.int (ts.length : Int), V.int 0]) nc1
        refine ⟨.ref D, rfl, c1, D, _, _, rfl, rfl, upd_same, s2 _ _ hD, ?_, fun r nr => ?_⟩
        · rw [tabE_length, sizeLine_eq]
          show 2 + _ ≤ _
          omega
        · exact step _ r ((sm.trans s2).trans (Same.up nr)) ((sm.trans s2).free nr) upd_same
/-- the turns of min_colours' while -/
theorem ok_mnc {f : Addr} {fd : FuncData} (F : Fun K "min_colours" "min_colours" sMnc f fd) (cN : Cal P w K mg base 7 "minimum_error" (spMinE K) []) (C : Con mg) (ml : mg "len" = none) :
    FnOk P w K mg base CX0 8 f fd ["shades", "max_error"] (spOp1 .minColours) := by
  refine F.ok scMnc (fun vs H Q E h => ?_) (fun cdv A outer s H vs Q E hr h => ?_)
  · obtain ⟨a, p, x, rfl, _⟩ := h
    rfl
  · obtain ⟨a, p, z, rfl, hP, hG, q⟩ := h
    obtain ⟨t1, h1⟩ := C.oor
    refine ⟨_, pss_cons (ps_if (pt_cmpR op_lt (pv 1) pe_int (nomark _)) (pss_one (ps_ret (pe_lst (pa_cons (pe_num h1) pa_nil)))) pss_nil)
      (pss_cons (ps_if (pt_cmpR op_eq (pe_callB call_len_seq (by rfl) ml boot_len (pa_cons (pv 0) pa_nil)) pe_int (nomark _)) (pss_one (ps_ret (pe_lst (pa_cons pe_int pa_nil)))) pss_nil)
      (pss_cons (ps_set (i := 2) scMnc.nd rfl (Or.inl rfl) pe_int)
      (pss_cons (ps_while PassesOwn.never (pt_cmpR op_gt (C8.pe_c cN hr (by decide) (by rfl) (pa_cons (pv 0) (pa_cons (pv 2) pa_nil))) (pv 1) (nomark _))
        (pss_one (ps_aug (i := 2) scMnc.nd rfl (Or.inl rfl) pe_int ip_add)))
      (pss_one (ps_ret (pe_lst (pa_cons (pv 2) pa_nil))))))), ?_⟩
    have h12 := hG.len
    have hP0 := hP
    obtain ⟨ts, hA, hT⟩ := hP
    have hlen := hT.length
    refine ⟨_, rfl, _, _, rfl, rfl, _, rfl, ite2 (fun c => ?_) (fun c => ?_)⟩
    · have c := of_decide_eq_true c
      refine ⟨by show 1 ≤ sizeLine; decide, fun r nr => q _ r (Done.refuse hP0 nr ?_)⟩
      show (none, if z < 0 then _ else _) = _
      rw [if_pos c]; rfl
    · have c : ¬ z < 0 := fun z => c (decide_eq_true z)
      obtain ⟨m, rfl⟩ : ∃ m : Nat, z = (m : Int) := ⟨z.toNat, by omega⟩
      have hperf : perform p (.minColours (m : Int)) = (none, .ofCode ((Sr110.minColours p m : Nat) : Int)) := by
        show (none, if (m : Int) < 0 then _ else _) = _
        rw [if_neg c]; rfl
      refine ⟨.ref a, rfl, a, ts, rfl, .inl (SqL.of hA), rfl, _, rfl, ite2 (fun d => ?_) (fun d => ?_)⟩
      · have d : (ts.length : Int) = 0 := V.int.inj (of_decide_eq_true d)
        refine ⟨by show 1 ≤ sizeLine; decide, fun r nr => q _ r (Done.lift (res := .ofCode 0) hP0 (Same.refl _) nr ?_)⟩
        rw [hperf, minColours_at (k := 0) (Nat.zero_le _) ⟨0, by rw [minError_zero, if_pos (by omega)], Nat.zero_le _⟩ (fun j hj => absurd hj (Nat.not_lt_zero _))]
        rfl
      · have d : ¬ (ts.length : Int) = 0 := fun z => d (decide_eq_true (congrArg V.int z))
        refine ⟨fun n σ H' => ∃ k, n + k = p.length ∧ 1 ≤ k ∧ σ = [some (.ref a), some (.int (m : Int)), some (.int (k : Int))] ∧ Same H H' ∧ ∀ j, j < k → ∀ e, Sr110.minError p j = some e → m < e, ⟨p.length - 1, 1, by omega, Nat.le_refl _, rfl, Same.refl _, fun j hj e he => ?_⟩, ?_⟩
        · have : j = 0 := by omega
          subst this
          rw [minError_zero, if_neg (by omega)] at he
          cases he
        · rintro n σ H' ⟨k, hn, hk, rfl, sm, hb⟩
          obtain ⟨e, hTe⟩ := T_some (p := p) (k := k - 1) (i := 0) (Nat.zero_le _)
          rw [show k - 1 + 1 = k by omega] at hTe
          have hTe' : Sr110.minError p k = some e := hTe
          refine ⟨.ref a, rfl, _, rfl, a, p, k, e, rfl, (hP0.mono sm).l, hG, by omega, hTe, fun H2 s2 => ?_⟩
          refine ⟨_, rfl, _, _, rfl, rfl, _, rfl, ite2 (fun c1 => ?_) (fun c1 => ?_)⟩
          · have c1 := of_decide_eq_true c1
            have hkn : k < p.length := by
              refine Nat.lt_of_not_le fun hle => ?_
              have h0 := T_full (p := p) (k := k) (i := 0) (Nat.zero_le _) (by omega)
              rw [hTe] at h0
              have h00 : e = 0 := Option.some.inj h0
              omega
            refine ⟨fun σ' H3 => σ' = [some (.ref a), some (.int (m : Int)), some (.int ((k + 1 : Nat) : Int))] ∧ H3 = H2, fun σ' H3 ⟨e1, e2⟩ => ⟨n - 1, by omega, k + 1, by omega, by omega, e1, by rw [e2]; exact sm.trans s2, fun j hj e' he' => ?_⟩, ?_⟩
            · by_cases hjk : j < k
              · exact hb j hjk e' he'
              · have : j = k := by omega
                subst this
                rw [hTe'] at he'
                cases he'
                omega
            · exact ⟨_, rfl, _, _, rfl, rfl, rfl, rfl⟩
          · have c1 : ¬ (m : Int) < (e : Int) := fun z => c1 (decide_eq_true z)
            refine ⟨_, rfl, by show 1 ≤ sizeLine; decide, fun r nr => q _ r (Done.lift (res := .ofCode (k : Int)) hP0 (sm.trans s2) nr ?_)⟩
            rw [hperf, minColours_at (k := k) (by omega) ⟨e, hTe', by omega⟩ hb]
end
end Fs

set_option Elab.async false
set_option linter.all false
set_option maxRecDepth 100000
set_option maxHeartbeats 4000000
namespace Fs
open PySem PySem.Spec PyProof.Rows L2
open Sr110 (Shade Picture Call Group perform isLevel isCount isShade isColourCount shadeAt groupError groupsResult bestGroups tileCount)
abbrev sPer : Stmt := top 40
abbrev sMdn : Stmt := top 41
abbrev sGct : Stmt := top 42
abbrev sTot : Stmt := top 43
abbrev sDes : Stmt := top 44
abbrev nMdn : List Str := ["shades", "i", "j", "group"]
abbrev nGct : List Str := ["shades", "k", "fault", "counts", "group"]
abbrev nDes : List Str := ["shades", "answer", "level", "count"]
theorem scPer : FnScope ["shades", "palette"] ["shades", "palette"] (defScope sPer) := ⟨rfl, rfl, rfl, by decide +kernel, rfl, by decide +kernel, by decide +kernel⟩
theorem scMdn : FnScope nMdn ["shades", "i", "j"] (defScope sMdn) := ⟨rfl, rfl, rfl, by decide +kernel, rfl, by decide +kernel, by decide +kernel⟩
theorem scGct : FnScope nGct ["shades", "k"] (defScope sGct) := ⟨rfl, rfl, rfl, by decide +kernel, rfl, by decide +kernel, by decide +kernel⟩
theorem scTot : FnScope ["shades"] ["shades"] (defScope sTot) := ⟨rfl, rfl, rfl, by decide +kernel, rfl, by decide +kernel, by decide +kernel⟩
theorem scDes : FnScope nDes ["shades"] (defScope sDes) := ⟨rfl, rfl, rfl, by decide +kernel, rfl, by decide +kernel, by decide +kernel⟩
/-! ### a list of colours -/
theorem pal_no {l : List Int} (h : palOk l = false) : l = [] ∨ Sr110.maxShades < l.length ∨ l.all isLevel = false := by
  unfold palOk at h
  unfold Sr110.maxShades
  rw [Bool.and_eq_false_iff, Bool.and_eq_false_iff, decide_eq_false_iff_not, decide_eq_false_iff_not] at h
  rcases h with (h | h) | h
  · exact .inl (List.eq_nil_of_length_eq_zero (by omega))
  · exact .inr (.inl (by omega))
  · exact .inr (.inr h)
theorem nats_back : ∀ l : List Int, (∀ z ∈ l, ((z.toNat : Nat) : Int) = z) → l = (l.map Int.toNat).map (fun (c : Nat) => (c : Int))
  | [], _ => rfl
  | z :: r, h => by
    rw [List.map_cons, List.map_cons, h z List.mem_cons_self, ← nats_back r fun y hy => h y (List.mem_cons_of_mem _ hy)]
theorem nats_ints : ∀ cs : List Nat, SrCommon.intsToNats (cs.map fun (c : Nat) => (c : Int)) = cs
  | [] => rfl
  | c :: r => by
    have ih := nats_ints r
    unfold SrCommon.intsToNats at ih ⊢
    rw [List.map_cons, List.map_cons, ih]; rfl
theorem pal_yes {l : List Int} (h : palOk l = true) : ¬ (l = [] ∨ Sr110.maxShades < l.length ∨ l.all isLevel = false) ∧ 0 < l.length ∧ l.length ≤ 12 ∧ ∃ cs : List Nat, l = cs.map (fun (c : Nat) => (c : Int)) := by
  unfold palOk at h
  rw [Bool.and_eq_true, Bool.and_eq_true, decide_eq_true_eq, decide_eq_true_eq] at h
  obtain ⟨⟨h1, h2⟩, h3⟩ := h
  refine ⟨?_, by omega, h2, l.map Int.toNat, ?_⟩
  · unfold Sr110.maxShades
    rintro (c | c | c)
    · rw [c, List.length_nil] at h1
      omega
    · omega
    · rw [h3] at c
      cases c
  · exact nats_back l fun z hz => by
      obtain ⟨n, rfl, _⟩ := level_nat (List.all_eq_true.mp h3 z hz)
      rfl
def spOpL (K : PySem.W.Frag) : Sp := fun vs H Q _ => ∃ (a b : Addr) (p : Picture) (l : List Int), vs = [.ref a, .ref b] ∧ PicM H a p ∧ Good p ∧ SqL K H b (l.map V.int) ∧ ∀ H' r, Done H a p (.paletteError l) H' r → Q (.ref r) H'
theorem sum_shades (p : Picture) : ((SrCommon.sum (p.map fun s => s.count) : Nat) : Int) = ((tot p : Nat) : Int) := by
  rw [sum_eq]; rfl
section
variable {P : Program} {w : World} {K : PySem.W.Frag} {mg : Str → Option Value} {base : Heap}
theorem ok_per {f : Addr} {fd : FuncData} (F : Fun K "palette_error" "palette_error" sPer f fd) (cP : Cal P w K mg base 2 "is_palette" (spPlt K) []) (cW : Cal P w K mg base 2 "error_with_palette" (spEwp K) []) (C : Con mg) :
    FnOk P w K mg base CX0 8 f fd ["shades", "palette"] (spOpL K) := by
  refine F.ok scPer (fun vs H Q E h => ?_) (fun cdv A outer s H vs Q E hr h => ?_)
  · obtain ⟨a, b, p, l, rfl, _⟩ := h
    rfl
  · obtain ⟨a, b, p, l, rfl, hP, hG, hb, q⟩ := h
    obtain ⟨t1, h1⟩ := C.oor
    refine ⟨_, pss_cons (ps_if (pt_not (pt_val (C8.pe_c cP hr (by decide) (by rfl) (pa_cons (pv 1) pa_nil)))) (pss_one (ps_ret (pe_lst (pa_cons (pe_num h1) pa_nil)))) pss_nil)
      (pss_one (ps_ret (pe_lst (pa_cons (C8.pe_c cW hr (by decide) (by rfl) (pa_cons (pv 0) (pa_cons (pv 1) pa_nil))) pa_nil)))), ?_⟩
    refine ⟨.ref b, rfl, b, l, rfl, hb, fun H1 s1 => ⟨_, rfl, ?_⟩⟩
    cases hc : palOk l with
    | false =>
      refine iteT ⟨by show 1 ≤ sizeLine; decide, fun r nr => q _ r (Done.lift (res := .ofCode (-22)) hP s1 nr ?_)⟩
      show (none, if l = [] ∨ Sr110.maxShades < l.length ∨ l.all isLevel = false then _ else _) = _
      rw [if_pos (pal_no hc)]; rfl
    | true =>
      obtain ⟨e1, e2, e3, cs, rfl⟩ := pal_yes hc
      rw [List.length_map] at e2 e3
      refine ⟨.ref a, rfl, .ref b, rfl, a, b, p, cs, rfl, (hP.mono s1).l, hG, ?_, e2, e3, fun H2 s2 => ?_⟩
      · have hb' := s1.seq hb
        rw [natV_ints] at hb'
        exact hb'
      · refine ⟨by show 1 ≤ sizeLine; decide, fun r nr => q _ r (Done.lift (res := .ofCode ((Sr110.paletteError p cs : Nat) : Int)) hP (s1.trans s2) nr ?_)⟩
        show (none, if _ ∨ _ ∨ _ then _ else _) = _
        rw [if_neg e1]
        rw [nats_ints]; rfl
theorem ok_mdn {f : Addr} {fd : FuncData} (F : Fun K "median" "median" sMdn f fd) (cH : Cal P w K mg base 1 "has_shade" spHas []) (cM : Cal P w K mg base 2 "median_of" (spMed K) []) (cE : Cal P w K mg base 3 "error_of" (spErr K) []) (C : Con mg) :
    FnOk P w K mg base CX0 8 f fd ["shades", "i", "j"] (spOp2 .median) := by
  refine F.ok scMdn (fun vs H Q E h => ?_) (fun cdv A outer s H vs Q E hr h => ?_)
  · obtain ⟨a, p, x, y, rfl, _⟩ := h
    rfl
  · obtain ⟨a, p, x, y, rfl, hP, hG, q⟩ := h
    obtain ⟨t1, h1⟩ := C.nos
    obtain ⟨t2, h2⟩ := C.oor
    refine ⟨_, pss_cons (ps_if (PW.pt (pw_or (pt_not (pt_val (C8.pe_c cH hr (by decide) (by rfl) (pa_cons (pv 0) (pa_cons (pv 1) pa_nil))))) (pw_or1 (pt_not (pt_val (C8.pe_c cH hr (by decide) (by rfl) (pa_cons (pv 0) (pa_cons (pv 2) pa_nil))))))))
        (pss_one (ps_ret (pe_lst (pa_cons (pe_num h1) pa_nil)))) pss_nil)
      (pss_cons (ps_if (pt_cmpR op_lt (pv 2) (pv 1) (nomark _)) (pss_one (ps_ret (pe_lst (pa_cons (pe_num h2) pa_nil)))) pss_nil)
      (pss_cons (ps_set (i := 3) scMdn.nd rfl (Or.inl rfl) (pe_slice sl_list (pv 0) (po_some (pv 1)) (po_some (pe_op op_add (pv 2) pe_int))))
      (pss_one (ps_ret (pe_lst (pa_cons (C8.pe_c cM hr (by decide) (by rfl) (pa_cons (pv 3) pa_nil)) (pa_cons (C8.pe_c cE hr (by decide) (by rfl) (pa_cons (pv 3) pa_nil)) pa_nil))))))), ?_⟩
    have h12 := hG.len
    have bad : (isShade p x = false ∨ isShade p y = false) → ∀ r, H r = none → Q (.ref r) (upd H r (.lst [.int (-2)])) := fun c r nr => q _ r (Done.refuse hP nr (by
      show (none, if isShade p x = false ∨ isShade p y = false then _ else _) = _
      rw [if_pos c]; rfl))
    refine ⟨_, rfl, _, rfl, a, p, x, rfl, hP, _, rfl, ?_⟩
    cases hx : isShade p x with
    | false => exact iteT ⟨by show 1 ≤ sizeLine; decide, fun r nr => bad (.inl hx) r nr⟩
    | true =>
    refine ⟨_, rfl, _, rfl, a, p, y, rfl, hP, _, rfl, ?_⟩
    cases hy : isShade p y with
    | false => exact ⟨by show 1 ≤ sizeLine; decide, fun r nr => bad (.inr hy) r nr⟩
    | true =>
    have hno : ¬ (isShade p x = false ∨ isShade p y = false) := by rw [hx, hy]; simp
    refine ⟨_, rfl, _, rfl, _, _, rfl, rfl, _, rfl, ite2 (fun c => ?_) (fun c => ?_)⟩
    · have c := of_decide_eq_true c
      refine ⟨by show 1 ≤ sizeLine; decide, fun r nr => q _ r (Done.refuse hP nr ?_)⟩
      show (none, if isShade p x = false ∨ isShade p y = false then _ else if y < x then _ else _) = _
      rw [if_neg hno, if_pos c]; rfl
    · have c : ¬ y < x := fun z => c (decide_eq_true z)
      obtain ⟨i, rfl, hi⟩ := shade_nat hx
      obtain ⟨j, rfl, hj⟩ := shade_nat hy
      have hP0 := hP
      obtain ⟨ts, hA, hT⟩ := hP
      refine ⟨.ref a, rfl, _, rfl, (i : Int), rfl, _, rfl, _, _, rfl, rfl, (j : Int) + 1, rfl, a, ts, rfl, SqL.of hA, fun g ng => ?_⟩
      have ec : cutV ts (some (i : Int)) (some ((j : Int) + 1)) = (ts.drop i).take (j + 1 - i) := by
        rw [show (j : Int) + 1 = ((j + 1 : Nat) : Int) by omega]
        exact cut_seg (by omega) (by rw [hT.length]; omega)
      rw [ec]
      have s1 := Same.up (o := .lst ((ts.drop i).take (j + 1 - i))) ng
      have hPic : PicM (upd H g (.lst ((ts.drop i).take (j + 1 - i)))) g (Fs.seg p i (j + 1)) := ⟨_, upd_same, (hT.mono s1).seg⟩
      have hl := seg_length (p := p) (i := i) (j := j + 1) (by omega)
      refine ⟨.ref g, rfl, g, _, rfl, hPic.l, by omega, by omega, fun H2 s2 => ?_⟩
      refine ⟨.ref g, rfl, g, _, rfl, (hPic.mono s2).l, by omega, by omega, hG.count, fun H3 s3 => ?_⟩
      refine ⟨by show 2 ≤ sizeLine; decide, fun r nr => ?_⟩
      refine q _ r (Done.lift (res := ⟨((medL (Fs.seg p i (j + 1)) : Nat) : Int), [((errW (Fs.seg p i (j + 1)) (medL (Fs.seg p i (j + 1))) : Nat) : Int)]⟩) hP0 ((s1.trans s2).trans s3) nr ?_)
      show (none, if isShade p (i : Int) = false ∨ isShade p (j : Int) = false then _ else if (j : Int) < (i : Int) then _ else _) = _
      rw [if_neg hno, if_neg c]
      show (none, (⟨((Sr110.median p i (j + 1) : Nat) : Int), [((groupError p i (j + 1) : Nat) : Int)]⟩ : SrCommon.Result)) = _
      rw [median_seg (by omega) (by omega), groupError_seg (by omega) (by omega)]; rfl
theorem ok_gct {f : Addr} {fd : FuncData} (F : Fun K "group_counts" "group_counts" sGct f fd) (cF : Cal P w K mg base 1 "colours_fault" spFlt []) (cD : Cal P w K mg base 6 "best_division" (spDiv K) [])
    (cT : Cal P w K mg base 1 "tiles_of" (spTil K) []) (ml : mg "len" = none) :
    FnOk P w K mg base CX0 8 f fd ["shades", "k"] (spOp1 .groupCounts) := by
  refine F.ok scGct (fun vs H Q E h => ?_) (fun cdv A outer s H vs Q E hr h => ?_)
  · obtain ⟨a, p, x, rfl, _⟩ := h
    rfl
  · obtain ⟨a, p, z, rfl, hP, hG, q⟩ := h
    refine ⟨_, pss_cons (ps_set (i := 2) scGct.nd rfl (Or.inl rfl) (C8.pe_c cF hr (by decide) (by rfl) (pa_cons (pv 0) (pa_cons (pv 1) pa_nil))))
      (pss_cons (ps_if (pt_cmpR op_lt (pv 2) pe_int (nomark _)) (pss_one (ps_ret (pe_lst (pa_cons (pv 2) pa_nil)))) pss_nil)
      (pss_cons (ps_setLc (i := 3) (own := [("group", 4)]) (g := gName 4) (tt := tYes) rfl scGct.nd rfl rfl (sw_true rfl rfl rfl (by decide +kernel))
              (pi_list (C8.pe_c cD hr (by decide) (by rfl) (pa_cons (pv 0) (pa_cons (pv 1) pa_nil)))) (blkOk_by (N := nGct) (sc := defScope sGct) (by decide +kernel))
              (fun _ _ _ _ _ => pg_name (i := 4) scGct.nd rfl (Or.inl rfl))
              (fun _ _ _ _ _ => pts_nil) (fun _ _ _ _ _ => by exact C8.pe_c cT hr (by decide) (by rfl) (pa_cons (pv 4) pa_nil)))
      (pss_one (ps_ret (pe_op op_cat (pe_lst (pa_cons (pe_callB call_len_seq (by rfl) ml boot_len (pa_cons (pv 3) pa_nil)) pa_nil)) (pv 3)))))), ?_⟩
    refine ⟨_, rfl, _, rfl, a, p, z, rfl, hP, ?_⟩
    refine ⟨_, rfl, _, _, rfl, rfl, _, rfl, ?_⟩
    rcases fault_cases p z with c | ⟨c, k', e, rfl, hk, hT⟩
    · rw [decide_eq_true c]
      refine iteT ⟨_, rfl, by show 1 ≤ sizeLine; decide, fun r nr => q _ r (Done.lift (res := .ofCode (faultOf p z)) hP (Same.refl _) nr ?_)⟩
      exact congrArg (Prod.mk none) (gr_fault c)
    · rw [c]
      refine iteF ?_
      refine ⟨_, rfl, _, rfl, a, p, k', e, rfl, hP.l, hG, by omega, hT, fun H1 D xs s1 nD hD hgr => ?_⟩
      refine ⟨D, rfl, ⟨_, SqL.of hD⟩, fun G nG => ?_⟩
      have hfew := best_few hG hT
      refine lc_list (K := K) (a := D) (xs := xs) (MadeG H1 G (fun g => tileCount p g.first g.last) (bestGroups p k')) ?_ ?_ ?_ ?_
      · exact ⟨Same.up nG, upd_same⟩
      · exact fun i H' _ h => SqL.of (h.1 _ _ hD)
      · rintro i v H' hv ⟨sm, hGv⟩
        obtain ⟨g, t, hg, rfl, ht⟩ := hgr.get hv
        obtain ⟨g1, g2, g3, g4, g5, g6, g7, g8⟩ := best_at hG hT hg
        refine ⟨rfl, .ref t, rfl, t, _, rfl, (ht.mono sm).l, g6, fun H3 s3 => ?_⟩
        refine ⟨_, s3 _ _ hGv, ?_, (sm.trans s3).mut nG, ?_⟩
        · rw [List.length_map, List.length_map, List.length_take]
          exact small1000 (by omega)
        · rw [upd_same, takeG_succ (f := fun g => tileCount p g.first g.last) hg, tile_seg g2]
      · rintro H2 ⟨s2, hGv⟩
        rw [hgr.length, List.take_length] at hGv
        refine ⟨.ref G, rfl, G, _, rfl, .inl (SqL.of hGv), by show 1 ≤ sizeLine; decide, fun c nc => ?_⟩
        have hcG : c ≠ G := (ne_of_none hGv nc).symm
        refine ⟨.ref G, rfl, c, G, _, _, rfl, rfl, upd_same, by rw [upd_ne hcG.symm]; exact hGv, ?_, fun r nr => ?_⟩
        · rw [List.length_map, List.length_map, sizeLine_eq]
          show 1 + _ ≤ _
          omega
        · have hres : perform p (.groupCounts (k' : Int)) = (none, ⟨((bestGroups p k').length : Int), (bestGroups p k').map fun g => ((tileCount p g.first g.last : Nat) : Int)⟩) := congrArg (Prod.mk none) (gr_ok hk hT)
          have hd := Done.lift hP ((s1.trans s2).trans (Same.up nc)) nr hres
          have e1 : (((bestGroups p k').length : Int) :: (bestGroups p k').map fun g => ((tileCount p g.first g.last : Nat) : Int)).map V.int = [V.int (((((bestGroups p k').map fun g => tileCount p g.first g.last).map fun (n : Nat) => V.int (n : Int)).length : Nat) : Int)] ++ ((bestGroups p k').map fun g => tileCount p g.first g.last).map (fun (n : Nat) => V.int (n : Int)) := by
            rw [List.map_cons, List.length_map, List.length_map, List.map_map, List.map_map]; rfl
          show Q (.ref r) (upd _ r (.lst ([V.int _] ++ _)))
          rw [e1] at hd
          exact q _ r hd
theorem ok_tot {f : Addr} {fd : FuncData} (F : Fun K "totals" "totals" sTot f fd) (cT : Cal P w K mg base 1 "tiles_of" (spTil K) []) (ml : mg "len" = none) :
    FnOk P w K mg base CX0 8 f fd ["shades"] (spOp0 .totals) := by
  refine F.ok scTot (fun vs H Q E h => ?_) (fun cdv A outer s H vs Q E hr h => ?_)
  · obtain ⟨a, p, rfl, _⟩ := h
    rfl
  · obtain ⟨a, p, rfl, hP, hG, q⟩ := h
    refine ⟨_, pss_one (ps_ret (pe_lst (pa_cons (pe_callB call_len_seq (by rfl) ml boot_len (pa_cons (pv 0) pa_nil)) (pa_cons (C8.pe_c cT hr (by decide) (by rfl) (pa_cons (pv 0) pa_nil)) pa_nil)))), ?_⟩
    have hP0 := hP
    obtain ⟨ts, hA, hT⟩ := hP
    refine ⟨.ref a, rfl, a, ts, rfl, .inl (SqL.of hA), .ref a, rfl, a, p, rfl, hP0.l, hG.len, fun H1 s1 => ?_⟩
    refine ⟨by show 2 ≤ sizeLine; decide, fun r nr => ?_⟩
    have hd := Done.lift (c := .totals) (res := ⟨(p.length : Int), [((SrCommon.sum (p.map fun s => s.count) : Nat) : Int)]⟩) hP0 s1 nr rfl
    rw [hT.length]
    rw [sum_shades] at hd
    exact q _ r hd
theorem ok_des {f : Addr} {fd : FuncData} (F : Fun K "describe" "describe" sDes f fd) (ml : mg "len" = none) :
    FnOk P w K mg base CX0 8 f fd ["shades"] (spOp0 .describe) := by
  refine F.ok scDes (fun vs H Q E h => ?_) (fun cdv A outer s H vs Q E hr h => ?_)
  · obtain ⟨a, p, rfl, _⟩ := h
    rfl
  · obtain ⟨a, p, rfl, hP, hG, q⟩ := h
    refine ⟨_, pss_cons (ps_set (i := 1) scDes.nd rfl (Or.inl rfl) (pe_lst (pa_cons (pe_callB call_len_seq (by rfl) ml boot_len (pa_cons (pv 0) pa_nil)) pa_nil)))
      (pss_cons (ps_for PassesOwn.never rfl (pi_list (pv 0)) (pg_tup rfl (pgs_cons (pg_name (i := 2) scDes.nd rfl (Or.inl rfl)) (pgs_cons (pg_name (i := 3) scDes.nd rfl (Or.inl rfl)) pgs_nil)))
        (pss_cons (ps_expr (pe_bm PySem.F.plainAttrs_list PySem.F.slot_list_append PySem.F.type_list_append mt_append (pv 1) (pa_cons (pv 2) pa_nil)))
        (pss_one (ps_expr (pe_bm PySem.F.plainAttrs_list PySem.F.slot_list_append PySem.F.type_list_append mt_append (pv 1) (pa_cons (pv 3) pa_nil))))))
      (pss_one (ps_ret (pv 1)))), ?_⟩
    have h12 := hG.len
    have hP0 := hP
    obtain ⟨ts, hA, hT⟩ := hP
    have hlen := hT.length
    refine ⟨.ref a, rfl, a, ts, rfl, .inl (SqL.of hA), by show 1 ≤ sizeLine; decide, fun G nG => ?_⟩
    have s1 : Same H (upd H G (.lst [V.int (ts.length : Int)])) := Same.up nG
    let part : Nat → List V := fun i => V.int (ts.length : Int) :: ((p.take i).flatMap fun s => [(s.level : Int), (s.count : Int)]).map V.int
    have plen : ∀ i, (part i).length ≤ 2 * i + 1 := by
      intro i
      show (((p.take i).flatMap fun s => [(s.level : Int), (s.count : Int)]).map V.int).length + 1 ≤ _
      rw [List.length_map]
      have : ∀ l : Picture, (l.flatMap fun s => [(s.level : Int), (s.count : Int)]).length = 2 * l.length := by
        intro l
        induction l with
        | nil => rfl
        | cons g r ih =>
          rw [List.flatMap_cons, List.length_append, ih]
          simp only [List.length_cons, List.length_nil]
          omega
      rw [this, List.length_take]
      omega
    refine ⟨.ref a, rfl, a, rfl, ⟨_, SqL.of (s1 _ _ hA)⟩, ?_⟩
    refine for_list (K := K) (a := a) (xs := ts) (fun i σ H' => ∃ x2 x3, σ = [some (.ref a), some (.ref G), x2, x3] ∧ Same H H' ∧ H' G = some (.lst (part i))) ?_ ?_ ?_ ?_
    · refine ⟨none, none, ?_, s1, upd_same⟩
      rfl
    · rintro i σ H' _ ⟨x2, x3, rfl, sm, _⟩
      exact SqL.of (sm _ _ hA)
    · rintro i v σ H' hv ⟨x2, x3, rfl, sm, hGv⟩
      obtain ⟨s, t, hs, rfl, ht⟩ := hT.get2 hv
      have hi : i < p.length := (List.getElem?_eq_some_iff.mp hs).1
      refine ⟨t, _, rfl, SqT.of (sm _ _ ht), rfl, _, _, rfl, _, _, rfl, rfl, ?_⟩
      refine ⟨.ref G, rfl, .inl ⟨rfl, _, SqL.of hGv⟩, _, rfl, G, _, _, rfl, rfl, hGv, small1000 (by have := plen i; omega), ?_⟩
      refine ⟨.ref G, rfl, .inl ⟨rfl, _, SqL.of upd_same⟩, _, rfl, G, _, _, rfl, rfl, upd_same, ?_, _, _, rfl, (sm.mut nG).mut nG, ?_⟩
      · rw [List.length_append]
        have := plen i
        exact small1000 (by show _ + 1 ≤ 1000; omega)
      · rw [upd_same]
        show some (HO.lst ((V.int (ts.length : Int) :: _) ++ [V.int ((s.level : Nat) : Int)] ++ [V.int ((s.count : Nat) : Int)])) = some (HO.lst (V.int (ts.length : Int) :: _))
        rw [List.take_add_one, hs, List.flatMap_append, List.map_append, List.append_assoc, List.cons_append]
        rfl
    · rintro σ H' ⟨x2, x3, rfl, sm, hGv⟩
      refine ⟨.ref G, rfl, q H' G (Done.query hP0 sm nG rfl ?_)⟩
      rw [hGv]
      show some (HO.lst (V.int (ts.length : Int) :: _)) = some (HO.lst (V.int (p.length : Int) :: (p.flatMap fun s => [(s.level : Int), (s.count : Int)]).map V.int))
      rw [hlen, List.take_length]
end
end Fs

set_option Elab.async false
set_option linter.all false
set_option maxRecDepth 100000
set_option maxHeartbeats 4000000
namespace Fs
open PySem PySem.Spec PyProof.Rows L2
open Sr110 (Shade Picture Call perform)
abbrev sEnd : Stmt := top 47
abbrev sAof : Stmt := top 48
abbrev nEnd : List Str := ["calls", "place", "call", "end"]
abbrev nAof : List Str := ["shades", "call", "given", "operation"]
theorem scEnd : FnScope nEnd ["calls", "place"] (defScope sEnd) := ⟨rfl, rfl, rfl, by decide +kernel, rfl, by decide +kernel, by decide +kernel⟩
theorem scAof : FnScope nAof ["shades", "call", "given"] (defScope sAof) := ⟨rfl, rfl, rfl, by decide +kernel, rfl, by decide +kernel, by decide +kernel⟩
/-- how many numbers stand behind a call's own, ahead of a list -/
def parL : List Int := [0, 2, 1, 2, 1, 1, 1, 2, 1, 0, 1, 1, 2, 1, 0, 0]
/-- the promise of the operation with this number -/
def spN (K : PySem.W.Frag) : Nat → Sp
  | 1 => spOp2 .addShade
  | 2 => spOp1 .removeShade
  | 3 => spOp2 .setCount
  | 4 => spOp1 .minError
  | 5 => spOp1 .bestPalette
  | 6 => spOp1 .bestGroups
  | 7 => spOp2 .colourOf
  | 8 => spOp1 .errorReduction
  | 9 => spOp0 .errorTable
  | 10 => spOp1 .minColours
  | 11 => spOpL K
  | 12 => spOp2 .median
  | 13 => spOp1 .groupCounts
  | 14 => spOp0 .totals
  | 15 => spOp0 .describe
  | _ => fun _ _ _ _ => False
/-- the numbers given with a call -/
def Takes (K : PySem.W.Frag) (n : Nat) (args : List Int) (c : Call) : Prop :=
  (n = 11 ∧ ∃ l : List Int, args = (l.length : Int) :: l ∧ c = .paletteError l) ∨ (n ≠ 11 ∧ args = [] ∧ spN K n = spOp0 c) ∨
  (n ≠ 11 ∧ ∃ x mk, args = [x] ∧ c = mk x ∧ spN K n = spOp1 mk) ∨ (n ≠ 11 ∧ ∃ x y mk, args = [x, y] ∧ c = mk x y ∧ spN K n = spOp2 mk)
/-- how a call lies in the list -/
def Lies (n : Nat) (args : List Int) : Prop := (n ≠ 11 ∧ parL[n]? = some (args.length : Int)) ∨ (n = 11 ∧ ∃ l : List Int, args = (l.length : Int) :: l)
theorem rd_lies (K : PySem.W.Frag) {l : List Int} {c : Call} {t : List Int} (h : Rd l c t) : ∃ (n : Nat) (args : List Int), l = (n : Int) :: (args ++ t) ∧ n ≤ 15 ∧ Lies n args ∧ ((n = 0 ∧ c = .create) ∨ (1 ≤ n ∧ c ≠ .create ∧ Takes K n args c)) := by
  cases h with
  | c0 t => exact ⟨0, [], rfl, by decide, .inl ⟨by decide, rfl⟩, .inl ⟨rfl, rfl⟩⟩
  | c1 x y t => exact ⟨1, [x, y], rfl, by decide, .inl ⟨by decide, rfl⟩, .inr ⟨by decide, fun z => (nomatch z), .inr (.inr (.inr ⟨by decide, x, y, _, rfl, rfl, rfl⟩))⟩⟩
  | c2 x t => exact ⟨2, [x], rfl, by decide, .inl ⟨by decide, rfl⟩, .inr ⟨by decide, fun z => (nomatch z), .inr (.inr (.inl ⟨by decide, x, _, rfl, rfl, rfl⟩))⟩⟩
  | c3 x y t => exact ⟨3, [x, y], rfl, by decide, .inl ⟨by decide, rfl⟩, .inr ⟨by decide, fun z => (nomatch z), .inr (.inr (.inr ⟨by decide, x, y, _, rfl, rfl, rfl⟩))⟩⟩
  | c4 x t => exact ⟨4, [x], rfl, by decide, .inl ⟨by decide, rfl⟩, .inr ⟨by decide, fun z => (nomatch z), .inr (.inr (.inl ⟨by decide, x, _, rfl, rfl, rfl⟩))⟩⟩
  | c5 x t => exact ⟨5, [x], rfl, by decide, .inl ⟨by decide, rfl⟩, .inr ⟨by decide, fun z => (nomatch z), .inr (.inr (.inl ⟨by decide, x, _, rfl, rfl, rfl⟩))⟩⟩
  | c6 x t => exact ⟨6, [x], rfl, by decide, .inl ⟨by decide, rfl⟩, .inr ⟨by decide, fun z => (nomatch z), .inr (.inr (.inl ⟨by decide, x, _, rfl, rfl, rfl⟩))⟩⟩
  | c7 x y t => exact ⟨7, [x, y], rfl, by decide, .inl ⟨by decide, rfl⟩, .inr ⟨by decide, fun z => (nomatch z), .inr (.inr (.inr ⟨by decide, x, y, _, rfl, rfl, rfl⟩))⟩⟩
  | c8 x t => exact ⟨8, [x], rfl, by decide, .inl ⟨by decide, rfl⟩, .inr ⟨by decide, fun z => (nomatch z), .inr (.inr (.inl ⟨by decide, x, _, rfl, rfl, rfl⟩))⟩⟩
  | c9 t => exact ⟨9, [], rfl, by decide, .inl ⟨by decide, rfl⟩, .inr ⟨by decide, fun z => (nomatch z), .inr (.inl ⟨by decide, rfl, rfl⟩)⟩⟩
  | c10 x t => exact ⟨10, [x], rfl, by decide, .inl ⟨by decide, rfl⟩, .inr ⟨by decide, fun z => (nomatch z), .inr (.inr (.inl ⟨by decide, x, _, rfl, rfl, rfl⟩))⟩⟩
  | c11 l t => exact ⟨11, (l.length : Int) :: l, rfl, by decide, .inr ⟨rfl, l, rfl⟩, .inr ⟨by decide, fun z => (nomatch z), .inl ⟨rfl, l, rfl, rfl⟩⟩⟩
  | c12 x y t => exact ⟨12, [x, y], rfl, by decide, .inl ⟨by decide, rfl⟩, .inr ⟨by decide, fun z => (nomatch z), .inr (.inr (.inr ⟨by decide, x, y, _, rfl, rfl, rfl⟩))⟩⟩
  | c13 x t => exact ⟨13, [x], rfl, by decide, .inl ⟨by decide, rfl⟩, .inr ⟨by decide, fun z => (nomatch z), .inr (.inr (.inl ⟨by decide, x, _, rfl, rfl, rfl⟩))⟩⟩
  | c14 t => exact ⟨14, [], rfl, by decide, .inl ⟨by decide, rfl⟩, .inr ⟨by decide, fun z => (nomatch z), .inr (.inl ⟨by decide, rfl, rfl⟩)⟩⟩
  | c15 t => exact ⟨15, [], rfl, by decide, .inl ⟨by decide, rfl⟩, .inr ⟨by decide, fun z => (nomatch z), .inr (.inl ⟨by decide, rfl, rfl⟩)⟩⟩
theorem drop_at {ns : List Int} {i : Nat} {x : Int} {r : List Int} (h : ns.drop i = x :: r) : ns[i]? = some x ∧ ns.drop (i + 1) = r ∧ i < ns.length := by
  have h1 : (ns.drop i)[0]? = some x := by rw [h]; rfl
  rw [List.getElem?_drop, Nat.add_zero] at h1
  refine ⟨h1, ?_, (List.getElem?_eq_some_iff.mp h1).1⟩
  rw [← List.drop_drop, h]; rfl
theorem ints_get {ns : List Int} {i : Nat} {x : Int} (h : ns[i]? = some x) : (ns.map V.int)[i]? = some (.int x) := by rw [List.getElem?_map, h]; rfl
section
variable {P : Program} {w : World} {K : PySem.W.Frag} {mg : Str → Option Value} {base : Heap}
/-- the tuple of counts, as the file's top has written it -/
structure Cnts (K : PySem.W.Frag) (mg : Str → Option Value) : Prop where
  ex : ∃ d : Addr, mg "PARAMETER_COUNTS" = some (.ref d) ∧ ∃ (o : Obj) (its : Array Value) (n : Nat), K.lookup d = some o ∧ o.cls = .type "tuple" ∧ o.data = .seq its n ∧ its.size ≤ sizeLine ∧ Vals (parL.map V.int) its.toList
def spEnd (K : PySem.W.Frag) : Sp := fun vs H Q _ => ∃ (a : Addr) (i n : Nat) (ns args t : List Int), vs = [.ref a, .int (i : Int)] ∧ SqL K H a (ns.map V.int) ∧ ns.drop i = (n : Int) :: (args ++ t) ∧ n ≤ 15 ∧ Lies n args ∧
  Q (.int ((i + 1 + args.length : Nat) : Int)) H
theorem ok_end {f : Addr} {fd : FuncData} (F : Fun K "end_of_call" "end_of_call" sEnd f fd) (C : Con mg) (N : Cnts K mg) : FnOk P w K mg base CX0 1 f fd ["calls", "place"] (spEnd K) := by
  refine F.ok scEnd (fun vs H Q E h => ?_) (fun cdv A outer s H vs Q E hr h => ?_)
  · obtain ⟨a, i, n, ns, args, t, rfl, _⟩ := h
    rfl
  · obtain ⟨a, i, n, ns, args, t, rfl, hS, hd, hn, hL, q⟩ := h
    obtain ⟨t1, h1⟩ := C.pal
    obtain ⟨d, hd1, o, its, m, e1, e2, e3, e4, e5⟩ := N.ex
    refine ⟨_, pss_cons (ps_set (i := 2) scEnd.nd rfl (Or.inl rfl) (pe_ix ix_list (pv 0) (pv 1) (fun _ _ => rfl)))
      (pss_cons (ps_set (i := 3) scEnd.nd rfl (Or.inl rfl) (pe_op op_add (pe_op op_add (pv 1) pe_int) (pe_ix ix_tup (pe_glob (v := .ref d) (by rfl) hd1 rfl) (pv 2) (fun _ _ => rfl))))
      (pss_cons (ps_if (pt_cmpR op_eq (pv 2) (pe_num h1) (nomark _))
        (pss_one (ps_aug (i := 3) scEnd.nd rfl (Or.inl rfl) (pe_ix ix_list (pv 0) (pe_op op_add (pv 1) pe_int) (fun _ _ => rfl)) ip_add)) pss_nil)
      (pss_one (ps_ret (pv 3))))), ?_⟩
    obtain ⟨g1, g2, g3⟩ := drop_at hd
    have hT : SqT K H d (parL.map V.int) := .inr ⟨o, its, m, e1, e2, e3, e4, e5⟩
    refine ⟨.ref a, rfl, _, rfl, a, _, (i : Int), _, rfl, rfl, hS, atI_nat (ints_get g1), ?_⟩
    rcases hL with ⟨hne, hp⟩ | ⟨rfl, l, rfl⟩
    · refine ⟨_, rfl, _, _, rfl, rfl, _, rfl, d, _, (n : Int), _, rfl, rfl, hT, atI_nat (ints_get hp), _, _, rfl, rfl, ?_⟩
      refine ⟨_, rfl, rfl, _, rfl, ite2 (fun c => ?_) (fun c => ?_)⟩
      · have c : (n : Int) = 11 := V.int.inj (of_decide_eq_true c)
        omega
      · refine ⟨_, rfl, ?_⟩
        have e : (i : Int) + 1 + (args.length : Int) = ((i + 1 + args.length : Nat) : Int) := by omega
        show Q (.int ((i : Int) + 1 + (args.length : Int))) H
        rw [e]
        exact q
    · have hp : parL[11]? = some 1 := rfl
      refine ⟨_, rfl, _, _, rfl, rfl, _, rfl, d, _, ((11 : Nat) : Int), _, rfl, rfl, hT, atI_nat (ints_get hp), _, _, rfl, rfl, ?_⟩
      refine ⟨_, rfl, rfl, _, rfl, ite2 (fun c => ?_) (fun c => ?_)⟩
      · obtain ⟨k1, k2, k3⟩ := drop_at (ns := ns) (i := i + 1) (x := (l.length : Int)) (r := l ++ t) g2
        refine ⟨_, rfl, .ref a, rfl, _, rfl, _, _, rfl, rfl, a, _, ((i : Int) + 1), _, rfl, rfl, hS, at_of (j := i + 1) (by omega) (ints_get k1), _, _, rfl, rfl, _, rfl, ?_⟩
        have e : (i : Int) + 1 + 1 + (l.length : Int) = ((i + 1 + ((l.length : Int) :: l).length : Nat) : Int) := by
          rw [List.length_cons]
          omega
        show Q (.int ((i : Int) + 1 + 1 + (l.length : Int))) H
        rw [e]
        exact q
      · exact absurd (decide_eq_true rfl) c
/-- the dict of operations, as the file's top has written it -/
structure Opts (P : Program) (w : World) (K : PySem.W.Frag) (mg : Str → Option Value) (base : Heap) : Prop where
  ex : ∃ (d : Addr) (es : Array DictEntry) (m : Nat), mg "OPERATIONS" = some (.ref d) ∧ KDictI K d es m ∧
    ∀ n : Nat, 1 ≤ n → n ≤ 15 → ∃ f, findBy Value.isInt es (n : Int) = some (.ref f) ∧ Held P w K mg base 8 f (spN K n)
def spAof (K : PySem.W.Frag) : Sp := fun vs H Q _ => ∃ (b g : Addr) (p : Picture) (n : Nat) (args : List Int) (c : Call), vs = [.ref b, .int (n : Int), .ref g] ∧ PicM H b p ∧ Good p ∧ H g = some (.lst (args.map V.int)) ∧ 1 ≤ n ∧ n ≤ 15 ∧ Takes K n args c ∧
  ∀ H' r, Done H b p c H' r → Q (.ref r) H'
theorem Done.from {H H1 H' : Hp} {a r : Addr} {p : Picture} {c : Call} (s : Same H H1) (d : Done H1 a p c H' r) : Done H a p c H' r :=
  ⟨d.row, d.pic, fun b o hb h => d.but b o hb (s b o h), d.ne, s.free d.new⟩
theorem cut_tail {x : Int} {l : List Int} : cutV (((x :: l).map V.int)) (some 1) none = l.map V.int := by
  have h1 : HT.sIx ((x :: l).map V.int).length 0 (some 1) = 1 := by
    have e : (1 : Int) = ((1 : Nat) : Int) := rfl
    rw [e, HT.sIx_nat, List.length_map, List.length_cons]
    exact Nat.min_eq_left (by omega)
  have h2 : HT.sIx ((x :: l).map V.int).length ((x :: l).map V.int).length none = ((x :: l).map V.int).length := rfl
  unfold cutV
  rw [h1, h2]
  show (l.map V.int).take _ = _
  exact List.take_of_length_le (by simp)
theorem ok_aof {f : Addr} {fd : FuncData} (F : Fun K "answer_of" "answer_of" sAof f fd) (C : Con mg) (O : Opts P w K mg base) (ml : mg "len" = none) : FnOk P w K mg base CX0 9 f fd ["shades", "call", "given"] (spAof K) := by
  refine F.ok scAof (fun vs H Q E h => ?_) (fun cdv A outer s H vs Q E hr h => ?_)
  · obtain ⟨b, g, p, n, args, c, rfl, _⟩ := h
    rfl
  · obtain ⟨b, g, p, n, args, c, rfl, hP, hG, hg, hn1, hn2, hT, q⟩ := h
    obtain ⟨t1, h1⟩ := C.pal
    obtain ⟨d, es, m, hd, hD, hall⟩ := O.ex
    obtain ⟨o, ho, hH⟩ := hall n hn1 hn2
    obtain ⟨fo, ps, FO, kO, bO⟩ := hH.ex
    refine ⟨_, pss_cons (ps_set (i := 3) scAof.nd rfl (Or.inl rfl) (pe_ix (ix_kdI hD) (pe_glob (v := .ref d) (by rfl) hd rfl) (pv 1) (fun _ _ => rfl)))
      (pss_cons (ps_if (pt_cmpR op_eq (pv 1) (pe_num h1) (nomark _))
        (pss_one (ps_ret (pe_callL (i := 3) (f := o) (sp := spN K n) (dvs := []) (E := E0) FO hr rfl (Or.inl rfl) kO bO .nil pass0 (pa_cons (pv 0) (pa_cons (pe_slice sl_list (pv 2) (po_some pe_int) po_none) pa_nil))))) pss_nil)
      (pss_cons (ps_if (pt_cmpR op_eq (pe_callB call_len_seq (by rfl) ml boot_len (pa_cons (pv 2) pa_nil)) pe_int (nomark _))
        (pss_one (ps_ret (pe_callL (i := 3) (f := o) (sp := spN K n) (dvs := []) (E := E0) FO hr rfl (Or.inl rfl) kO bO .nil pass0 (pa_cons (pv 0) pa_nil)))) pss_nil)
      (pss_cons (ps_if (pt_cmpR op_eq (pe_callB call_len_seq (by rfl) ml boot_len (pa_cons (pv 2) pa_nil)) pe_int (nomark _))
        (pss_one (ps_ret (pe_callL (i := 3) (f := o) (sp := spN K n) (dvs := []) (E := E0) FO hr rfl (Or.inl rfl) kO bO .nil pass0 (pa_cons (pv 0) (pa_cons (pe_ix ix_list (pv 2) pe_int (fun _ _ => rfl)) pa_nil))))) pss_nil)
      (pss_one (ps_ret (pe_callL (i := 3) (f := o) (sp := spN K n) (dvs := []) (E := E0) FO hr rfl (Or.inl rfl) kO bO .nil pass0 (pa_cons (pv 0) (pa_cons (pe_ix ix_list (pv 2) pe_int (fun _ _ => rfl)) (pa_cons (pe_ix ix_list (pv 2) pe_int (fun _ _ => rfl)) pa_nil))))))))), ?_⟩
    refine ⟨_, rfl, (n : Int), _, .ref o, rfl, rfl, ho, rfl, _, rfl, rfl, _, rfl, ?_⟩
    rcases hT with ⟨rfl, l, rfl, rfl⟩ | ⟨hne, rfl, hs⟩ | ⟨hne, x, mk, rfl, rfl, hs⟩ | ⟨hne, x, y, mk, rfl, rfl, hs⟩
    · refine ite2 (fun c => ?_) (fun c => absurd (decide_eq_true rfl) c)
      refine ⟨rfl, _, rfl, .ref g, rfl, 1, rfl, g, _, rfl, SqL.of hg, fun u nu => ?_⟩
      rw [cut_tail]
      have s1 := Same.up (o := .lst (l.map V.int)) nu
      exact ⟨b, u, p, l, rfl, hP.mono s1, hG, SqL.of upd_same, fun H' r dn => q H' r (dn.from s1)⟩
    all_goals
      refine ite2 (fun c => absurd (V.int.inj (of_decide_eq_true c)) (by omega)) (fun _ => ?_)
      rw [hs]
    · refine ⟨.ref g, rfl, g, _, rfl, .inl (SqL.of hg), rfl, _, rfl, ite2 (fun c => ?_) (fun c => absurd (decide_eq_true rfl) c)⟩
      exact ⟨rfl, _, rfl, b, p, rfl, hP, hG, q⟩
    · refine ⟨.ref g, rfl, g, _, rfl, .inl (SqL.of hg), rfl, _, rfl, ite2 (fun c => absurd (V.int.inj (of_decide_eq_true c)) (by show ¬ ((1 : Nat) : Int) = 0; decide)) (fun c => ?_)⟩
      refine ⟨.ref g, rfl, g, _, rfl, .inl (SqL.of hg), rfl, _, rfl, ite2 (fun c => ?_) (fun c => absurd (decide_eq_true rfl) c)⟩
      exact ⟨rfl, _, rfl, .ref g, rfl, g, _, 0, _, rfl, rfl, SqL.of hg, atI_0, b, p, x, rfl, hP, hG, q⟩
    · refine ⟨.ref g, rfl, g, _, rfl, .inl (SqL.of hg), rfl, _, rfl, ite2 (fun c => absurd (V.int.inj (of_decide_eq_true c)) (by show ¬ ((2 : Nat) : Int) = 0; decide)) (fun c => ?_)⟩
      refine ⟨.ref g, rfl, g, _, rfl, .inl (SqL.of hg), rfl, _, rfl, ite2 (fun c => absurd (V.int.inj (of_decide_eq_true c)) (by show ¬ ((2 : Nat) : Int) = 1; decide)) (fun c => ?_)⟩
      exact ⟨rfl, _, rfl, .ref g, rfl, g, _, 0, _, rfl, rfl, SqL.of hg, atI_0, .ref g, rfl, g, _, 1, _, rfl, rfl, SqL.of hg, atI_1, b, p, x, y, rfl, hP, hG, q⟩
end
end Fs

set_option Elab.async false
set_option linter.all false
set_option maxRecDepth 100000
set_option maxHeartbeats 4000000
namespace Fs
open PySem PySem.Spec PyProof.Rows L2
open Sr110 (Shade Picture Call perform)
abbrev sAns : Stmt := top 49
abbrev nAns : List Str := ["calls", "shades", "answered", "place", "call", "end", "answer"]
theorem scAns : FnScope nAns ["calls"] (defScope sAns) := ⟨rfl, rfl, rfl, by decide +kernel, rfl, by decide +kernel, by decide +kernel⟩
/-- what the name shades holds, by the state: H0 is the heap at the start, A the list of answers -/
def ShAt (H0 H : Hp) (A : Addr) (v : V) : Sr110.State → Prop
  | none => v = .non
  | some p => ∃ b, v = .ref b ∧ b ≠ A ∧ H0 b = none ∧ PicM H b p ∧ Good p
theorem ShAt.past {H0 H H' : Hp} {A : Addr} {v : V} {st : Sr110.State} {xs : List V} {o : HO} (hA : H A = some (.lst xs)) (s : Same H H') (h : ShAt H0 H A v st) : ShAt H0 (upd H' A o) A v st := by
  cases st with
  | none => exact h
  | some p =>
    obtain ⟨b, e, ne, h0, hP, hG⟩ := h
    exact ⟨b, e, ne, h0, hP.past hA ne s, hG⟩
/-- what is handed over from a call's answer to its telling -/
def Mid (H0 : Hp) (a A : Addr) (i n : Nat) (e : Nat) (told : List Int) (st : Sr110.State) (res : SrCommon.Result) : L2.St → Hp → Prop := fun σ H => ∃ sh r, σ = [some (.ref a), some sh, some (.ref A), some (.int (i : Int)), some (.int (n : Int)), some (.int (e : Int)), some (.ref r)] ∧
  Same H0 H ∧ H A = some (.lst (told.map V.int)) ∧ ShAt H0 H A sh st ∧ r ≠ A ∧ H r = some (.lst ((res.code :: res.values).map V.int))
theorem req_cons {l : List Int} {cls : List Call} {x : Int} {r : List Int} (h : Req l cls) (e : l = x :: r) : ∃ c cs t, cls = c :: cs ∧ Rd l c t ∧ Req t cs := by
  cases h with
  | nil => cases e
  | cons h1 h2 => exact ⟨_, _, _, rfl, h1, h2⟩
theorem req_nil {cls : List Call} (h : Req [] cls) : cls = [] := by
  cases h with
  | nil => rfl
  | cons h1 _ => cases h1
section
variable {P : Program} {w : World} {K : PySem.W.Frag} {mg : Str → Option Value} {base : Heap}
def spAns (K : PySem.W.Frag) : Sp := fun vs H Q _ => ∃ (a : Addr) (ns : List Int), vs = [.ref a] ∧ SqL K H a (ns.map V.int) ∧ PySr110.answers_asked ns = true ∧
  ∀ (H' : Hp) (p : Addr), H' p = some (.lst ((PySr110.answers ns).map V.int)) → Q (.ref p) H'
theorem ok_ans {f : Addr} {fd : FuncData} (F : Fun K "answers" "answers" sAns f fd) (cE : Cal P w K mg base 1 "end_of_call" (spEnd K) []) (cA : Cal P w K mg base 9 "answer_of" (spAof K) []) (C : Con mg) (ml : mg "len" = none) :
    FnOk P w K mg base CX0 10 f fd ["calls"] (spAns K) := by
  refine F.ok scAns (fun vs H Q E h => ?_) (fun cdv A outer s H vs Q E hr h => ?_)
  · obtain ⟨a, ns, rfl, _⟩ := h
    rfl
  · obtain ⟨a, ns, rfl, hS, hask, q⟩ := h
    obtain ⟨t1, h1⟩ := C.cre
    obtain ⟨t2, h2⟩ := C.noi
    refine ⟨_, pss_cons (ps_set (i := 1) scAns.nd rfl (Or.inl rfl) pe_non)
      (pss_cons (ps_set (i := 2) scAns.nd rfl (Or.inl rfl) (pe_lst pa_nil))
      (pss_cons (ps_set (i := 3) scAns.nd rfl (Or.inl rfl) pe_int)
      (pss_cons (ps_while PassesOwn.never (pt_cmpR op_lt (pv 3) (pe_callB call_len_seq (by rfl) ml boot_len (pa_cons (pv 0) pa_nil)) (nomark _))
        (pss_cons (ps_set (i := 4) scAns.nd rfl (Or.inl rfl) (pe_ix ix_list (pv 0) (pv 3) (fun _ _ => rfl)))
        (pss_cons (ps_set (i := 5) scAns.nd rfl (Or.inl rfl) (C8.pe_c cE hr (by decide) (by rfl) (pa_cons (pv 0) (pa_cons (pv 3) pa_nil))))
        (C8.pss_cut (ps_if (pt_cmpR op_eq (pv 4) (pe_num h1) (nomark _))
            (pss_cons (ps_set (i := 1) scAns.nd rfl (Or.inl rfl) (pe_lst pa_nil)) (pss_one (ps_set (i := 6) scAns.nd rfl (Or.inl rfl) (pe_lst (pa_cons pe_int pa_nil)))))
            (pss_one (ps_if (pt_cmp (pc_isN (pv 1)))
              (pss_one (ps_set (i := 6) scAns.nd rfl (Or.inl rfl) (pe_lst (pa_cons (pe_num h2) pa_nil))))
              (pss_one (ps_set (i := 6) scAns.nd rfl (Or.inl rfl) (C8.pe_c cA hr (by decide) (by rfl) (pa_cons (pv 1) (pa_cons (pv 4) (pa_cons (pe_slice sl_list (pv 0) (po_some (pe_op op_add (pv 3) pe_int)) (po_some (pv 5))) pa_nil)))))))))
        (pss_cons (ps_expr (pe_bm PySem.F.plainAttrs_list PySem.F.slot_list_append PySem.F.type_list_append mt_append (pv 2) (pa_cons (pe_callB call_len_seq (by rfl) ml boot_len (pa_cons (pv 6) pa_nil)) pa_nil)))
        (pss_cons (ps_expr (pe_bm PySem.F.plainAttrs_list PySem.F.slot_list_extend PySem.F.type_list_extend mt_extend (pv 2) (pa_cons (pv 6) pa_nil)))
        (pss_one (ps_set (i := 3) scAns.nd rfl (Or.inl rfl) (pv 5)))))))))
      (pss_one (ps_ret (pv 2)))))), ?_⟩
    obtain ⟨cls0, hreq0, _, _, hans, hshort⟩ := asked_req hask
    -- answered = []
    refine ⟨Nat.zero_le _, fun A nA => ?_⟩
    have s0 : Same H (upd H A (.lst [])) := Same.up nA
    refine ⟨fun m σ H' => ∃ i sh st cls told x4 x5 x6, σ = [some (.ref a), some sh, some (.ref A), some (.int ((i : Nat) : Int)), x4, x5, x6] ∧ m = ns.length - i ∧ Req (ns.drop i) cls ∧ Same H H' ∧ H' A = some (.lst (told.map V.int)) ∧ ShAt H H' A sh st ∧ told ++ rows st cls = PySr110.answers ns,
      ⟨ns.length, 0, .non, none, cls0, [], none, none, none, rfl, rfl, hreq0, s0, upd_same, rfl, hans.symm⟩, ?_⟩
    rintro m σ H1 ⟨i, sh, st, cls, told, x4, x5, x6, rfl, rfl, hreq, sm, hA, hsh, htold⟩
    refine ⟨_, rfl, .ref a, rfl, a, _, rfl, .inl (sm.seq hS), _, _, rfl, rfl, _, rfl, ite2 (fun c => ?_) (fun c => ?_)⟩
    · have c := of_decide_eq_true c
      rw [List.length_map] at c
      have hi : i < ns.length := by omega
      obtain ⟨x, r0, hx⟩ : ∃ x r, ns.drop i = x :: r := ⟨_, _, List.drop_eq_getElem_cons hi⟩
      obtain ⟨c0, cs, t, rfl, hrd, hreq'⟩ := req_cons hreq hx
      obtain ⟨n, args, hl, hn, hL, hk⟩ := rd_lies K hrd
      obtain ⟨g1, g2, g3⟩ := drop_at hl
      have hend : i + 1 + args.length ≤ ns.length := by
        have h5 := congrArg List.length g2
        rw [List.length_drop, List.length_append] at h5
        omega
      have hnext : ns.drop (i + 1 + args.length) = t := by
        rw [← List.drop_drop, g2, List.drop_left]
      refine ⟨fun σ' H' => ∃ sh st told x4 x5 x6, σ' = [some (.ref a), some sh, some (.ref A), some (.int ((i + 1 + args.length : Nat) : Int)), x4, x5, x6] ∧ Same H H' ∧ H' A = some (.lst (told.map V.int)) ∧ ShAt H H' A sh st ∧ told ++ rows st cs = PySr110.answers ns, ?_, ?_⟩
      · rintro σ' H' ⟨sh, st, told, x4, x5, x6, rfl, sm', hA', hsh', htold'⟩
        exact ⟨ns.length - (i + 1 + args.length), by omega, i + 1 + args.length, sh, st, cs, told, x4, x5, x6, rfl, rfl, by rw [hnext]; exact hreq', sm', hA', hsh', htold'⟩
      -- call = calls[place]; end = end_of_call(calls, place)
      refine ⟨.ref a, rfl, _, rfl, a, _, (i : Int), _, rfl, rfl, sm.seq hS, atI_nat (ints_get g1), ?_⟩
      refine ⟨.ref a, rfl, _, rfl, a, i, n, ns, args, t, rfl, sm.seq hS, hl, hn, hL, ?_⟩
      refine ⟨Mid H a A i n (i + 1 + args.length) told (Sr110.step st c0).1 (Sr110.step st c0).2, ?_, ?_⟩
      · -- the answer
        refine ⟨_, rfl, rfl, _, rfl, ?_⟩
        rcases hk with ⟨rfl, rfl⟩ | ⟨hn1, hne, hT⟩
        · refine ite2 (fun _ => ?_) (fun c => absurd (decide_eq_true rfl) c)
          refine ⟨Nat.zero_le _, fun b nb => ?_⟩
          have s1 : Same H1 (upd H1 b (.lst [])) := Same.up nb
          have hbA : b ≠ A := (ne_of_none hA nb).symm
          refine ⟨by show 1 ≤ sizeLine; decide, fun r nr => ?_⟩
          have s2 := Same.up (o := .lst [V.int 0]) nr
          refine ⟨.ref b, r, rfl, (sm.trans s1).trans s2, s2 _ _ (s1 _ _ hA), ?_, (ne_of_none (s1 _ _ hA) nr).symm, upd_same⟩
          rw [step_create]
          exact ⟨b, rfl, hbA, sm.free nb, ⟨[], s2 _ _ upd_same, trivial⟩, Good.nil⟩
        · refine ite2 (fun c => absurd (V.int.inj (of_decide_eq_true c)) (by omega)) (fun _ => ?_)
          cases st with
          | none =>
            cases hsh
            refine ⟨.non, rfl, _, rfl, ite2 (fun _ => ?_) (fun c => absurd (decide_eq_true rfl) c)⟩
            refine ⟨by show 1 ≤ sizeLine; decide, fun r nr => ?_⟩
            have s2 := Same.up (o := .lst [V.int (-11)]) nr
            refine ⟨.non, r, rfl, sm.trans s2, s2 _ _ hA, ?_, (ne_of_none hA nr).symm, ?_⟩
            · rw [step_none hne]
              exact rfl
            · rw [step_none hne]
              exact upd_same
          | some p =>
            obtain ⟨b, rfl, hbA, hb0, hP, hG⟩ := hsh
            refine ⟨.ref b, rfl, _, rfl, ite2 (fun c => absurd (of_decide_eq_true c) (fun z => nomatch z)) (fun _ => ?_)⟩
            refine ⟨_, rfl, _, rfl, .ref a, rfl, _, rfl, _, _, rfl, rfl, (i : Int) + 1, rfl, _, rfl, ((i + 1 + args.length : Nat) : Int), rfl, a, _, rfl, sm.seq hS, fun g ng => ?_⟩
            have ec : cutV (ns.map V.int) (some ((i : Int) + 1)) (some ((i + 1 + args.length : Nat) : Int)) = args.map V.int := by
              rw [show (i : Int) + 1 = ((i + 1 : Nat) : Int) by omega, cut_seg (by omega) (by rw [List.length_map]; exact hend), ← List.map_drop, g2, ← List.map_take]
              congr 1
              rw [show i + 1 + args.length - (i + 1) = args.length by omega, List.take_left]
            rw [ec]
            have s1 := Same.up (o := .lst (args.map V.int)) ng
            refine ⟨b, g, p, n, args, c0, rfl, hP.mono s1, hG, upd_same, hn1, hn, hT, fun H2 r dn => ?_⟩
            have hA1 := s1 _ _ hA
            refine ⟨.ref b, r, rfl, SameBut.same hb0 (sm.trans s1) dn.but, dn.but _ _ hbA.symm hA1, ?_, (ne_of_none hA1 dn.new).symm, ?_⟩
            · rw [step_some p hne]
              exact ⟨b, rfl, hbA, hb0, dn.pic, good_step hG c0⟩
            · rw [step_some p hne]
              exact dn.row
      · -- its telling
        rintro σ' H2 ⟨sh', r, rfl, sm2, hA2, hsh2, hrA, hr2⟩
        have hrows : rows st (c0 :: cs) = rowT (Sr110.step st c0).2 ++ rows (Sr110.step st c0).1 cs := rfl
        have hlen : told.length + ((Sr110.step st c0).2.values.length + 2) ≤ 10000000 := by
          have h5 := congrArg List.length htold
          rw [hrows, List.length_append, List.length_append] at h5
          have h6 : (rowT (Sr110.step st c0).2).length = (Sr110.step st c0).2.values.length + 2 := rfl
          omega
        refine ⟨.ref A, rfl, .inl ⟨rfl, _, SqL.of hA2⟩, .ref r, rfl, r, _, rfl, .inl (SqL.of hr2), A, _, _, rfl, rfl, hA2, ?_, ?_⟩
        · rw [List.length_map, sizeLine_eq]
          omega
        refine ⟨.ref A, rfl, .inl ⟨rfl, _, SqL.of upd_same⟩, .ref r, rfl, A, r, _, _, rfl, rfl, upd_same, by rw [upd_ne hrA]; exact hr2, ?_, ?_⟩
        · rw [List.length_append, List.length_map, List.length_map, sizeLine_eq]
          show told.length + 1 + ((Sr110.step st c0).2.values.length + 1) ≤ _
          omega
        refine ⟨_, rfl, sh', (Sr110.step st c0).1, told ++ rowT (Sr110.step st c0).2, _, _, _, rfl, (sm2.mut nA).mut nA, ?_, ?_, ?_⟩
        · rw [upd_same]
          have e : (((Sr110.step st c0).2.code :: (Sr110.step st c0).2.values).map V.int).length = (Sr110.step st c0).2.values.length + 1 := by rw [List.length_map]; rfl
          rw [e, List.map_append, List.append_assoc]
          rfl
        · exact (hsh2.past hA2 (Same.refl _)).past upd_same (Same.refl _)
        · rw [List.append_assoc, ← hrows]
          exact htold
    · have c : ¬ (i : Int) < ((ns.map V.int).length : Int) := fun z => c (decide_eq_true z)
      rw [List.length_map] at c
      have hnil : ns.drop i = [] := List.drop_eq_nil_of_le (by omega)
      rw [hnil] at hreq
      have := req_nil hreq
      subst this
      refine ⟨.ref A, rfl, q H1 A ?_⟩
      rw [hA, ← htold]
      show _ = some (HO.lst ((told ++ []).map V.int))
      rw [List.append_nil]
end
end Fs

set_option Elab.async false
set_option linter.all false
set_option maxRecDepth 100000
set_option maxHeartbeats 8000000
namespace Fs
open PySem PySem.Spec PyProof.Rows L2
/-- an entry of a written dict whose key is a whole number -/
def intE (e : DictEntry) : Bool := match e.key with
  | .int i _ => e.hash == hashInt i
  | _ => false
theorem intE_nums {es : Array DictEntry} (h : es.toList.all intE = true) : ∀ e ∈ es.toList, ∃ i t, e.key = .int i t ∧ e.hash = hashInt i := fun e he => by
  have q := List.all_eq_true.mp h e he
  unfold intE at q
  split at q
  · rename_i i t hk
    exact ⟨i, t, hk, eq_of_beq q⟩
  · cases q
/-- what the top says of a def -/
structure At (K : PySem.W.Frag) (x : Str) (st : Stmt) (f : Addr) : Prop where
  ns : PySem.W.nsIn K mainGlobals x = some (some (.ref f))
  ex : ∃ (oc : Value) (od an : Option Addr) (sl : Array (Option Value)) (kV dc pm cd ct : Value), K.lookup f = some ⟨oc, od, .func (PySem.W.fnOf x x (defArgs st) (defBody st) (defScope st) .none kV dc pm an cd ct), sl⟩ ∧ PySem.W.codeIn K cd x = true ∧ PySem.W.keepIn K (.ref f) = true
theorem at_mk {K : PySem.W.Frag} {x : Str} {st : Stmt} {f : Addr} {oc : Value} {od an : Option Addr} {sl : Array (Option Value)} {kV dc pm cd ct : Value} (n : PySem.W.nsIn K mainGlobals x = some (some (.ref f)))
    (l : K.lookup f = some ⟨oc, od, .func (PySem.W.fnOf x x (defArgs st) (defBody st) (defScope st) .none kV dc pm an cd ct), sl⟩) (c : PySem.W.codeIn K cd x = true) (k : PySem.W.keepIn K (.ref f) = true) : At K x st f :=
  ⟨n, oc, od, an, sl, kV, dc, pm, cd, ct, l, c, k⟩
theorem At.fn {K : PySem.W.Frag} {x : Str} {st : Stmt} {f : Addr} (a : At K x st f) : ∃ fd, Fun K x x st f fd := by
  obtain ⟨oc, od, an, sl, kV, dc, pm, cd, ct, h1, h2, h3⟩ := a.ex
  exact ⟨_, fun_mk h1 h2 h3⟩
theorem At.df {K : PySem.W.Frag} {x : Str} {st : Stmt} {f : Addr} {h : Heap} {mg : Str → Option Value} (X : K.In h) (G : h.Ns mainGlobals mg) (a : At K x st f) : Df K mg x st := by
  obtain ⟨fd, F⟩ := a.fn
  exact ⟨f, fd, F, PySem.W.mg_of X G a.ns⟩
theorem held_mk {P : Program} {w : World} {K : PySem.W.Frag} {mg : Str → Option Value} {base : Heap} {k : Nat} {x : Str} {st : Stmt} {f : Addr} {ps : List Str} {sp : Sp} (a : At K x st f)
    (hb : ∀ (kV doc pm : Value) (an : Option Addr) (cdv ct : Value) (us : List Value), us.length = ps.length → bindArgs (PySem.W.fnOf x x (defArgs st) (defBody st) (defScope st) .none kV doc pm an cdv ct) ⟨us, []⟩ = pure (ps.zip us))
    (h : ∀ fd, Fun K x x st f fd → FnOk P w K mg base CX0 k f fd ps sp) : Held P w K mg base k f sp := by
  obtain ⟨fd, F⟩ := a.fn
  exact ⟨fd, ps, h fd F, F.kp, F.binds hb⟩
theorem all_mk {P : Program} {w : World} {K : PySem.W.Frag} {h : Heap} {mg : Str → Option Value} {fa : Addr} (X : K.In h) (G : h.Ns mainGlobals mg) (hfa : mg "answers" = some (.ref fa))
    {f1 : Addr} (a1 : At K "tiles_of" sTil f1)
    {f2 : Addr} (a2 : At K "median_of" sMed f2)
    {f3 : Addr} (a3 : At K "error_of" sErr f3)
    {f4 : Addr} (a4 : At K "errors_of_groups" sErrs f4)
    {f5 : Addr} (a5 : At K "with_one_group_more" sStep f5)
    {f6 : Addr} (a6 : At K "best_sizes" sSizes f6)
    {f7 : Addr} (a7 : At K "best_division" sDiv f7)
    {f8 : Addr} (a8 : At K "minimum_error" sMinE f8)
    {f9 : Addr} (a9 : At K "distance" sDis f9)
    {f10 : Addr} (a10 : At K "error_with_palette" sEwp f10)
    {f25 : Addr} (a25 : At K "is_brightness" sLev f25)
    {f26 : Addr} (a26 : At K "is_count" sCnt f26)
    {f27 : Addr} (a27 : At K "is_palette" sPlt f27)
    {f28 : Addr} (a28 : At K "has_shade" sHas f28)
    {f29 : Addr} (a29 : At K "colours_fault" sFlt f29)
    {f30 : Addr} (a30 : At K "add_shade" sAdd f30)
    {f31 : Addr} (a31 : At K "remove_shade" sRem f31)
    {f32 : Addr} (a32 : At K "set_count" sSet f32)
    {f33 : Addr} (a33 : At K "min_error" sMin f33)
    {f34 : Addr} (a34 : At K "best_palette" sPal f34)
    {f35 : Addr} (a35 : At K "best_groups" sGrp f35)
    {f36 : Addr} (a36 : At K "colour_of" sCol f36)
    {f37 : Addr} (a37 : At K "error_reduction" sRed f37)
    {f38 : Addr} (a38 : At K "error_table" sTab f38)
    {f39 : Addr} (a39 : At K "min_colours" sMnc f39)
    {f40 : Addr} (a40 : At K "palette_error" sPer f40)
    {f41 : Addr} (a41 : At K "median" sMdn f41)
    {f42 : Addr} (a42 : At K "group_counts" sGct f42)
    {f43 : Addr} (a43 : At K "totals" sTot f43)
    {f44 : Addr} (a44 : At K "describe" sDes f44)
    {f47 : Addr} (a47 : At K "end_of_call" sEnd f47)
    {f48 : Addr} (a48 : At K "answer_of" sAof f48)
    {f49 : Addr} {od an : Option Addr} {sl : Array (Option Value)} {oc kV dc pm cd ct : Value} (n49 : PySem.W.nsIn K mainGlobals "answers" = some (some (.ref f49))) (l49 : K.lookup f49 = some ⟨oc, od, .func (PySem.W.fnOf "answers" "answers" (defArgs sAns) (defBody sAns) (defScope sAns) .none kV dc pm an cd ct), sl⟩) (c49 : PySem.W.codeIn K cd "answers" = true) (k49 : PySem.W.keepIn K (.ref f49) = true)
    {t_noi : Tok} (n_noi : PySem.W.nsIn K mainGlobals "NO_INSTANCE" = some (some (.int (-11) t_noi)))
    {t_nos : Tok} (n_nos : PySem.W.nsIn K mainGlobals "NO_SUCH_SHADE" = some (some (.int (-2) t_nos)))
    {t_tak : Tok} (n_tak : PySem.W.nsIn K mainGlobals "LEVEL_TAKEN" = some (some (.int (-17) t_tak)))
    {t_oor : Tok} (n_oor : PySem.W.nsIn K mainGlobals "OUT_OF_RANGE" = some (some (.int (-22) t_oor)))
    {t_many : Tok} (n_many : PySem.W.nsIn K mainGlobals "TOO_MANY_SHADES" = some (some (.int (-28) t_many)))
    {t_noc : Tok} (n_noc : PySem.W.nsIn K mainGlobals "NO_COLOURS" = some (some (.int (-33) t_noc)))
    {t_hil : Tok} (n_hil : PySem.W.nsIn K mainGlobals "HIGHEST_BRIGHTNESS" = some (some (.int 255 t_hil)))
    {t_hic : Tok} (n_hic : PySem.W.nsIn K mainGlobals "HIGHEST_COUNT" = some (some (.int 999 t_hic)))
    {t_mos : Tok} (n_mos : PySem.W.nsIn K mainGlobals "MOST_SHADES" = some (some (.int 12 t_mos)))
    {t_moc : Tok} (n_moc : PySem.W.nsIn K mainGlobals "MOST_COLOURS" = some (some (.int 12 t_moc)))
    {t_cre : Tok} (n_cre : PySem.W.nsIn K mainGlobals "CREATE" = some (some (.int 0 t_cre)))
    {t_pal : Tok} (n_pal : PySem.W.nsIn K mainGlobals "PALETTE_ERROR" = some (some (.int 11 t_pal)))
    {t_nod : Tok} (n_nod : PySem.W.nsIn K mainGlobals "NO_DIVISION" = some (some (.int (-1) t_nod)))
    (z_sum : PySem.W.nsIn K mainGlobals "sum" = some none)
    (z_len : PySem.W.nsIn K mainGlobals "len" = some none)
    (z_range : PySem.W.nsIn K mainGlobals "range" = some none)
    (z_min : PySem.W.nsIn K mainGlobals "min" = some none)
    (z_abs : PySem.W.nsIn K mainGlobals "abs" = some none)
    (z_all : PySem.W.nsIn K mainGlobals "all" = some none)
    {d1 : Addr} (o1 : PySem.W.nsIn K mainGlobals "OPERATIONS" = some (some (.ref d1))) {es : Array DictEntry} {m1 : Nat} (o2 : K.lookup d1 = some ⟨.type "dict", none, .dict es m1, #[]⟩) (hes : es.toList.all intE = true)
    (e1 : findBy Value.isInt es 1 = some (.ref f30))
    (e2 : findBy Value.isInt es 2 = some (.ref f31))
    (e3 : findBy Value.isInt es 3 = some (.ref f32))
    (e4 : findBy Value.isInt es 4 = some (.ref f33))
    (e5 : findBy Value.isInt es 5 = some (.ref f34))
    (e6 : findBy Value.isInt es 6 = some (.ref f35))
    (e7 : findBy Value.isInt es 7 = some (.ref f36))
    (e8 : findBy Value.isInt es 8 = some (.ref f37))
    (e9 : findBy Value.isInt es 9 = some (.ref f38))
    (e10 : findBy Value.isInt es 10 = some (.ref f39))
    (e11 : findBy Value.isInt es 11 = some (.ref f40))
    (e12 : findBy Value.isInt es 12 = some (.ref f41))
    (e13 : findBy Value.isInt es 13 = some (.ref f42))
    (e14 : findBy Value.isInt es 14 = some (.ref f43))
    (e15 : findBy Value.isInt es 15 = some (.ref f44))
    {d2 : Addr} (p1 : PySem.W.nsIn K mainGlobals "PARAMETER_COUNTS" = some (some (.ref d2))) {o : Obj} (p2 : K.lookup d2 = some o) (hp : o.cls = .type "tuple" ∧ ∃ (its : Array Value) (n : Nat), o.data = .seq its n ∧ its.size ≤ sizeLine ∧ Vals (parL.map V.int) its.toList) :
    ∃ fd : FuncData, (∀ (s : Shared) (us : List Value), us.length = (["calls"] : List Str).length → BindsTo s fd ⟨us, []⟩ ((["calls"] : List Str).zip us)) ∧ ∀ base : Heap, K.In base → base.Ns mainGlobals mg → FnOk P w K mg base CX0 10 fa fd ["calls"] (spAns K) := by
  have e := hfa.symm.trans (PySem.W.mg_of X G n49)
  cases e
  have C : Con mg := ⟨⟨_, PySem.W.mg_of X G n_noi⟩, ⟨_, PySem.W.mg_of X G n_nos⟩, ⟨_, PySem.W.mg_of X G n_tak⟩, ⟨_, PySem.W.mg_of X G n_oor⟩, ⟨_, PySem.W.mg_of X G n_many⟩, ⟨_, PySem.W.mg_of X G n_noc⟩, ⟨_, PySem.W.mg_of X G n_hil⟩, ⟨_, PySem.W.mg_of X G n_hic⟩, ⟨_, PySem.W.mg_of X G n_mos⟩, ⟨_, PySem.W.mg_of X G n_moc⟩, ⟨_, PySem.W.mg_of X G n_cre⟩, ⟨_, PySem.W.mg_of X G n_pal⟩, ⟨_, PySem.W.mg_of X G n_nod⟩⟩
  have b_sum : mg "sum" = none := PySem.W.mg_none_of X G z_sum
  have b_len : mg "len" = none := PySem.W.mg_none_of X G z_len
  have b_range : mg "range" = none := PySem.W.mg_none_of X G z_range
  have b_min : mg "min" = none := PySem.W.mg_none_of X G z_min
  have b_abs : mg "abs" = none := PySem.W.mg_none_of X G z_abs
  have b_all : mg "all" = none := PySem.W.mg_none_of X G z_all
  have N : Cnts K mg := by
    obtain ⟨hc, its, n, hd, hs, hv⟩ := hp
    exact ⟨d2, PySem.W.mg_of X G p1, o, its, n, p2, hc, hd, hs, hv⟩
  have F49 := fun_mk (st := sAns) l49 c49 k49
  refine ⟨PySem.W.fnOf "answers" "answers" (defArgs sAns) (defBody sAns) (defScope sAns) .none kV dc pm an cd ct, fun s us hu => match us, hu with | [_], _ => .of_eq rfl, fun base _ _ => ?_⟩
  have cTil : Cal P w K mg base 1 "tiles_of" (spTil K) [] := cal_mk (ps := ["group"]) (a1.df X G) (fun _ _ _ _ _ _ us hl => match us, hl with | [_], _ => rfl) fun f fd F => ok_til F b_sum
  have cMed : Cal P w K mg base 2 "median_of" (spMed K) [] := cal_mk (ps := ["group"]) (a2.df X G) (fun _ _ _ _ _ _ us hl => match us, hl with | [_], _ => rfl) fun f fd F => ok_med F cTil
  have cErr : Cal P w K mg base 3 "error_of" (spErr K) [] := cal_mk (ps := ["group"]) (a3.df X G) (fun _ _ _ _ _ _ us hl => match us, hl with | [_], _ => rfl) fun f fd F => ok_err F cMed b_sum b_abs
  have cErrs : Cal P w K mg base 4 "errors_of_groups" (spErrs K) [] := cal_mk (ps := ["shades"]) (a4.df X G) (fun _ _ _ _ _ _ us hl => match us, hl with | [_], _ => rfl) fun f fd F => ok_errs F cErr b_len b_range
  have cStep : Cal P w K mg base 1 "with_one_group_more" (spStep K) [] := cal_mk (ps := ["errors", "rests"]) (a5.df X G) (fun _ _ _ _ _ _ us hl => match us, hl with | [_, _], _ => rfl) fun f fd F => ok_step F b_len b_range b_min
  have cSizes : Cal P w K mg base 5 "best_sizes" (spSizes K) [] := cal_mk (ps := ["shades", "k"]) (a6.df X G) (fun _ _ _ _ _ _ us hl => match us, hl with | [_, _], _ => rfl) fun f fd F => ok_sizes F cErrs cStep b_len b_range
  have cDiv : Cal P w K mg base 6 "best_division" (spDiv K) [] := cal_mk (ps := ["shades", "k"]) (a7.df X G) (fun _ _ _ _ _ _ us hl => match us, hl with | [_, _], _ => rfl) fun f fd F => ok_div F cSizes
  have cMinE : Cal P w K mg base 7 "minimum_error" (spMinE K) [] := cal_mk (ps := ["shades", "k"]) (a8.df X G) (fun _ _ _ _ _ _ us hl => match us, hl with | [_, _], _ => rfl) fun f fd F => ok_minE F cDiv cErr b_sum
  have cDis : Cal P w K mg base 1 "distance" (spDis K) [] := cal_mk (ps := ["level", "palette"]) (a9.df X G) (fun _ _ _ _ _ _ us hl => match us, hl with | [_, _], _ => rfl) fun f fd F => ok_dis F b_min b_abs
  have cEwp : Cal P w K mg base 2 "error_with_palette" (spEwp K) [] := cal_mk (ps := ["shades", "palette"]) (a10.df X G) (fun _ _ _ _ _ _ us hl => match us, hl with | [_, _], _ => rfl) fun f fd F => ok_ewp F cDis b_sum
  have cLev : Cal P w K mg base 1 "is_brightness" spLev [] := cal_mk (ps := ["number"]) (a25.df X G) (fun _ _ _ _ _ _ us hl => match us, hl with | [_], _ => rfl) fun f fd F => ok_lev F C
  have cCnt : Cal P w K mg base 1 "is_count" spCnt [] := cal_mk (ps := ["count"]) (a26.df X G) (fun _ _ _ _ _ _ us hl => match us, hl with | [_], _ => rfl) fun f fd F => ok_cnt F C
  have cPlt : Cal P w K mg base 2 "is_palette" (spPlt K) [] := cal_mk (ps := ["palette"]) (a27.df X G) (fun _ _ _ _ _ _ us hl => match us, hl with | [_], _ => rfl) fun f fd F => ok_plt F cLev C b_len b_all
  have cHas : Cal P w K mg base 1 "has_shade" spHas [] := cal_mk (ps := ["shades", "i"]) (a28.df X G) (fun _ _ _ _ _ _ us hl => match us, hl with | [_, _], _ => rfl) fun f fd F => ok_has F b_len
  have cFlt : Cal P w K mg base 1 "colours_fault" spFlt [] := cal_mk (ps := ["shades", "k"]) (a29.df X G) (fun _ _ _ _ _ _ us hl => match us, hl with | [_, _], _ => rfl) fun f fd F => ok_flt F C b_len
  have cEnd : Cal P w K mg base 1 "end_of_call" (spEnd K) [] := cal_mk (ps := ["calls", "place"]) (a47.df X G) (fun _ _ _ _ _ _ us hl => match us, hl with | [_, _], _ => rfl) fun f fd F => ok_end F C N
  have O : Opts P w K mg base := by
    refine ⟨d1, es, m1, PySem.W.mg_of X G o1, ⟨o2, intE_nums hes⟩, fun n hn1 hn2 => ?_⟩
    obtain rfl | rfl | rfl | rfl | rfl | rfl | rfl | rfl | rfl | rfl | rfl | rfl | rfl | rfl | rfl : n = 1 ∨ n = 2 ∨ n = 3 ∨ n = 4 ∨ n = 5 ∨ n = 6 ∨ n = 7 ∨ n = 8 ∨ n = 9 ∨ n = 10 ∨ n = 11 ∨ n = 12 ∨ n = 13 ∨ n = 14 ∨ n = 15 := by omega
    · exact ⟨f30, e1, held_mk (ps := ["shades", "level", "count"]) a30 (fun _ _ _ _ _ _ us hl => match us, hl with | [_, _, _], _ => rfl) fun fd F => ok_add (k := 6) F cLev cCnt C b_len⟩
    · exact ⟨f31, e2, held_mk (ps := ["shades", "i"]) a31 (fun _ _ _ _ _ _ us hl => match us, hl with | [_, _], _ => rfl) fun fd F => ok_rem (k := 6) F cHas C b_len⟩
    · exact ⟨f32, e3, held_mk (ps := ["shades", "i", "count"]) a32 (fun _ _ _ _ _ _ us hl => match us, hl with | [_, _, _], _ => rfl) fun fd F => ok_set (k := 6) F cHas cCnt C⟩
    · exact ⟨f33, e4, held_mk (ps := ["shades", "k"]) a33 (fun _ _ _ _ _ _ us hl => match us, hl with | [_, _], _ => rfl) fun fd F => ok_min F cFlt cMinE⟩
    · exact ⟨f34, e5, held_mk (ps := ["shades", "k"]) a34 (fun _ _ _ _ _ _ us hl => match us, hl with | [_, _], _ => rfl) fun fd F => ok_pal F cFlt cDiv cMed b_len⟩
    · exact ⟨f35, e6, held_mk (ps := ["shades", "k"]) a35 (fun _ _ _ _ _ _ us hl => match us, hl with | [_, _], _ => rfl) fun fd F => ok_grp F cFlt cDiv cErr b_len⟩
    · exact ⟨f36, e7, held_mk (ps := ["shades", "i", "k"]) a36 (fun _ _ _ _ _ _ us hl => match us, hl with | [_, _, _], _ => rfl) fun fd F => ok_col F cFlt cDiv cMed cHas C b_len⟩
    · exact ⟨f37, e8, held_mk (ps := ["shades", "k"]) a37 (fun _ _ _ _ _ _ us hl => match us, hl with | [_, _], _ => rfl) fun fd F => ok_red F cFlt cMinE⟩
    · exact ⟨f38, e9, held_mk (ps := ["shades"]) a38 (fun _ _ _ _ _ _ us hl => match us, hl with | [_], _ => rfl) fun fd F => ok_tab F cMinE C b_len b_range⟩
    · exact ⟨f39, e10, held_mk (ps := ["shades", "max_error"]) a39 (fun _ _ _ _ _ _ us hl => match us, hl with | [_, _], _ => rfl) fun fd F => ok_mnc F cMinE C b_len⟩
    · exact ⟨f40, e11, held_mk (ps := ["shades", "palette"]) a40 (fun _ _ _ _ _ _ us hl => match us, hl with | [_, _], _ => rfl) fun fd F => ok_per F cPlt cEwp C⟩
    · exact ⟨f41, e12, held_mk (ps := ["shades", "i", "j"]) a41 (fun _ _ _ _ _ _ us hl => match us, hl with | [_, _, _], _ => rfl) fun fd F => ok_mdn F cHas cMed cErr C⟩
    · exact ⟨f42, e13, held_mk (ps := ["shades", "k"]) a42 (fun _ _ _ _ _ _ us hl => match us, hl with | [_, _], _ => rfl) fun fd F => ok_gct F cFlt cDiv cTil b_len⟩
    · exact ⟨f43, e14, held_mk (ps := ["shades"]) a43 (fun _ _ _ _ _ _ us hl => match us, hl with | [_], _ => rfl) fun fd F => ok_tot F cTil b_len⟩
    · exact ⟨f44, e15, held_mk (ps := ["shades"]) a44 (fun _ _ _ _ _ _ us hl => match us, hl with | [_], _ => rfl) fun fd F => ok_des F b_len⟩
  have cAof : Cal P w K mg base 9 "answer_of" (spAof K) [] := cal_mk (ps := ["shades", "call", "given"]) (a48.df X G) (fun _ _ _ _ _ _ us hl => match us, hl with | [_, _, _], _ => rfl) fun f fd F => ok_aof F C O b_len
  exact ok_ans F49 cEnd cAof C b_len
end Fs
open PySem PySem.W PyProof.Rows
set_option maxRecDepth 100000 in
set_option maxHeartbeats 16000000 in
theorem PySem.Challenge.cw_fewstones_s01_answers_holds : PySem.Challenge.rw_fewstones_s01_answers.Holds := by
  w_on; k_headS; (case hw => exact ⟨[.list [.int 0]], by decide +kernel, by decide +kernel⟩)
  k_fillS
  refine L2.walk_specK (r := PySem.Challenge.rw_fewstones_s01_answers) (k := 10) (CX := L2.CX0) (ps := ["calls"]) (sp := Fs.spAns) (by decide +kernel) rfl rfl ⟨rfl, by decide, by decide⟩ (fun w h Y => PySem.W.kIn_of Y) ?F ?S (fun _ _ _ _ z => z)
  case F =>
    intro w mg fa h Y KX G hmg
    refine' Fs.all_mk KX G hmg (Fs.at_mk ?n1 ?l1 ?c1 ?k1) (Fs.at_mk ?n2 ?l2 ?c2 ?k2) (Fs.at_mk ?n3 ?l3 ?c3 ?k3) (Fs.at_mk ?n4 ?l4 ?c4 ?k4) (Fs.at_mk ?n5 ?l5 ?c5 ?k5) (Fs.at_mk ?n6 ?l6 ?c6 ?k6) (Fs.at_mk ?n7 ?l7 ?c7 ?k7) (Fs.at_mk ?n8 ?l8 ?c8 ?k8) (Fs.at_mk ?n9 ?l9 ?c9 ?k9) (Fs.at_mk ?n10 ?l10 ?c10 ?k10) (Fs.at_mk ?n25 ?l25 ?c25 ?k25) (Fs.at_mk ?n26 ?l26 ?c26 ?k26) (Fs.at_mk ?n27 ?l27 ?c27 ?k27) (Fs.at_mk ?n28 ?l28 ?c28 ?k28) (Fs.at_mk ?n29 ?l29 ?c29 ?k29) (Fs.at_mk ?n30 ?l30 ?c30 ?k30) (Fs.at_mk ?n31 ?l31 ?c31 ?k31) (Fs.at_mk ?n32 ?l32 ?c32 ?k32) (Fs.at_mk ?n33 ?l33 ?c33 ?k33) (Fs.at_mk ?n34 ?l34 ?c34 ?k34) (Fs.at_mk ?n35 ?l35 ?c35 ?k35) (Fs.at_mk ?n36 ?l36 ?c36 ?k36) (Fs.at_mk ?n37 ?l37 ?c37 ?k37) (Fs.at_mk ?n38 ?l38 ?c38 ?k38) (Fs.at_mk ?n39 ?l39 ?c39 ?k39) (Fs.at_mk ?n40 ?l40 ?c40 ?k40) (Fs.at_mk ?n41 ?l41 ?c41 ?k41) (Fs.at_mk ?n42 ?l42 ?c42 ?k42) (Fs.at_mk ?n43 ?l43 ?c43 ?k43) (Fs.at_mk ?n44 ?l44 ?c44 ?k44) (Fs.at_mk ?n47 ?l47 ?c47 ?k47) (Fs.at_mk ?n48 ?l48 ?c48 ?k48) ?n49 ?l49 ?c49 ?k49 ?n_noi ?n_nos ?n_tak ?n_oor ?n_many ?n_noc ?n_hil ?n_hic ?n_mos ?n_moc ?n_cre ?n_pal ?n_nod ?z_sum ?z_len ?z_range ?z_min ?z_abs ?z_all ?o1 ?o2 ?hes ?e1 ?e2 ?e3 ?e4 ?e5 ?e6 ?e7 ?e8 ?e9 ?e10 ?e11 ?e12 ?e13 ?e14 ?e15 ?p1 ?p2 ?hp
    (case n1 => k_is)
    (case l1 => k_is)
    (case c1 => k_is)
    (case k1 => k_is)
    (case n2 => k_is)
    (case l2 => k_is)
    (case c2 => k_is)
    (case k2 => k_is)
    (case n3 => k_is)
    (case l3 => k_is)
    (case c3 => k_is)
    (case k3 => k_is)
    (case n4 => k_is)
    (case l4 => k_is)
    (case c4 => k_is)
    (case k4 => k_is)
    (case n5 => k_is)
    (case l5 => k_is)
    (case c5 => k_is)
    (case k5 => k_is)
    (case n6 => k_is)
    (case l6 => k_is)
    (case c6 => k_is)
    (case k6 => k_is)
    (case n7 => k_is)
    (case l7 => k_is)
    (case c7 => k_is)
    (case k7 => k_is)
    (case n8 => k_is)
    (case l8 => k_is)
    (case c8 => k_is)
    (case k8 => k_is)
    (case n9 => k_is)
    (case l9 => k_is)
    (case c9 => k_is)
    (case k9 => k_is)
    (case n10 => k_is)
    (case l10 => k_is)
    (case c10 => k_is)
    (case k10 => k_is)
    (case n25 => k_is)
    (case l25 => k_is)
    (case c25 => k_is)
    (case k25 => k_is)
    (case n26 => k_is)
    (case l26 => k_is)
    (case c26 => k_is)
    (case k26 => k_is)
    (case n27 => k_is)
    (case l27 => k_is)
    (case c27 => k_is)
    (case k27 => k_is)
    (case n28 => k_is)
    (case l28 => k_is)
    (case c28 => k_is)
    (case k28 => k_is)
    (case n29 => k_is)
    (case l29 => k_is)
    (case c29 => k_is)
    (case k29 => k_is)
    (case n30 => k_is)
    (case l30 => k_is)
    (case c30 => k_is)
    (case k30 => k_is)
    (case n31 => k_is)
    (case l31 => k_is)
    (case c31 => k_is)
    (case k31 => k_is)
    (case n32 => k_is)
    (case l32 => k_is)
    (case c32 => k_is)
    (case k32 => k_is)
    (case n33 => k_is)
    (case l33 => k_is)
    (case c33 => k_is)
    (case k33 => k_is)
    (case n34 => k_is)
    (case l34 => k_is)
    (case c34 => k_is)
    (case k34 => k_is)
    (case n35 => k_is)
    (case l35 => k_is)
    (case c35 => k_is)
    (case k35 => k_is)
    (case n36 => k_is)
    (case l36 => k_is)
    (case c36 => k_is)
    (case k36 => k_is)
    (case n37 => k_is)
    (case l37 => k_is)
    (case c37 => k_is)
    (case k37 => k_is)
    (case n38 => k_is)
    (case l38 => k_is)
    (case c38 => k_is)
    (case k38 => k_is)
    (case n39 => k_is)
    (case l39 => k_is)
    (case c39 => k_is)
    (case k39 => k_is)
    (case n40 => k_is)
    (case l40 => k_is)
    (case c40 => k_is)
    (case k40 => k_is)
    (case n41 => k_is)
    (case l41 => k_is)
    (case c41 => k_is)
    (case k41 => k_is)
    (case n42 => k_is)
    (case l42 => k_is)
    (case c42 => k_is)
    (case k42 => k_is)
    (case n43 => k_is)
    (case l43 => k_is)
    (case c43 => k_is)
    (case k43 => k_is)
    (case n44 => k_is)
    (case l44 => k_is)
    (case c44 => k_is)
    (case k44 => k_is)
    (case n47 => k_is)
    (case l47 => k_is)
    (case c47 => k_is)
    (case k47 => k_is)
    (case n48 => k_is)
    (case l48 => k_is)
    (case c48 => k_is)
    (case k48 => k_is)
    (case n49 => k_is)
    (case l49 => k_is)
    (case c49 => k_is)
    (case k49 => k_is)
    (case n_noi => k_is)
    (case n_nos => k_is)
    (case n_tak => k_is)
    (case n_oor => k_is)
    (case n_many => k_is)
    (case n_noc => k_is)
    (case n_hil => k_is)
    (case n_hic => k_is)
    (case n_mos => k_is)
    (case n_moc => k_is)
    (case n_cre => k_is)
    (case n_pal => k_is)
    (case n_nod => k_is)
    (case z_sum => k_is)
    (case z_len => k_is)
    (case z_range => k_is)
    (case z_min => k_is)
    (case z_abs => k_is)
    (case z_all => k_is)
    (case o1 => k_is)
    (case o2 => k_is)
    (case p1 => k_is)
    (case p2 => k_is)
    (case hes => decide +kernel)
    (case e1 => first | rfl | decide +kernel)
    (case e2 => first | rfl | decide +kernel)
    (case e3 => first | rfl | decide +kernel)
    (case e4 => first | rfl | decide +kernel)
    (case e5 => first | rfl | decide +kernel)
    (case e6 => first | rfl | decide +kernel)
    (case e7 => first | rfl | decide +kernel)
    (case e8 => first | rfl | decide +kernel)
    (case e9 => first | rfl | decide +kernel)
    (case e10 => first | rfl | decide +kernel)
    (case e11 => first | rfl | decide +kernel)
    (case e12 => first | rfl | decide +kernel)
    (case e13 => first | rfl | decide +kernel)
    (case e14 => first | rfl | decide +kernel)
    (case e15 => first | rfl | decide +kernel)
    (case hp => exact ⟨rfl, _, _, rfl, by decide, by repeat (first | exact .nil | refine .cons ⟨_, rfl⟩ ?_)⟩)
  case S =>
    intro K H xs a hO hwi hask hx
    cases hx with
    | cons h1 h2 =>
      cases h2
      cases h1 with
      | lst hs ha =>
        have e := L2.ints_dw a.1 _ ha
        subst e
        exact ⟨_, a.1, rfl, hs, hask, fun H' p hp => .lst (L2.SqL.of hp) (L2.dw_ints _)⟩

