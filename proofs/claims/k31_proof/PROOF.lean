import PyProof.Rows.All
import Wide.All
import OpenK.AllK
import Wide.FinOn
import HandS.ForMost
import HandS.ForExc
import HandS.ExcInit
import HandS.ExcField
import HandS.TryMany
import HandS.IsInst
import HandS.MakeKw
import HandS.OwnEq
import HandS.Wide
import HandS.Defaults
import HandS.ClsMeth
import KE.KCallOwn
import HandS.Head0
import HandS.Head1
import HandS.Head2
import HandS.HeadEnd
import HandS.HeadHook1
import HandS.HeadHook2
import HandS.HeadNt
import HandS.WideBits
import HandS.StrMore
import HandS.Walk
import HandS.MakeKwOnly
import HandS.TupAny
import HandS.Iter
import HandS.Zip
import HandS.Gcd
import HandS.Style
import PyProof.WalksMore
import KE.GoesMore
import KE.GoesEnum
import KE.KIsAll
import HandS.ExcIs
import Flt.RightSqrt
import PyProof.ReprRoads
import HandS.Lambda
import HandS.EndTab
import HandS.EndBits
import PyProof.StrBlock2
import HandS.SortInts
import HandS.RaiseMore
import HandS.CallLocal
import KE.KMathGC
import KE.KRevSl
import HandS.ExcValue
import HandS.HeadHook4
import KE.GoesZip
import HandS.NoneIn
import KE.GoesRaise
import PySem.Challenge.RW_goodsigns_k31_vectors_read_and_refused
set_option Elab.async false
set_option linter.all false
set_option maxRecDepth 100000
set_option maxHeartbeats 4000000
/-! Rows of integers: sums of products, what adds up. -/
namespace GV
def sm : List Int → Int
  | [] => 0
  | x :: xs => x + sm xs
/-- products, added up -/
def pr : List Int → List Int → Int
  | x :: xs, y :: ys => x * y + pr xs ys
  | _, _ => 0
def col (rs : List (List Int)) (j : Nat) : List Int := rs.map fun r => r.getD j 0
def cols (rs : List (List Int)) (d : Nat) : List (List Int) := (List.range d).map (col rs)
def wid (rs : List (List Int)) : Nat := (rs.headD []).length
/-- a number of the table of rows -/
def tb (rs : List (List Int)) (i j : Nat) : Int := pr (col rs i) (col rs j)
def tot (rs : List (List Int)) : Int := tb rs 0 0
def mx : List Int → Int
  | [] => 0
  | [x] => x
  | x :: xs => max x (mx xs)
def lon (rs : List (List Int)) : Int := mx (rs.map fun r => pr r r)
/-- rows of the same length, not too many -/
def shR (rs : List (List Int)) : Prop := 1 ≤ rs.length ∧ rs.length ≤ 9 ∧ 1 ≤ wid rs ∧ wid rs ≤ 3 ∧ ∀ r ∈ rs, r.length = wid rs
/-- what adds up -/
def upB (rs : List (List Int)) : Bool := !(decide (tb rs 0 0 = 0) || (List.range (wid rs)).any fun i => decide (tb rs i i ≠ tb rs 0 0)) && !((List.range (wid rs)).any fun i => (List.range i).any fun j => decide (tb rs i j ≠ 0))
def okR (rs : List (List Int)) : Prop := shR rs ∧ upB rs = true
/-- rows that may be none of integers -/
def shB (os : List (Option (List Int))) : Bool := decide (1 ≤ os.length) && decide (os.length ≤ 9) && os.all (·.isSome) && (decide (1 ≤ ((os.headD none).getD []).length) && decide (((os.headD none).getD []).length ≤ 3) && os.all fun o => decide ((o.getD []).length = ((os.headD none).getD []).length))
theorem shB_shR {os : List (Option (List Int))} (h : shB os = true) : shR (os.map fun o => o.getD []) := by
  unfold shB at h
  simp only [Bool.and_eq_true, decide_eq_true_eq, List.all_eq_true] at h
  obtain ⟨⟨⟨h1, h2⟩, h3⟩, ⟨h4, h5⟩, h6⟩ := h
  have hw : wid (os.map fun o => o.getD []) = ((os.headD none).getD []).length := by
    cases os with
    | nil => rfl
    | cons o os => rfl
  refine ⟨by simpa using h1, by simpa using h2, by rw [hw]; exact h4, by rw [hw]; exact h5, fun r hr => ?_⟩
  obtain ⟨o, ho, rfl⟩ := List.mem_map.mp hr
  rw [hw]
  exact h6 o ho
theorem shB_all {os : List (Option (List Int))} (h : shB os = true) : os.all (·.isSome) = true := by
  unfold shB at h
  simp only [Bool.and_eq_true] at h
  exact h.1.2
theorem mx_ge : ∀ (l : List Int), ∀ y ∈ l, y ≤ mx l
  | [], y, h => nomatch h
  | [x], y, h => by rw [List.mem_singleton.mp h]; exact Int.le_refl _
  | x :: z :: l, y, h => by
    show y ≤ max x (mx (z :: l))
    rcases List.mem_cons.mp h with rfl | h
    · exact Int.le_max_left _ _
    · exact Int.le_trans (mx_ge (z :: l) y h) (Int.le_max_right _ _)
theorem mx_mem : ∀ (l : List Int), l ≠ [] → mx l ∈ l
  | [], h => absurd rfl h
  | [x], _ => List.mem_singleton.mpr rfl
  | x :: z :: l, _ => by
    show max x (mx (z :: l)) ∈ _
    have := mx_mem (z :: l) (by simp)
    rcases Int.le_total x (mx (z :: l)) with h | h
    · rw [Int.max_eq_right h]
      exact List.mem_cons_of_mem _ this
    · rw [Int.max_eq_left h]
      exact List.mem_cons_self
theorem mx_uniq {l : List Int} {m : Int} (h : m ∈ l) (g : ∀ y ∈ l, y ≤ m) : m = mx l :=
  Int.le_antisymm (mx_ge l m h) (g _ (mx_mem l (by rintro rfl; cases h)))
theorem tot_sq (rs : List (List Int)) : (rs.map fun r => r.getD 0 0 * r.getD 0 0).sum = tot rs := by
  unfold tot tb col
  induction rs with
  | nil => rfl
  | cons r rs ih =>
    rw [List.map_cons, List.sum_cons, ih]
    rfl
/-- the first place of a row that tells no integer -/
def rstop (vs : List (Option Int)) (j : Nat) : Nat → Option Nat
  | 0 => none
  | k + 1 => if (vs.getD j none).isSome then rstop vs (j + 1) k else some j
def rowAt (vs : List (Option Int)) (j k : Nat) : List Int := (List.range k).map fun i => (vs.getD (j + i) none).getD 0
/-- rows read: where it stops, or how many they are -/
def rd (vs : List (Option Int)) (d : Nat) : Nat → Nat → Sum Nat Nat
  | 0, n => if 2 + n * d < vs.length then .inl (2 + n * d) else .inr n
  | f + 1, n => if 2 + n * d < max vs.length 3 then (match rstop vs (2 + n * d) d with | some j => .inl j | none => rd vs d f (n + 1)) else (if 2 + n * d < vs.length then .inl (2 + n * d) else .inr n)
theorem rstop_all {vs : List (Option Int)} : ∀ {k j i : Nat}, (∀ i', i' < i → (vs.getD (j + i') none).isSome = true) → i < k → (vs.getD (j + i) none).isSome = false → rstop vs j k = some (j + i)
  | k + 1, j, 0, _, _, h => by
    unfold rstop
    rw [Nat.add_zero] at h
    rw [h]
    rfl
  | k + 1, j, i + 1, h, hk, hn => by
    unfold rstop
    have h0 := h 0 (by omega)
    rw [Nat.add_zero] at h0
    rw [h0, if_pos rfl, rstop_all (i := i) (fun i' hi => by have := h (i' + 1) (by omega); rwa [show j + (i' + 1) = j + 1 + i' by omega] at this) (by omega) (by rwa [show j + (i + 1) = j + 1 + i by omega] at hn)]
    congr 1
    omega
theorem rstop_none {vs : List (Option Int)} : ∀ {k j : Nat}, (∀ i, i < k → (vs.getD (j + i) none).isSome = true) → rstop vs j k = none
  | 0, _, _ => rfl
  | k + 1, j, h => by
    unfold rstop
    have h0 := h 0 (by omega)
    rw [Nat.add_zero] at h0
    rw [h0, if_pos rfl]
    exact rstop_none fun i hi => by have := h (i + 1) (by omega); rwa [show j + (i + 1) = j + 1 + i by omega] at this
theorem rd_n {vs : List (Option Int)} {d : Nat} : ∀ {f k n : Nat}, f + k ≤ 9 → rd vs d f k = .inr n → k ≤ n ∧ n ≤ 9
  | 0, k, n, h, e => by
    unfold rd at e
    split at e
    · cases e
    · cases e; omega
  | f + 1, k, n, h, e => by
    unfold rd at e
    split at e
    · split at e
      · cases e
      · have := rd_n (f := f) (k := k + 1) (by omega) e
        omega
    · split at e
      · cases e
      · cases e; omega
theorem rd_pos {vs : List (Option Int)} {d n : Nat} (e : rd vs d 9 0 = .inr n) : 1 ≤ n ∧ n ≤ 9 := by
  unfold rd at e
  rw [if_pos (by omega)] at e
  split at e
  · cases e
  · exact rd_n (f := 8) (k := 1) (by decide) e
def rowsIn (vs : List (Option Int)) (d n : Nat) : List (List Int) := (List.range n).map fun i => rowAt vs (2 + i * d) d
/-- what a text of items tells: rows, or where it stops -/
def stp (vs : List (Option Int)) (colon : Bool) : Sum Nat (List (List Int)) :=
  match vs.getD 0 none with
  | some i => if 1 ≤ i ∧ i ≤ 3 then (if colon = true then (match rd vs i.toNat 9 0 with | .inl j => .inl j | .inr n => if upB (rowsIn vs i.toNat n) = true then .inr (rowsIn vs i.toNat n) else .inl (vs.length - 1)) else .inl 1) else .inl 0
  | none => .inl 0
theorem rowsIn_sh {vs : List (Option Int)} {d n : Nat} (hd : 1 ≤ d) (hd3 : d ≤ 3) (h : 1 ≤ n ∧ n ≤ 9) : shR (rowsIn vs d n) := by
  have hl : ∀ r ∈ rowsIn vs d n, r.length = d := fun r hr => by
    obtain ⟨i, _, rfl⟩ := List.mem_map.mp hr
    simp [rowAt]
  have hw : wid (rowsIn vs d n) = d := by
    cases q : rowsIn vs d n with
    | nil => have := congrArg List.length q; simp [rowsIn] at this; omega
    | cons r rs => exact hl r (by rw [q]; exact List.mem_cons_self)
  refine ⟨by simp [rowsIn]; omega, by simp [rowsIn]; omega, by rw [hw]; exact hd, by rw [hw]; exact hd3, fun r hr => by rw [hw]; exact hl r hr⟩
theorem shB_some {rs : List (List Int)} (h : shR rs) : shB (rs.map some) = true := by
  obtain ⟨h1, h2, h3, h4, h5⟩ := h
  have hw : (((rs.map some).headD none).getD []) = rs.headD [] := by cases rs <;> rfl
  unfold shB
  rw [hw]
  simp only [Bool.and_eq_true, decide_eq_true_eq, List.all_eq_true, List.length_map]
  refine ⟨⟨⟨h1, h2⟩, fun o ho => ?_⟩, ⟨h3, h4⟩, fun o ho => ?_⟩
  · obtain ⟨r, _, rfl⟩ := List.mem_map.mp ho; rfl
  · obtain ⟨r, hr, rfl⟩ := List.mem_map.mp ho
    exact h5 r hr
end GV
/-! The table of rows as the law tells it; rows in any order. -/
namespace GV
def mat (f : Nat → Nat → Int) (d : Nat) : List (List Int) := (List.range d).map fun i => (List.range d).map fun j => f i j
def matN (f : Nat → Nat → Int) (m d : Nat) : List (List Int) := (List.range m).map fun i => (List.range d).map fun j => f i j
def idn (n : Int) (i j : Nat) : Int := n * if decide (i = j) = true then 1 else 0
theorem sum_tb (rs : List (List Int)) (i j : Nat) : (rs.map fun r => r.getD i 0 * r.getD j 0).sum = tb rs i j := by
  unfold tb col
  induction rs with
  | nil => rfl
  | cons r rs ih =>
    rw [List.map_cons, List.sum_cons, ih]
    rfl
theorem pr_symm : ∀ a b : List Int, pr a b = pr b a
  | [], [] => rfl
  | [], _ :: _ => rfl
  | _ :: _, [] => rfl
  | x :: a, y :: b => by
    show x * y + pr a b = y * x + pr b a
    rw [pr_symm a b, Int.mul_comm]
theorem tb_symm (rs : List (List Int)) (i j : Nat) : tb rs i j = tb rs j i := pr_symm _ _
theorem sq_nn (x : Int) : 0 ≤ x * x := by
  rcases Int.le_total 0 x with h | h
  · exact Int.mul_nonneg h h
  · exact Int.mul_nonneg_of_nonpos_of_nonpos h h
theorem pr_nn : ∀ a : List Int, 0 ≤ pr a a
  | [] => Int.le_refl 0
  | x :: a => by
    show 0 ≤ x * x + pr a a
    have := pr_nn a
    have := sq_nn x
    omega
theorem tot_nn (rs : List (List Int)) : 0 ≤ tot rs := pr_nn _
theorem mat_inj {f g : Nat → Nat → Int} {d : Nat} : mat f d = mat g d ↔ ∀ i, i < d → ∀ j, j < d → f i j = g i j := by
  constructor
  · intro h i hi j hj
    have h1 := congrArg (fun m : List (List Int) => (m.getD i []).getD j 0) h
    simpa [mat, hi, hj] using h1
  · intro h
    unfold mat
    refine List.map_congr_left fun i hi => List.map_congr_left fun j hj => ?_
    exact h i (List.mem_range.mp hi) j (List.mem_range.mp hj)
theorem up_iff (rs : List (List Int)) : upB rs = true ↔ 0 < tot rs ∧ mat (tb rs) (wid rs) = mat (idn (tot rs)) (wid rs) := by
  rw [mat_inj]
  unfold upB tot idn
  have nn : 0 ≤ tb rs 0 0 := tot_nn rs
  simp only [Bool.and_eq_true, Bool.not_eq_true', Bool.or_eq_false_iff, decide_eq_false_iff_not, List.any_eq_false, List.mem_range, decide_eq_true_eq, List.any_eq_true, not_exists, not_and, Decidable.not_not, decide_not, Bool.not_eq_true', ne_eq]
  constructor
  · rintro ⟨⟨h0, h1⟩, h2⟩
    refine ⟨by omega, fun i hi j hj => ?_⟩
    by_cases c : i = j
    · subst c
      rw [if_pos rfl, Int.mul_one]
      exact h1 i hi
    · rw [if_neg c, Int.mul_zero]
      rcases Nat.lt_or_ge j i with g | g
      · exact h2 i hi j g
      · rw [tb_symm]
        exact h2 j hj i (by omega)
  · rintro ⟨h0, h1⟩
    refine ⟨⟨by omega, fun i hi => ?_⟩, fun i hi j hj => ?_⟩
    · have := h1 i hi i hi
      rw [if_pos rfl, Int.mul_one] at this
      exact this
    · have := h1 i hi j (by omega)
      rw [if_neg (by omega), Int.mul_zero] at this
      exact this
theorem perm_sum {a b : List Int} (h : a.Perm b) : a.sum = b.sum := by
  induction h with
  | nil => rfl
  | cons x _ ih => rw [List.sum_cons, List.sum_cons, ih]
  | swap x y l => simp only [List.sum_cons]; omega
  | trans _ _ h1 h2 => rw [h1, h2]
theorem tb_perm {rs qs : List (List Int)} (h : rs.Perm qs) (i j : Nat) : tb rs i j = tb qs i j := by
  rw [← sum_tb, ← sum_tb]
  exact perm_sum (h.map _)
theorem wid_perm {rs qs : List (List Int)} (h : rs.Perm qs) (sh : shR rs) : wid qs = wid rs := by
  cases qs with
  | nil => exact absurd sh.1 (by rw [h.length_eq]; simp)
  | cons q qs =>
    show q.length = wid rs
    exact sh.2.2.2.2 q (h.mem_iff.mpr List.mem_cons_self)
theorem sh_perm {rs qs : List (List Int)} (h : rs.Perm qs) (sh : shR rs) : shR qs := by
  have hw := wid_perm h sh
  refine ⟨by rw [← h.length_eq]; exact sh.1, by rw [← h.length_eq]; exact sh.2.1, by rw [hw]; exact sh.2.2.1, by rw [hw]; exact sh.2.2.2.1, fun r hr => ?_⟩
  rw [hw]
  exact sh.2.2.2.2 r (h.mem_iff.mpr hr)
theorem up_perm {rs qs : List (List Int)} (h : rs.Perm qs) (sh : shR rs) : upB qs = upB rs := by
  unfold upB
  rw [wid_perm h sh]
  simp only [tb_perm h]
theorem up_unit {n : Int} (h : 0 < n) : ∀ d, 1 ≤ d → d ≤ 3 → shR (mat (idn n) d) ∧ upB (mat (idn n) d) = true := by
  have nz : ¬ n = 0 := by omega
  intro d h1 h3
  have : d = 1 ∨ d = 2 ∨ d = 3 := by omega
  have r1 : List.range 1 = [0] := rfl
  have r2 : List.range 2 = [0, 1] := rfl
  have r3 : List.range 3 = [0, 1, 2] := rfl
  rcases this with rfl | rfl | rfl
  · refine ⟨by simp [shR, mat, wid, r1], ?_⟩
    simp [upB, tb, pr, col, wid, mat, idn, r1, nz]
  · refine ⟨by simp [shR, mat, wid, r2], ?_⟩
    simp [upB, tb, pr, col, wid, mat, idn, r1, r2, nz]
  · refine ⟨by simp [shR, mat, wid, r3], ?_⟩
    simp [upB, tb, pr, col, wid, mat, idn, r1, r2, r3, nz]
/-- rows of one length, or none -/
def shE (d : Nat) (rs : List (List Int)) : Prop := rs.length ≤ 9 ∧ ∀ r ∈ rs, r.length = d
theorem shE.sh {d : Nat} {rs : List (List Int)} (h : shE d rs) (d1 : 1 ≤ d) (d3 : d ≤ 3) (n : rs ≠ []) : shR rs ∧ wid rs = d := by
  have hw : wid rs = d := by
    cases rs with
    | nil => exact absurd rfl n
    | cons r rs => exact h.2 r List.mem_cons_self
  exact ⟨⟨List.length_pos_iff.mpr n, h.1, by rw [hw]; exact d1, by rw [hw]; exact d3, fun r hr => by rw [hw]; exact h.2 r hr⟩, hw⟩
end GV
/-! Where a text of items stops, and the rows of its numbers. -/
namespace GV
def fine (vs : List (Option Int)) (d at_ : Nat) : Prop := ∀ k, 2 ≤ k → k < at_ → k - 2 < 9 * d ∧ (vs.getD k none).isSome = true
theorem rd_a {vs : List (Option Int)} {d at_ : Nat} (d1 : 1 ≤ d) (h2 : 2 ≤ at_) (hl : at_ < vs.length) (hf : fine vs d at_) (hb : ¬ (at_ - 2 < 9 * d ∧ (vs.getD at_ none).isSome = true)) : ∀ f n, f + n = 9 → 2 + n * d ≤ at_ → rd vs d f n = .inl at_
  | 0, n, hn, hle => by
    obtain rfl : n = 9 := by omega
    unfold rd
    rw [if_pos (by omega)]
    rcases Nat.lt_or_ge (2 + 9 * d) at_ with c | c
    · have := (hf (2 + 9 * d) (by omega) c).1
      omega
    · rw [show 2 + 9 * d = at_ by omega]
  | f + 1, n, hn, hle => by
    unfold rd
    rw [if_pos (by omega)]
    have e1 : (n + 1) * d = n * d + d := Nat.succ_mul n d
    have e9 : (n + 1) * d ≤ 9 * d := Nat.mul_le_mul_right d (by omega)
    by_cases c : at_ < 2 + n * d + d
    · have hs : (vs.getD at_ none).isSome = false := by
        cases q : (vs.getD at_ none).isSome with
        | false => rfl
        | true => exact absurd ⟨by omega, q⟩ hb
      have e : 2 + n * d + (at_ - (2 + n * d)) = at_ := by omega
      rw [rstop_all (i := at_ - (2 + n * d)) (fun i' hi => (hf _ (by omega) (by omega)).2) (by omega) (by rw [e]; exact hs), e]
    · rw [rstop_none fun i hi => (hf _ (by omega) (by omega)).2]
      exact rd_a d1 h2 hl hf hb f (n + 1) (by omega) (by omega)
theorem rd_b {vs : List (Option Int)} {d : Nat} (d1 : 1 ≤ d) (h2 : 2 ≤ vs.length) (h9 : vs.length ≤ 2 + 9 * d) (hf : fine vs d vs.length) : ∀ f n, f + n = 9 → 2 + n * d ≤ vs.length → rd vs d f n = if vs.length ≠ 2 ∧ (vs.length - 2) % d = 0 then .inr ((vs.length - 2) / d) else .inl vs.length
  | 0, n, hn, hle => by
    obtain rfl : n = 9 := by omega
    have el : vs.length - 2 = 9 * d := by omega
    unfold rd
    rw [if_neg (by omega), el, if_pos ⟨by omega, Nat.mul_mod_left 9 d⟩, Nat.mul_div_cancel 9 (by omega)]
  | f + 1, n, hn, hle => by
    have e1 : (n + 1) * d = n * d + d := Nat.succ_mul n d
    unfold rd
    by_cases c : 2 + n * d < max vs.length 3
    · rw [if_pos c]
      by_cases c2 : vs.length < 2 + n * d + d
      · have e : 2 + n * d + (vs.length - (2 + n * d)) = vs.length := by omega
        rw [rstop_all (i := vs.length - (2 + n * d)) (fun i' hi => (hf _ (by omega) (by omega)).2) (by omega) (by rw [e, List.getD_eq_getElem?_getD, List.getElem?_eq_none (Nat.le_refl _)]; rfl), e, if_neg]
        rintro ⟨h3, h4⟩
        obtain ⟨s, hs⟩ : ∃ s, vs.length - 2 = d * n + s := ⟨vs.length - (2 + n * d), by rw [Nat.mul_comm d n]; omega⟩
        have hsd : s < d := by rw [Nat.mul_comm d n] at hs; omega
        rw [hs, Nat.mul_add_mod, Nat.mod_eq_of_lt hsd] at h4
        rw [Nat.mul_comm d n] at hs
        omega
      · rw [rstop_none fun i hi => (hf _ (by omega) (by omega)).2]
        exact rd_b d1 h2 h9 hf f (n + 1) (by omega) (by omega)
    · have el : vs.length - 2 = n * d := by omega
      rw [if_neg c, if_neg (by omega), el, if_pos ⟨by omega, Nat.mul_mod_left n d⟩, Nat.mul_div_cancel n (by omega)]
/-- the numbers behind the first two items -/
def nums (vs : List (Option Int)) : List Int := (vs.drop 2).map fun o => o.getD 0
theorem rowAt_nums {vs : List (Option Int)} {d i : Nat} (h : 2 + (i + 1) * d ≤ vs.length) : rowAt vs (2 + i * d) d = ((nums vs).drop (i * d)).take d := by
  have e1 : (i + 1) * d = i * d + d := Nat.succ_mul i d
  refine List.ext_getElem (by simp [rowAt, nums]; omega) fun j h1 h2 => ?_
  simp [rowAt] at h1
  have hlt : 2 + i * d + j < vs.length := by omega
  simp [rowAt, nums, List.getD_eq_getElem?_getD, hlt]
theorem chunk : ∀ {rs : List (List Int)} {d : Nat}, (∀ r ∈ rs, r.length = d) → ∀ {i : Nat} {r : List Int}, rs[i]? = some r → (rs.flatten.drop (i * d)).take d = r
  | [], _, _, i, r, h => by simp at h
  | q :: rs, d, hl, 0, r, h => by
    cases h
    have := hl q List.mem_cons_self
    rw [Nat.zero_mul, List.drop_zero, List.flatten_cons, List.take_append_of_le_length (by omega), List.take_of_length_le (by omega)]
  | q :: rs, d, hl, i + 1, r, h => by
    have hq := hl q List.mem_cons_self
    have e : (q ++ rs.flatten).drop d = rs.flatten := by rw [List.drop_append_of_le_length (by omega), List.drop_of_length_le (by omega), List.nil_append]
    rw [Nat.succ_mul, List.flatten_cons, Nat.add_comm, ← List.drop_drop, e]
    exact chunk (fun r m => hl r (List.mem_cons_of_mem _ m)) (by simpa using h)
theorem flatten_len : ∀ {rs : List (List Int)} {d : Nat}, (∀ r ∈ rs, r.length = d) → rs.flatten.length = rs.length * d
  | [], _, _ => by simp
  | q :: rs, d, hl => by
    rw [List.flatten_cons, List.length_append, flatten_len (fun r m => hl r (List.mem_cons_of_mem _ m)), hl q List.mem_cons_self, List.length_cons, Nat.succ_mul, Nat.add_comm]
/-- what the items of rows tell -/
def vsI (rs : List (List Int)) : List (Option Int) := some (wid rs : Int) :: none :: rs.flatten.map some
theorem stp_vsI {rs : List (List Int)} (sh : shR rs) : stp (vsI rs) true = if upB rs = true then .inr rs else .inl (2 + rs.length * wid rs - 1) := by
  have w1 := sh.2.2.1
  have w3 := sh.2.2.2.1
  have fl := flatten_len sh.2.2.2.2
  have ln : (vsI rs).length = 2 + rs.length * wid rs := by simp [vsI, fl, -List.map_flatten, -List.length_flatten]; omega
  have l9 : rs.length * wid rs ≤ 9 * wid rs := Nat.mul_le_mul_right _ sh.2.1
  have l1 : 1 * 1 ≤ rs.length * wid rs := Nat.mul_le_mul sh.1 w1
  have hf : fine (vsI rs) (wid rs) (vsI rs).length := fun k h1 h2 => ⟨by omega, by
    obtain ⟨k, rfl⟩ : ∃ m, k = m + 2 := ⟨k - 2, by omega⟩
    have : k < rs.flatten.length := by rw [fl]; omega
    rw [List.getD_eq_getElem?_getD, show (vsI rs)[k + 2]? = (rs.flatten.map some)[k]? from rfl, List.getElem?_map, List.getElem?_eq_getElem this]; rfl⟩
  have hr : rd (vsI rs) (wid rs) 9 0 = .inr rs.length := by
    rw [rd_b w1 (by omega) (by omega) hf 9 0 rfl (by omega), if_pos]
    · rw [ln, show 2 + rs.length * wid rs - 2 = rs.length * wid rs by omega, Nat.mul_div_cancel _ (by omega)]
    · rw [ln, show 2 + rs.length * wid rs - 2 = rs.length * wid rs by omega]
      exact ⟨by omega, Nat.mul_mod_left _ _⟩
  have hn : nums (vsI rs) = rs.flatten := by
    show (rs.flatten.map some).map (fun o => o.getD 0) = rs.flatten
    rw [List.map_map]
    exact List.map_id' _
  have hrows : rowsIn (vsI rs) (wid rs) rs.length = rs := by
    refine List.ext_getElem (by simp [rowsIn]) fun i h1 h2 => ?_
    have e : 2 + (i + 1) * wid rs ≤ (vsI rs).length := by
      rw [ln]
      have : (i + 1) * wid rs ≤ rs.length * wid rs := Nat.mul_le_mul_right _ h2
      omega
    have := rowAt_nums (vs := vsI rs) (d := wid rs) (i := i) e
    rw [hn, chunk sh.2.2.2.2 (List.getElem?_eq_getElem h2)] at this
    simpa [rowsIn] using this
  have e0 : (vsI rs).getD 0 none = some (wid rs : Int) := rfl
  unfold stp
  rw [e0]
  simp only [Int.toNat_natCast]
  rw [if_pos (by omega), if_pos trivial, hr]
  simp only [hrows, ln]
theorem sum_sq : ∀ r : List Int, (r.map fun c => c * c).sum = pr r r
  | [] => rfl
  | x :: r => by
    show x * x + (r.map fun c => c * c).sum = x * x + pr r r
    rw [sum_sq r]
end GV
namespace GV
theorem rstop_some {vs : List (Option Int)} : ∀ {k j : Nat}, rstop vs j k = none → ∀ i, i < k → (vs.getD (j + i) none).isSome = true
  | 0, _, _, i, h => by omega
  | k + 1, j, h, i, hi => by
    unfold rstop at h
    split at h
    · rename_i h0
      cases i with
      | zero => exact h0
      | succ i => have := rstop_some h i (by omega); rwa [show j + 1 + i = j + (i + 1) by omega] at this
    · cases h
theorem rd_inr {vs : List (Option Int)} {d : Nat} : ∀ f k n, rd vs d f k = .inr n → vs.length ≤ 2 + n * d ∧ k ≤ n ∧ ∀ i, 2 + k * d ≤ i → i < 2 + n * d → (vs.getD i none).isSome = true
  | 0, k, n, h => by
    unfold rd at h
    split at h
    · cases h
    · cases h
      exact ⟨by omega, Nat.le_refl _, fun i h1 h2 => by omega⟩
  | f + 1, k, n, h => by
    have e1 : (k + 1) * d = k * d + d := Nat.succ_mul k d
    unfold rd at h
    split at h
    · split at h
      · cases h
      · rename_i hr
        obtain ⟨h1, h2, h3⟩ := rd_inr f (k + 1) n h
        refine ⟨h1, by omega, fun i hi hi2 => ?_⟩
        rcases Nat.lt_or_ge i (2 + k * d + d) with c | c
        · have := rstop_some hr (i - (2 + k * d)) (by omega)
          rwa [show 2 + k * d + (i - (2 + k * d)) = i by omega] at this
        · exact h3 i (by omega) hi2
    · split at h
      · cases h
      · cases h
        exact ⟨by omega, Nat.le_refl _, fun i h1 h2 => by omega⟩
theorem stp_inr {vs : List (Option Int)} {b : Bool} {rs : List (List Int)} (h : stp vs b = .inr rs) : ∃ d n : Nat, 1 ≤ d ∧ d ≤ 3 ∧ 1 ≤ n ∧ n ≤ 9 ∧ vs.getD 0 none = some (d : Int) ∧ vs.length = 2 + n * d ∧ (∀ i, 2 ≤ i → i < vs.length → (vs.getD i none).isSome = true) ∧ rs = rowsIn vs d n := by
  unfold stp at h
  cases q : vs.getD 0 none with
  | none => rw [q] at h; cases h
  | some i =>
    rw [q] at h
    simp only at h
    split at h
    · rename_i hi
      split at h
      · split at h
        · cases h
        · rename_i n hr
          obtain ⟨d, rfl⟩ : ∃ d : Nat, i = (d : Int) := ⟨i.toNat, by omega⟩
          rw [Int.toNat_natCast] at *
          obtain ⟨n1, n9⟩ := rd_pos hr
          obtain ⟨h1, _, h3⟩ := rd_inr 9 0 n hr
          have hnd : 1 * 1 ≤ n * d := Nat.mul_le_mul n1 (by omega)
          have hl := h3 (2 + n * d - 1) (by omega) (by omega)
          have hlt : 2 + n * d - 1 < vs.length := by
            rcases Nat.lt_or_ge (2 + n * d - 1) vs.length with c | c
            · exact c
            · rw [List.getD_eq_getElem?_getD, List.getElem?_eq_none c] at hl
              cases hl
          split at h
          · cases h
            exact ⟨d, n, by omega, by omega, n1, n9, rfl, by omega, fun i h5 h6 => h3 i (by omega) (by omega), rfl⟩
          · cases h
      · cases h
    · cases h
end GV
/-! Own rules: == and != by an own __eq__, str by an own __str__, a staticmethod of a class. -/
namespace GS
open PySem PySem.Spec PyProof.Rows L2
section
variable {X : Cx}
theorem notImpl_no {v : V} (h : RelV v Value.notImplemented) : False := by
  cases v with
  | non => cases (show Value.notImplemented = Value.none from h)
  | bl b => cases (show Value.notImplemented = Value.bool b from h)
  | int i => obtain ⟨t, q⟩ := (show ∃ t, Value.notImplemented = Value.int i t from h); cases q
  | str i => obtain ⟨t, q⟩ := (show ∃ t, Value.notImplemented = Value.str i t from h); cases q
  | byt i => obtain ⟨t, q⟩ := (show ∃ t, Value.notImplemented = Value.bytes i t from h); cases q
  | flt i => obtain ⟨t, q⟩ := (show ∃ t, Value.notImplemented = Value.float i t from h); cases q
  | ref a => cases (show Value.notImplemented = Value.ref a from h)
  | ty n => cases (show Value.notImplemented = Value.type n from h)
/-- what a call of the def gives, from any place below the body -/
theorem run_at {CX : CXT} {k : Nat} {f : Addr} {fd : FuncData} {ps : List Str} {sp : Sp} {E : XK} {pins : List (Addr × Obj)} {σ : L2.St} {H : Hp} {s : Shared} {Q : VK} {us : List Value} {vs : List V} {A : Around}
    (F : FnOk X.prog X.w X.K X.mg X.base CX k f fd ps sp) (hr : Room k A) (hA : A.frames = X.A.frames) (hb : Binds X.K fd ps []) (hx : Passes CX X E) (I : Inv X pins σ H s) (r : Vals vs us) (hsp : sp vs H Q E) :
    wpAny (model X.prog X.w) A (call (.ref f) us) (EP X pins σ Q) X.xe s := by
  have e0 : Env0 X.prog X.w X.K X.mg X.base A X.stack s H := by
    have e := I.env0
    exact ⟨by rw [hA]; exact e.frames, e.mod, e.bs, e.bsz, e.funs, e.frf, e.hok, e.bare⟩
  have hl := F.len _ _ _ _ hsp
  refine wpAny_call (codeAny_mono (F.run A X.stack s H ⟨us, []⟩ us vs _ E hr e0 (by
    have := hb s us I.kIn (by rw [List.append_nil, ← r.length]; exact hl)
    simpa using this) r hsp) fun r s' hq => ?_)
  cases r with
  | error e => exact hx pins σ H s e s' I hq
  | ok fl =>
    cases fl with
    | ret w => exact I.after hq
    | next => exact False.elim hq
    | brk => exact False.elim hq
    | cont => exact False.elim hq
/-- x == y by the own __eq__ of x's class; y of any kind -/
def rEqOwn (K : PySem.W.Frag) (C : Addr) (sp : Sp) (E : XK) : R2 := fun x y H Q => ∃ a dx fs t, x = .ref a ∧ H a = some (.ins C dx fs) ∧ TyX K H y t ∧ PySem.W.notFirst K C t = true ∧ sp [x, y] H Q E
theorem op_eqOwn {CX : CXT} {k : Nat} {C f : Addr} {fd : FuncData} {ps : List Str} {sp : Sp} {E : XK} (F : FnOk X.prog X.w X.K X.mg X.base CX k f fd ps sp) (hr : Room k X.A)
    (hs : PySem.W.findIn X.K (.ref C) "__eq__" = some (some (.ref f))) (hf : PySem.W.isFn X.K (.ref f) = true) (hb : Binds X.K fd ps []) (hx : Passes CX X E) : OpR X (compareOp .Eq) (rEqOwn X.K C sp E) := by
  intro pins s σ H x y v u Q I rx ry hq
  obtain ⟨a, dx, fs, t, rfl, ha, ty, hn, hsp⟩ := hq
  cases rx
  obtain ⟨mA, J, _⟩ := ins_get I.hok ha
  obtain ⟨od, J, _⟩ := J.look
  obtain ⟨m, hF⟩ := I.fr
  obtain ⟨P, Z, p, _⟩ := kit_of I ry ty
  show wpAny (model X.prog X.w) X.A (richCompare .Eq (.ref a) u) (EP X pins σ Q) X.xe s
  refine PySem.W.cmp_K (op := .Eq) (tb := t) hr.units0 hF I.ok.mod.kin J (Z.ty _ _ I.kIn p) hn hs hf ?_
  refine wpAny_mono (run_at F hr rfl hb hx I (.cons (show L2.RelV (V.ref a) (Value.ref a) from rfl) (.cons ry .nil)) hsp) (fun v s' hv => ?_) fun _ _ z => z
  cases v <;> first | exact hv | (obtain ⟨w, _, _, z, _⟩ := hv; exact (notImpl_no z).elim)
open Builtin in
theorem objNe_K {A : Around} {s : Shared} {a C f : Addr} {ox : Obj} {od : Option Obj} {u : Value} {E : Value → Shared → Prop} {Q : Fin → Shared → Prop} (hu : A.units < cLine) (XI : X.K.In s.heap) (J : PySem.W.InstAt s.heap a ox C od)
    (hs : PySem.W.findIn X.K (.ref C) "__eq__" = some (some (.ref f))) (hf : PySem.W.isFn X.K (.ref f) = true)
    (hcall : wpAny (model X.prog X.w) A (call (.ref f) [.ref a, u]) (fun v s' => ∃ b, v = .bool b ∧ Q (.done (.ret (.bool (!b)))) s') E s) :
    wpAny (model X.prog X.w) A (Builtin.«object.__ne__» ⟨[.ref a, u], []⟩) Q E s := by
  unfold Builtin.«object.__ne__»
  repeat (first
    | with_reducible refine wpAny_cRoomFor hu ?_
    | (refine wpAny_bind (m := callSpecialIfBound? (.ref a) (Str.ofString "__eq__") [u])
        (PySem.W.ifBound_K XI J hs hf (wpAny_mono hcall (fun r s' hr => by
          obtain ⟨b, rfl, hq⟩ := hr
          repeat (first | exact hq | exact wpAny_pure hq | exact wpAny_truthy_bool hq | (refine wpAny_bind (m := truthy (.bool _)) (wpAny_truthy_bool ?_)) | wp_step)) fun _ _ e => e)))
    | wp_step)
/-- x != y, the class says nothing of != -/
def rNeOwn (K : PySem.W.Frag) (C : Addr) (sp : Sp) (E : XK) : R2 := fun x y H Q => ∃ a dx fs t, x = .ref a ∧ H a = some (.ins C dx fs) ∧ TyX K H y t ∧ PySem.W.notFirst K C t = true ∧ sp [x, y] H (fun v H' => ∃ b, v = .bl b ∧ Q (.bl (!b)) H') E

theorem ifBound_B {M : Model} {A : Around} {s : Shared} {a C : Addr} {ox : Obj} {od : Option Obj} {name : Str} {id : String} {args : List Value} {E : Value → Shared → Prop} {Q : Option Value → Shared → Prop} (XI : X.K.In s.heap) (J : PySem.W.InstAt s.heap a ox C od)
    (hs : PySem.W.findIn X.K (.ref C) name = some (some (.builtin id))) (S : Slot "object" name id) (h : wpAny M A (call (.builtin id) (.ref a :: args)) (fun v => Q (some v)) E s) : wpAny M A (callSpecialIfBound? (.ref a) name args) Q E s := by
  have last : wpAny M A (call (.builtin id) ([.ref a] ++ args) >>= fun v => pure (some v)) Q E s := wpAny_bind (wpAny_mono h (fun _ _ z => wpAny_pure z) fun _ _ z => z)
  simp only [callSpecialIfBound?, bindSpecialIfBound?]
  refine wpAny_holding (wpAny_bind (wpAny_bind (wpAny_bind (J.type.here ((PySem.W.looks_findIn XI hs).here ?_)))))
  simp only [S.bind]
  refine wpAny_bind (wpAny_askSetting (wpAny_ite ?_))
  split
  · exact wpAny_bind (wpAny_pure (wpAny_pure last))
  · exact wpAny_tryCatch (wpAny_bind (wpAny_pure (wpAny_pure last)))
theorem op_neOwn {CX : CXT} {k : Nat} {C f : Addr} {fd : FuncData} {ps : List Str} {sp : Sp} {E : XK} (F : FnOk X.prog X.w X.K X.mg X.base CX k f fd ps sp) (hr : Room (k + 2) X.A) (hn0 : PySem.W.findIn X.K (.ref C) "__ne__" = some (some (.builtin "object.__ne__"))) (hm : PySem.W.mroIn X.K C (.type "object") = some true)
    (hs : PySem.W.findIn X.K (.ref C) "__eq__" = some (some (.ref f))) (hf : PySem.W.isFn X.K (.ref f) = true) (hb : Binds X.K fd ps []) (hx : Passes CX X E) : OpR X (compareOp .NotEq) (rNeOwn X.K C sp E) := by
  intro pins s σ H x y v u Q I rx ry hq
  obtain ⟨a, dx, fs, t, rfl, ha, ty, hn, hsp⟩ := hq
  cases rx
  obtain ⟨mA, J, _⟩ := ins_get I.hok ha
  obtain ⟨od, J, _⟩ := J.look
  obtain ⟨P, Z, p, _⟩ := kit_of I ry ty
  have LU := Z.ty (model X.prog X.w) _ I.kIn p
  have sub : PySem.W.Looks (model X.prog X.w) s.heap (isInstance (.ref a) (.type "object")) true := J.type.andThen (PySem.W.looks_mroIn I.kIn hm)
  have try1 : wpAny (model X.prog X.w) X.A (tryCompare (.ref a) "__ne__" u) (fun r s' => ∃ v, r = some v ∧ EP X pins σ Q v s') X.xe s := by
    unfold tryCompare
    refine wpAny_bind (ifBound_B I.kIn J hn0 PySem.F.cmp_object.ne (wpAny_call (codeAny_call_builtin PySem.F.cmp_object.ne.plain PySem.F.cmpEntry_ne
      (PySem.W.check_slot PySem.F.cmpKind_ne PySem.F.cmpSplit_ne sub (PySem.F.cmpArgs_ne _ _) ?_))))
    refine objNe_K (A := X.A.in1) hr.in1.units0 I.kIn J hs hf ?_
    refine wpAny_mono (run_at F (hr.in1.mono (by omega)) rfl hb hx I (.cons (show L2.RelV (V.ref a) (Value.ref a) from rfl) (.cons ry .nil)) hsp) (fun v s' hv => ?_) fun _ _ z => z
    obtain ⟨z, H', I', rz, b, rfl, q⟩ := hv
    have ev : v = .bool b := rz
    have fin : EP X pins σ Q (.bool (!b)) s' := ⟨.bl (!b), H', I', rfl, q⟩
    refine ⟨b, ev, ?_⟩
    first
      | exact wpAny_pure ⟨_, rfl, fin⟩
      | exact ⟨_, wpAny_pure ⟨_, rfl, fin⟩⟩
      | (show _ ∧ _; exact ⟨by simp, wpAny_pure ⟨_, rfl, fin⟩⟩)
  show wpAny (model X.prog X.w) X.A (richCompare .NotEq (.ref a) u) (EP X pins σ Q) X.xe s
  unfold richCompare
  simp only [oneThing_ref]
  refine wpAny_holding (wpAny_bind (wpAny_cRoomFor hr.units0 (wpAny_bind (J.type.here (wpAny_bind (LU.here ?_))))))
  have fin : ∀ r s', (∃ v, r = some v ∧ EP X pins σ Q v s') → wpAny (model X.prog X.w) X.A (match r with | some v => pure v | none => richCompare .NotEq (.ref a) u) (EP X pins σ Q) X.xe s' := fun r s' ⟨v, e, z⟩ => by subst e; exact wpAny_pure z
  split
  · rename_i q
    have e : PySem.W.subIn X.K t (.ref C) = some false := by
      cases Bool.or_eq_true_iff.mp hn with
      | inl e => rw [beq_iff_eq.mp e] at q; simp at q
      | inr e => exact beq_iff_eq.mp e
    refine wpAny_bind ((PySem.W.looks_subIn I.kIn e).here ?_)
    simp only [Bool.false_eq_true, if_false]
    refine wpAny_bind (wpAny_mono try1 (fun r s' ⟨v, e, z⟩ => ?_) fun _ _ z => z)
    subst e
    exact wpAny_pure z
  · refine wpAny_bind (wpAny_pure ?_)
    simp only [Bool.false_eq_true, if_false]
    refine wpAny_bind (wpAny_mono try1 (fun r s' ⟨v, e, z⟩ => ?_) fun _ _ z => z)
    subst e
    exact wpAny_pure z
/-- str(x) by an own __str__ -/
def rStrOwn (C : Addr) (sp : Sp) (E : XK) : List V → Hp → VK → Prop := fun xs H Q => ∃ a dx fs, xs = [.ref a] ∧ H a = some (.ins C dx fs) ∧ sp xs H (fun v H' => (∃ z, v = .str z) ∧ Q v H') E
theorem call_strOwn {CX : CXT} {k : Nat} {C f : Addr} {fd : FuncData} {ps : List Str} {sp : Sp} {E : XK} (F : FnOk X.prog X.w X.K X.mg X.base CX k f fd ps sp) (hr : Room (k + 2) X.A)
    (hs : PySem.W.findIn X.K (.ref C) "__str__" = some (some (.ref f))) (hf : PySem.W.isFn X.K (.ref f) = true) (hb : Binds X.K fd ps []) (hx : Passes CX X E) : CallR X (.type "str") (rStrOwn C sp E) := by
  intro pins s σ H xs us Q I r hq
  obtain ⟨a, dx, fs, rfl, ha, hsp⟩ := hq
  obtain ⟨u, rfl, ru⟩ := vals1 r
  cases ru
  obtain ⟨mA, J, _⟩ := ins_get I.hok ha
  obtain ⟨od, J, _⟩ := J.look
  refine PySem.W.kso_call hr.in1.in1.units0 I.kIn J hs hf ?_
  refine wpAny_mono (run_at F hr.in1.in1 rfl hb hx I r hsp) (fun v s' hv => ?_) fun _ _ z => z
  obtain ⟨w, H', I', rw', ⟨z, rfl⟩, q⟩ := hv
  obtain ⟨tk, e⟩ := rw'
  subst e
  exact ⟨.str z, H', I', ⟨tk, rfl⟩, q⟩
/-! ### a staticmethod of a class -/
structure SMet (K : PySem.W.Frag) (C : Addr) (mc : Value) (m : Str) (p g : Addr) : Prop where
  at_ : PySem.W.findCls K (.ref C) mc m = some (.get (.builtin "staticmethod.__get__") (.ref p) .none (.ref C))
  rc : ∃ rest, PySem.W.recIn K p "staticmethod" = some (.ref g :: rest)
def tSMeth (C : Addr) (sp : Sp) (E : XK) (ta : TE) (t : TA) : TE := fun σ H Q => ta σ H fun x H1 => x = .ref C ∧ t σ H1 fun vs H2 => sp vs H2 Q E
theorem pe_smeth {CX : CXT} {k : Nat} {C p g : Addr} {mc : Value} {fd : FuncData} {ps : List Str} {sp : Sp} {E : XK} {o e : Expr} {es : List Expr} {m : Str} {pos apos : Pos} {ta : TE} {t : TA} {pl : Sem Bool}
    (he : PE X o ta) (r : ClX.CRead X.K C mc) (c : SMet X.K C mc m p g) (F : FnOk X.prog X.w X.K X.mg X.base CX k g fd ps sp) (hk : PySem.W.keepIn X.K (.ref g) = true) (hr : Room k X.A) (hb : Binds X.K fd ps []) (hx : Passes CX X E) (ha : PA X (e :: es) t)
    (hst : starEach (e :: es) X.env = (false, eval e X.env) :: starEach es X.env := by rfl) (hpl : (backTo pos (starEach es X.env)).any (·.1) = false := by rfl)
    (ht : eval (.Call (.Attribute o m apos) (e :: es) [] pos) X.env = (do let ov ← eval o X.env; standAt apos.atName; let (f, first) ← holding [ov] (getMethod ov m pl); callWith pos f first (backTo pos (starEach (e :: es) X.env)) (backToKw pos (keywordEach [] X.env))) := by rfl) :
    PE X (.Call (.Attribute o m apos) (e :: es) [] pos) (tSMeth C sp E ta t) := by
  refine ⟨fun pins s σ H Q I h => PySem.W.methodCall_KW (pl := pl) (thn (he.run pins s σ H _ I h) fun u s1 ⟨x, H1, I1, rx, ex, q⟩ => ?_) ht⟩
  subst ex
  obtain rfl : u = Value.ref C := rx
  obtain ⟨rest, hp⟩ := c.rc
  refine PySem.W.method_cls I1.kIn r.ga (PySem.W.cls_bind I1.kIn r.rd c.at_ (wpAny_call (PySem.W.sm_get (s := { s1 with toks := s1.toks + 1 }) I1.kIn hp (PySem.W.handed_on rfl ?_))))
  have I2 := I1.tok (s1.toks + 1)
  refine PySem.W.callWith_K (h₀ := X.base) I2.ok.mod.kin hk (thn (ha.run pos pins _ σ H1 _ I2 q) fun us s3 ⟨vs, H2, I3, rv, q2⟩ => ⟨I3.kIn, ?_⟩) hst hpl
  exact run_at F hr rfl hb hx I3 rv q2
end
end GS
/-! Own rule: several except clauses, each with or without «as n». -/
namespace GS
open PySem PySem.Spec PyProof.Rows L2
abbrev Cl := Value × Option Nat × (Addr → Value → Option Addr → TS)
/-- the ends and the slots of a suite whose error's name has slot i -/
def asEnds (i : Nat) (D : Ends) : Ends := { nx := fun σ' H' => D.nx (σ'.set i none) H', rt := D.rt, bk := fun σ' H' => D.bk (σ'.set i none) H', ct := fun σ' H' => D.ct (σ'.set i none) H' }
def wCl (D : Ends) (q : Cl) (a : Addr) (cls : Value) (d : Option Addr) (σ : L2.St) (H : Hp) : Prop := match q.2.1 with
  | none => q.2.2 a cls d D σ H
  | some i => q.2.2 a cls d (asEnds i D) (σ.set i (some (.ref a))) H
def wCls (K : PySem.W.Frag) (Wout : WX) (D : Ends) : List Cl → WX
  | [] => Wout
  | q :: r => fun cls d σ H => ∃ b, PySem.W.exmOne K cls q.1 = some b ∧ (b = true → ∀ a, H a = none → wCl D q a cls d σ H) ∧ (b = false → wCls K Wout D r cls d σ H)
/-- one clause is as it is told -/
inductive ClOk (X : Cx) : ExceptHandler → Cl → Prop
  | bare {x : Str} {c : Value} {ts : Addr → Value → Option Addr → TS} {st : Stmt} {sts : List Stmt} {np pos' : Pos} (hc : Names X x c)
      (su : ∀ (a : Addr) (oe : Obj) (cls : Value) (d : Option Addr) (pn : List (Addr × Obj)), Zc cls d oe → (∃ vs, oe.data = .fields vs) → PSs (X.suite a ((a, oe) :: pn)) (st :: sts) (ts a cls d)) :
      ClOk X (.ExceptHandler (some (.Name x np)) none (st :: sts) pos') (c, none, ts)
  | as {x n : Str} {c : Value} {ts : Addr → Value → Option Addr → TS} {st : Stmt} {sts : List Stmt} {np pos' : Pos} {i : Nat} (hc : Names X x c) (hN : X.N.Nodup) (hi : X.N[i]? = some n) (hln : X.env.kindOf n = some .local)
      (su : ∀ (a : Addr) (oe : Obj) (cls : Value) (d : Option Addr) (pn : List (Addr × Obj)), Zc cls d oe → (∃ vs, oe.data = .fields vs) → PSs (X.suite a ((a, oe) :: pn)) (st :: sts) (ts a cls d)) :
      ClOk X (.ExceptHandler (some (.Name x np)) (some n) (st :: sts) pos') (c, some i, ts)
inductive ClsOk (X : Cx) : List ExceptHandler → List Cl → Prop
  | nil : ClsOk X [] []
  | cons {h : ExceptHandler} {q : Cl} {hs : List ExceptHandler} {qs : List Cl} (o : ClOk X h q) (r : ClsOk X hs qs) : ClsOk X (h :: hs) (q :: qs)

/-- the frame holds the error at a; sI: the body's last state -/
structure Caught (X : Cx) (pins : List (Addr × Obj)) (σ : L2.St) (H : Hp) (a : Addr) (B : Heap) (cls : Value) (d : Option Addr) (sI s : Shared) : Prop where
  inv : Inv X pins σ H sI
  nb : ∀ (b : Addr) (o : Obj), sI.heap.get? b = some o → ¬b ∈ frs X.stack → B.get? b = some o
  up : sI.heap.UpToSlots s.heap
  na : H a = none
  os : s.os = sI.os
  ag : AllBare s.gens
  fl : PySem.HandSPX.FlyingZ B (X.env :: X.outer) a (Zc cls d) s.heap
section
variable {X : Cx} {pins : List (Addr × Obj)} {σ : L2.St} {H : Hp} {s sI : Shared} {a : Addr} {B : Heap} {cls : Value} {d : Option Addr} {D : Ends} {Wout : WX}
theorem Caught.here (c : Caught X pins σ H a B cls d sI s) : Inv X pins σ H s := c.inv.landed c.nb c.fl.1 c.up c.os c.ag
theorem Caught.off (c : Caught X pins σ H a B cls d sI s) (hf : X.env.frame = some X.env.locals) : a ≠ X.env.locals ∧ ¬ a ∈ X.fs := by
  obtain ⟨oe, vs, e1, _, e3⟩ := c.fl.there
  have none_of : ∀ b, b ∈ frs (X.env :: X.outer) → b ≠ a := fun b hb z => by
    obtain ⟨_, o, ho, hnf⟩ := c.fl.2.2.1.mem hb
    rw [z, e1] at ho
    exact hnf vs (by rw [← Option.some.inj ho]; exact e3)
  refine ⟨fun z => none_of a ?_ rfl, fun z => none_of a ?_ rfl⟩
  · rw [z]; exact List.mem_filterMap.mpr ⟨X.env, List.mem_cons_self, hf⟩
  · obtain ⟨e, he, q⟩ := List.mem_filterMap.mp z
    exact List.mem_filterMap.mpr ⟨e, List.mem_cons_of_mem _ he, q⟩
/-- it flies again -/
theorem Caught.again {M : Model} {A : Around} {E : Value → Shared → Prop} {Q : Unit → Shared → Prop} (c : Caught X pins σ H a B cls d sI s) (k : ∀ s', Caught X pins σ H a B cls d sI s' → Q () s') : wpAny M A (setFlight (.ref a) none) Q E s :=
  PySem.HandSPX.lands_againZ c.fl fun h' f u => k _ ⟨c.inv, c.nb, c.up.trans u, c.na, c.os, c.ag, f⟩
/-- a suite, from what its reading says, to the ends -/
theorem Caught.suite {M : Model} (c : Caught X pins σ H a B cls d sI s) (hf : X.env.frame = some X.env.locals) : ∃ oe, Zc cls d oe ∧ (∃ vs, oe.data = .fields vs) ∧ Inv (X.suite a ((a, oe) :: (X.pn ++ pins))) [] σ H s := by
  obtain ⟨oe, vs, e1, e2, e3⟩ := c.fl.there
  obtain ⟨n1, n2⟩ := c.off hf
  exact ⟨oe, e2, ⟨vs, e3⟩, c.here.suite e1 e3 c.na n1 n2⟩
/-- the class named in a clause, evaluated -/
theorem names_eval {x : Str} {c0 : Value} {np : Pos} {Q : Value → Shared → Prop} {E : Value → Shared → Prop} (c : Caught X pins σ H a B cls d sI s) (hf : X.env.frame = some X.env.locals) (hc : Names X x c0) (q : Q c0 s) :
    wpAny (model X.prog X.w) (X.A.mark (some (.ref a))) (eval (.Name x np) X.env) Q E s := by
  obtain ⟨oe, _, _, S⟩ := c.suite (M := model X.prog X.w) hf
  obtain ⟨hg, hdb, hh⟩ := hc
  cases hh with
  | inl hm => exact ld_glob (X := X.suite a ((a, oe) :: (X.pn ++ pins))) S hg hm q hdb
  | inr hm => exact ld_blt (X := X.suite a ((a, oe) :: (X.pn ++ pins))) S hg hm.1 hm.2.1 q hm.2.2 hdb
theorem clauses {hs : List ExceptHandler} {qs : List Cl} (k : ClsOk X hs qs) (hst : X.stack = X.env :: X.outer) (hf : X.env.frame = some X.env.locals) (tk : Takes X Wout) :
    ∀ {s : Shared}, Caught X pins σ H a B cls d sI s → wCls X.K Wout D qs cls d σ H → wpAny (model X.prog X.w) X.A (handleBy (.ref a) X.env hs) (SP X pins D) X.xe s := by
  induction k with
  | nil =>
    intro s c w
    refine wpAny_handleBy_nil ?_
    obtain ⟨k1, k2, k3, oe, vs, T, oT, ts', he, hz, hd, h1, hr⟩ := id c.fl
    have out : wpAny (model X.prog X.w) X.A (setFlight (.ref a) X.env.frame) (fun _ s4 => wpAny (model X.prog X.w) X.A (throw (.ref a) : Sem Flow) (SP X pins D) X.xe s4) X.xe s := by
      rw [hf]
      exact PySem.HandSPX.setFlight_upZ c.fl fun h4 hh4 up4 => wpAny_throw (tk _ _ ⟨a, B, sI, pins, σ, H, cls, d, rfl, c.inv, c.nb, c.up.trans up4, .inr (.inr (by rw [hst]; exact hh4)), c.na, c.os, c.ag, w⟩)
    unfold PySem.passOn
    refine wpAny_bind (wpAny_field he hd h1 ?_)
    rw [if_neg (show ¬ ((Value.ref T == Value.none) = true) from by simp)]
    first
      | exact wpAny_bind (wpAny_pure (wpAny_bind out))
      | exact wpAny_bind out
  | @cons h q hs qs o r ih =>
    intro s c w
    obtain ⟨b, hb1, hyes, hno⟩ := w
    obtain ⟨oe0, vs0, e01, e02, e03⟩ := c.fl.there
    have LT : PySem.W.Looks (model X.prog X.w) s.heap (typeOf (.ref a)) cls := fun A Q E s' kk z => wpAny_typeOf_ref (kk _ _ e01) (by rw [e02.1]; exact z)
    have LM := PySem.W.exm_one (M := model X.prog X.w) c.here.kIn LT hb1
    cases o with
    | bare hc su =>
      refine wpAny_handleBy_cons (codeAny_handlers_test ?_) (by intro q; cases q)
      refine names_eval c hf hc (LM.here ?_)
      cases b with
      | false => exact ih c (hno rfl)
      | true =>
        refine codeAny_handlers_suite (c.again fun s4 c4 => ?_)
        obtain ⟨oe, z1, z2, S⟩ := c4.suite (M := model X.prog X.w) hf
        have ok := c4.here.ok
        refine wpAny_mono ((su a oe cls d (X.pn ++ pins) z1 z2).run [] _ _ H _ S (hyes rfl a c.na)) (fun f s6 hsp => ?_) (fun _ _ z => False.elim z)
        cases f with
        | next => exact let ⟨σ6, H6, S6, q6⟩ := hsp; ⟨_, _, S6.unsuite ok, q6⟩
        | brk => exact let ⟨σ6, H6, S6, q6⟩ := hsp; ⟨_, _, S6.unsuite ok, q6⟩
        | cont => exact let ⟨σ6, H6, S6, q6⟩ := hsp; ⟨_, _, S6.unsuite ok, q6⟩
        | ret u => exact let ⟨v6, σ6, H6, S6, r6, q6⟩ := hsp; ⟨_, _, _, S6.unsuite ok, r6, q6⟩
    | @as x n c0 ts st sts np pos' i hc hN hi hln su =>
      refine wpAny_handleBy_cons (codeAny_handlers_test ?_) (by intro q; cases q)
      refine names_eval c hf hc (LM.here ?_)
      cases b with
      | false => exact ih c (hno rfl)
      | true =>
        refine codeAny_handlers_suite_as (c.again fun s4 c4 => ?_)
        obtain ⟨oe, z1, z2, S⟩ := c4.suite (M := model X.prog X.w) hf
        have ok := c4.here.ok
        refine store_ok (X := X.suite a ((a, oe) :: (X.pn ++ pins))) (v := .ref a) S hN hi (.inl hln) rfl (fun s5 S5 => ?_) (.inr hln)
        refine wpAny_mono ((su a oe cls d (X.pn ++ pins) z1 z2).run [] s5 _ H (asEnds i D) S5 (hyes rfl a c.na)) (fun f s6 hsp => ?_) (fun _ _ z => False.elim z)
        cases f with
        | next => exact let ⟨σ6, H6, S6, q6⟩ := hsp; gone_ok (S6.unsuite ok) hN hi hln fun s7 J7 => ⟨_, _, J7, q6⟩
        | brk => exact let ⟨σ6, H6, S6, q6⟩ := hsp; gone_ok (S6.unsuite ok) hN hi hln fun s7 J7 => ⟨_, _, J7, q6⟩
        | cont => exact let ⟨σ6, H6, S6, q6⟩ := hsp; gone_ok (S6.unsuite ok) hN hi hln fun s7 J7 => ⟨_, _, J7, q6⟩
        | ret u => exact let ⟨v6, σ6, H6, S6, r6, q6⟩ := hsp; gone_ok (S6.unsuite ok) hN hi hln fun s7 J7 => ⟨_, _, _, J7, r6, q6⟩
/-- THE RULE: try .. except A as x: .. except B: .. -/
theorem ps_try_cls {body : List Stmt} {h₀ : ExceptHandler} {hds : List ExceptHandler} {qs : List Cl} {pos : Pos} {tb : WX → TS} (hst : X.stack = X.env :: X.outer) (hf : X.env.frame = some X.env.locals) (tk : Takes X Wout)
    (hb : ∀ (W : WX) (pn : List (Addr × Obj)) (xe : Value → Shared → Prop), Takes (X.tr pn xe) W → PassesOwn (model X.prog X.w) X.A X.env xe → PSs (X.tr pn xe) body (tb W)) (hh : ClsOk X (h₀ :: hds) qs) :
    PS X (.Try body (h₀ :: hds) [] [] pos) (fun D σ H => tb (wCls X.K Wout D qs) D σ H) := by
  refine ⟨fun pins s σ H D I h => wpAny_Try_except ?_⟩
  have ok := I.ok
  have fr : X.A.frames = some (X.env :: X.outer) := by rw [ok.frames, hst]
  have B0 := hb (wCls X.K Wout D qs) (X.pn ++ pins) (fun e s₁ => wpAny (model X.prog X.w) X.A (noteFrame e X.env) (fun _ s₂ => wpAny (model X.prog X.w) X.A (setFlight e none) (fun _ s₃ => wpAny (model X.prog X.w) X.A (handleBy e X.env (h₀ :: hds)) (SP X pins D) X.xe s₃) X.xe s₂) X.xe s₁)
    (fun u s' xx => by
      obtain ⟨a, B, sI, pins', σ', H', cls, d, rfl, J', nb, up, sky, na, os, ag, w⟩ := xx
      refine Sky.land Zc.steady fr hf (show Sky B (X.env :: X.outer) a (Zc cls d) X.env.locals s'.heap by rw [← hst]; exact sky) fun h3 fl3 up3 => ?_
      exact clauses hh hst hf tk ⟨J'.ofTry ok, nb, up.trans up3, na, os, ag, fl3⟩ w) PassesOwn.looking
  refine wpAny_mono (B0.run [] s σ H D (I.toTry _) h) (fun f s1 hsp => ?_) (fun _ _ z => z)
  cases f with
  | next => exact let ⟨σ', H', J', q⟩ := hsp; wpAny_execs_nil ⟨σ', H', J'.ofTry ok, q⟩
  | brk => exact let ⟨σ', H', J', q⟩ := hsp; ⟨σ', H', J'.ofTry ok, q⟩
  | cont => exact let ⟨σ', H', J', q⟩ := hsp; ⟨σ', H', J'.ofTry ok, q⟩
  | ret u => exact let ⟨v, σ', H', J', r, q⟩ := hsp; ⟨v, σ', H', J'.ofTry ok, r, q⟩
end
end GS
/-! What the head tells: a list of Bools of the written part, and the defs. -/
namespace GS
open PySem PySem.W PySem.Calls PyProof.Rows He
abbrev Chk := PySem.W.Frag → Bool
def obsM (fa : List He.Fa) (ex : List Chk) (fn : List He5.DefA) (K : PySem.W.Frag) : He.AlD := ((fa.all fun f => f.ok K) && ((ex.all fun f => f K) && fn.all fun d => d.ok K), fn.map fun d => He5.fnA K (d.at_ K))
def SaysM (fa : List He.Fa) (ex : List Chk) (fn : List He5.DefA) (K : PySem.W.Frag) : Prop := obsM fa ex fn K = He5.valA fn
def obsMG (n : Nat) (fa : List He.Fa) (ex : List Chk) (fn : List He5.DefA) (g : Addr → Option Obj) : He.AlD := obsM fa ex fn (frG g (He5.asA g n))
def hookM (n : Nat) (fa : List He.Fa) (ex : List Chk) (fn : List He5.DefA) : PySem.W.Hook where
  α := He.AlD
  obs s := obsMG n fa ex fn s.heap.get?
  val _ := He5.valA fn
  says _ h := ∃ K : PySem.W.Frag, K.In h ∧ SaysM fa ex fn K
  of _ _ e := ⟨_, frG_in, e⟩
  keeps := fun _ _ _ ⟨K, i, c⟩ k => ⟨K, Frag.In.keeps i k, c⟩
theorem obsMG_eq {n : Nat} {fa : List He.Fa} {ex : List Chk} {fn : List He5.DefA} {g : Addr → Option Obj} {s : Shared} (h : ∀ a, g a = s.heap.get? a) : obsMG n fa ex fn g = (hookM n fa ex fn).obs s := by
  obtain rfl : g = s.heap.get? := funext h
  rfl
section
variable {fa : List He.Fa} {ex : List Chk} {fn : List He5.DefA} {K : PySem.W.Frag}
theorem SaysM.fst (c : SaysM fa ex fn K) : (∀ f ∈ fa, f.ok K = true) ∧ (∀ f ∈ ex, f K = true) ∧ ∀ d ∈ fn, d.ok K = true := by
  have e : ((fa.all fun f => f.ok K) && ((ex.all fun f => f K) && fn.all fun d => d.ok K)) = true := congrArg (fun z : He.AlD => z.1) c
  obtain ⟨h1, h2⟩ := ba e
  obtain ⟨h3, h4⟩ := ba h2
  exact ⟨List.all_eq_true.mp h1, List.all_eq_true.mp h3, List.all_eq_true.mp h4⟩
theorem SaysM.fact (c : SaysM fa ex fn K) (i : Nat) {f : He.Fa} (h : fa[i]? = some f := by rfl) : f.ok K = true := c.fst.1 f (List.mem_of_getElem? h)
theorem SaysM.chk (c : SaysM fa ex fn K) (i : Nat) {f : Chk} (h : ex[i]? = some f := by rfl) : f K = true := c.fst.2.1 f (List.mem_of_getElem? h)
theorem SaysM.def_ (c : SaysM fa ex fn K) (i : Nat) {d : He5.DefA} (h : fn[i]? = some d := by rfl) : ∃ fd, L2.FunD K d.name d.qual d.params d.body d.scope (d.dvs K) (d.kws K) (d.at_ K) fd := by
  have e : fn.map (fun d => He5.fnA K (d.at_ K)) = fn.map He5.DefA.val := congrArg (fun z : He.AlD => z.2) c
  have e2 := congrArg (fun l => l[i]?) e
  simp only [List.getElem?_map, h, Option.map_some, Option.some.injEq] at e2
  exact He5.DefA.funD e2 (c.fst.2.2 d (List.mem_of_getElem? h))
end
/-! ### classes of errors -/
def oexB (K : PySem.W.Frag) (C : Addr) : Bool := (match K.lookup C with
    | some ⟨.type t, _, .cls cd, sl⟩ => (match cd.mro, sl.toList with
      | .ref c :: bm, [_, _, _, _, some (.builtin n), _] => decide (t = "type") && (decide (c = C) && (decide (n = "ValueError.__new__") && (!cd.hasDel && (cd.hasDict && PySem.HandSPX.refsVE bm))))
      | _, _ => false)
    | _ => false) && (eqO (findIn K (.ref C) "__setattr__") (some (some (.builtin "object.__setattr__"))) && (decide (subIn K (.ref C) (.type "BaseException") = some true) && (decide (typeIn K (.ref C) = some (.type "type")) && keepIn K (.ref C))))
theorem oexB_ok {K : PySem.W.Frag} {C : Addr} (h : oexB K C = true) : L2.OexC K C := by
  obtain ⟨h0, h⟩ := ba h
  obtain ⟨h1, h⟩ := ba h
  obtain ⟨h2, h⟩ := ba h
  obtain ⟨h3, h4⟩ := ba h
  refine ⟨?_, eqO_ok h1, of_decide_eq_true h2, of_decide_eq_true h3, h4⟩
  clear h1 h2 h3 h4 h
  split at h0
  · rename_i t dd cd sl ho
    split at h0
    · rename_i c bm k0 k1 k2 k3 n k5 hm hs
      obtain ⟨a1, a⟩ := ba h0
      obtain ⟨a2, a⟩ := ba a
      obtain ⟨a3, a⟩ := ba a
      obtain ⟨a4, a⟩ := ba a
      obtain ⟨a5, a6⟩ := ba a
      obtain ⟨nm, bs, mro, ns, qn, hd, sn, sub, ab, col, del⟩ := cd
      obtain ⟨l⟩ := sl
      dsimp only at hm hs a4 a5
      subst hm hs a5
      obtain rfl := of_decide_eq_true a1
      obtain rfl := of_decide_eq_true a2
      obtain rfl := of_decide_eq_true a3
      have a4' : del = false := by simpa using a4
      subst a4'
      exact ⟨nm, qn, ns, bs, bm, sn, sub, ab, col, dd, k0, k1, k2, k3, k5, ho, a6⟩
    · cases h0
  · cases h0
/-- an error class X with the fields fs: made by its own __init__, caught by the classes yes, not by the classes no; its fields are read -/
def errB (x : PySem.Str) (fs : List PySem.Str) (yes no : List PySem.Str) : Chk := fun K => oexB K (ga K x) && (L2.xfB K (ga K x) && ((fs.all fun f => eqO (findIn K (.ref (ga K x)) f) (some none)) &&
  ((yes.all fun y => decide (exmOne K (.ref (ga K x)) (.ref (ga K y)) = some true)) && ((no.all fun y => decide (exmOne K (.ref (ga K x)) (.ref (ga K y)) = some false)) &&
    (eqO (findIn K (.ref (ga K x)) "__init__") (some (some (.ref (ma K (ga K x) "__init__")))) && decide (typeIn K (.ref (ma K (ga K x) "__init__")) = some (.type "function")))))))
structure ErrC (K : PySem.W.Frag) (x : PySem.Str) (fs yes no : List PySem.Str) : Prop where
  o : L2.OexC K (ga K x)
  xf : L2.XfC K (ga K x)
  no_ : ∀ f ∈ fs, findIn K (.ref (ga K x)) f = some none
  y : ∀ c ∈ yes, exmOne K (.ref (ga K x)) (.ref (ga K c)) = some true
  n : ∀ c ∈ no, exmOne K (.ref (ga K x)) (.ref (ga K c)) = some false
  i : findIn K (.ref (ga K x)) "__init__" = some (some (.ref (ma K (ga K x) "__init__")))
  t : typeIn K (.ref (ma K (ga K x) "__init__")) = some (.type "function")
theorem errB_ok {K : PySem.W.Frag} {x : PySem.Str} {fs yes no : List PySem.Str} (h : errB x fs yes no K = true) : ErrC K x fs yes no := by
  obtain ⟨h1, h⟩ := ba h
  obtain ⟨h2, h⟩ := ba h
  obtain ⟨h3, h⟩ := ba h
  obtain ⟨h4, h⟩ := ba h
  obtain ⟨h5, h⟩ := ba h
  obtain ⟨h6, h7⟩ := ba h
  exact ⟨oexB_ok h1, L2.xfB_ok h2, fun f hf => eqO_ok (List.all_eq_true.mp h3 f hf), fun f hf => of_decide_eq_true (List.all_eq_true.mp h4 f hf), fun f hf => of_decide_eq_true (List.all_eq_true.mp h5 f hf), eqO_ok h6, of_decide_eq_true h7⟩
/-! ### own classes -/
/-- a class whose instances are asked by isinstance; values of built-in types are none of it, and it is none of them -/
def clsB (x : PySem.Str) (tys : List String) : Chk := fun K => eqO (findIn K (.ref (ga K x)) "__class__") (some (some (.builtin "object.__class__"))) && (decide (mroIn K (ga K x) (.type "object") = some true) &&
  ((tys.all fun t => decide (kitOne K (.type t) (.ref (ga K x)) = some false) && (decide (kitOne K (.ref (ga K x)) (.type t) = some false) && notFirst K (ga K x) (.type t))) &&
    (decide (kitOne K (.ref (ga K x)) (.ref (ga K x)) = some true) && notFirst K (ga K x) (.ref (ga K x)))))
structure ClsC (K : PySem.W.Frag) (x : PySem.Str) (tys : List String) : Prop where
  ha : findIn K (.ref (ga K x)) "__class__" = some (some (.builtin "object.__class__"))
  hm : mroIn K (ga K x) (.type "object") = some true
  ty : ∀ t ∈ tys, kitOne K (.type t) (.ref (ga K x)) = some false ∧ kitOne K (.ref (ga K x)) (.type t) = some false ∧ notFirst K (ga K x) (.type t) = true
  me : kitOne K (.ref (ga K x)) (.ref (ga K x)) = some true
  nf : notFirst K (ga K x) (.ref (ga K x)) = true
theorem clsB_ok {K : PySem.W.Frag} {x : PySem.Str} {tys : List String} (h : clsB x tys K = true) : ClsC K x tys := by
  obtain ⟨h1, h⟩ := ba h
  obtain ⟨h2, h⟩ := ba h
  obtain ⟨h3, h⟩ := ba h
  obtain ⟨h4, h5⟩ := ba h
  refine ⟨eqO_ok h1, of_decide_eq_true h2, fun t ht => ?_, of_decide_eq_true h4, h5⟩
  obtain ⟨a, b⟩ := ba (List.all_eq_true.mp h3 t ht)
  obtain ⟨b, c⟩ := ba b
  exact ⟨of_decide_eq_true a, of_decide_eq_true b, c⟩
/-- what holds of every program: how __class__ is read -/
def topB : Chk := fun K => eqO (specialIn K (.builtin "object.__class__") "__get__") (some (some (.builtin "getset_descriptor.__get__"))) && decide (takesIn K (.builtin "object.__class__") = some true)
/-- the class says nothing of != -/
def neB (x : PySem.Str) : Chk := fun K => eqO (findIn K (.ref (ga K x)) "__ne__") (some (some (.builtin "object.__ne__")))
/-- a staticmethod -/
def smB (x m : PySem.Str) : Chk := fun K => He5.wrapB K (ga K x) "staticmethod" "staticmethod.__get__" m && (readsIn K (ga K x) (.type "type") && (eqO (specialIn K (.ref (ga K x)) "__getattribute__") (some (some (.builtin "type.__getattribute__"))) && keepIn K (.ref (He5.wf K (ga K x) "staticmethod" m))))
theorem smB_ok {K : PySem.W.Frag} {x m : PySem.Str} (h : smB x m K = true) : SMet K (ga K x) (.type "type") m (ma K (ga K x) m) (He5.wf K (ga K x) "staticmethod" m) ∧ ClX.CRead K (ga K x) (.type "type") ∧ keepIn K (.ref (He5.wf K (ga K x) "staticmethod" m)) = true := by
  obtain ⟨h1, h⟩ := ba h
  obtain ⟨h2, h⟩ := ba h
  obtain ⟨h3, h4⟩ := ba h
  obtain ⟨a, b⟩ := He5.wrapB_ok h1
  exact ⟨⟨a, b⟩, ⟨h2, eqO_ok h3⟩, h4⟩
end GS
/-! Readings, step by step: one lemma a construct, and a step tactic. -/
namespace GS
open PySem PySem.Spec PyProof.Rows L2

/-! ### promises by the number of arguments -/
def sp1 (S : V → Hp → VK → XK → Prop) : Sp := fun vs H Q E => match vs with | [a] => S a H Q E | _ => False
def sp2 (S : V → V → Hp → VK → XK → Prop) : Sp := fun vs H Q E => match vs with | [a, b] => S a b H Q E | _ => False
def sp3 (S : V → V → V → Hp → VK → XK → Prop) : Sp := fun vs H Q E => match vs with | [a, b, c] => S a b c H Q E | _ => False
def sp4 (S : V → V → V → V → Hp → VK → XK → Prop) : Sp := fun vs H Q E => match vs with | [a, b, c, d] => S a b c d H Q E | _ => False
theorem sp1_len {S : V → Hp → VK → XK → Prop} : ∀ vs H Q E, sp1 S vs H Q E → vs.length = 1 := fun vs _ _ _ h => match vs, h with | [_], _ => rfl
theorem sp2_len {S : V → V → Hp → VK → XK → Prop} : ∀ vs H Q E, sp2 S vs H Q E → vs.length = 2 := fun vs _ _ _ h => match vs, h with | [_, _], _ => rfl
theorem sp3_len {S : V → V → V → Hp → VK → XK → Prop} : ∀ vs H Q E, sp3 S vs H Q E → vs.length = 3 := fun vs _ _ _ h => match vs, h with | [_, _, _], _ => rfl
theorem sp4_len {S : V → V → V → V → Hp → VK → XK → Prop} : ∀ vs H Q E, sp4 S vs H Q E → vs.length = 4 := fun vs _ _ _ h => match vs, h with | [_, _, _, _], _ => rfl
theorem sp1_is {S : V → Hp → VK → XK → Prop} {vs H Q E} (h : sp1 S vs H Q E) : ∃ a, vs = [a] ∧ S a H Q E := match vs, h with | [a], h => ⟨a, rfl, h⟩
theorem sp2_is {S : V → V → Hp → VK → XK → Prop} {vs H Q E} (h : sp2 S vs H Q E) : ∃ a b, vs = [a, b] ∧ S a b H Q E := match vs, h with | [a, b], h => ⟨a, b, rfl, h⟩
theorem sp3_is {S : V → V → V → Hp → VK → XK → Prop} {vs H Q E} (h : sp3 S vs H Q E) : ∃ a b c, vs = [a, b, c] ∧ S a b c H Q E := match vs, h with | [a, b, c], h => ⟨a, b, c, rfl, h⟩
theorem sp4_is {S : V → V → V → V → Hp → VK → XK → Prop} {vs H Q E} (h : sp4 S vs H Q E) : ∃ a b c d, vs = [a, b, c, d] ∧ S a b c d H Q E := match vs, h with | [a, b, c, d], h => ⟨a, b, c, d, rfl, h⟩

/-! ### heaps that grow -/
def Ex (H H' : Hp) : Prop := ∀ a o, H a = some o → H' a = some o
theorem Ex.refl (H : Hp) : Ex H H := fun _ _ h => h
theorem Ex.trans {H H1 H2 : Hp} (a : Ex H H1) (b : Ex H1 H2) : Ex H H2 := fun x o h => b x o (a x o h)
theorem Ex.new {H : Hp} {p : Addr} {o : HO} (h : H p = none) : Ex H (upd H p o) := fun a u e => by rw [upd_ne (ne_of_none e h)]; exact e
theorem Ex.get {H H' : Hp} {a : Addr} {o : HO} (e : Ex H H') (h : H a = some o) : H' a = some o := e _ _ h
theorem Ex.free {H H' : Hp} {p : Addr} (e : Ex H H') (h : H' p = none) : H p = none := by
  cases q : H p with
  | none => rfl
  | some o => rw [e _ _ q] at h; cases h
theorem Ex.sql {K : PySem.W.Frag} {H H' : Hp} {a : Addr} {xs : List V} (e : Ex H H') (h : SqL K H a xs) : SqL K H' a xs := Same.seq e h
theorem Ex.sqt {K : PySem.W.Frag} {H H' : Hp} {a : Addr} {xs : List V} (e : Ex H H') (h : SqT K H a xs) : SqT K H' a xs := SqT.ext h e
/-- the heap without what stands at b -/
def wo (H : Hp) (b : Addr) : Hp := fun a => if a = b then none else H a
theorem wo_ex (H : Hp) (b : Addr) : Ex (wo H b) H := fun a o h => by
  unfold wo at h
  split at h
  · cases h
  · exact h
theorem Ex.wo {H H' : Hp} (b : Addr) (e : Ex H H') : Ex (wo H b) (wo H' b) := fun a o h => by
  unfold GS.wo at h ⊢
  split at h
  · cases h
  · rename_i n
    rw [if_neg n]
    exact e _ _ h
theorem wo_at {H : Hp} {a b : Addr} {o u : HO} (h : H a = some o) (hb : H b = some u) (n : o ≠ u) : wo H b a = some o := by
  unfold wo
  rw [if_neg (ne_of h hb n)]
  exact h
theorem wo_upd {H : Hp} {b : Addr} {o : HO} : wo (upd H b o) b = wo H b := by
  funext a
  unfold wo upd
  split <;> rfl

/-- what is wished of a new instance -/
def mkK (C : Addr) (sp : Sp) (E : XK) (Q : VK) : List V → Hp → Prop := fun vs H1 => ∀ x dx, H1 x = none → H1 dx = none → dx ≠ x → sp (.ref x :: (vs ++ [])) (upd (upd H1 dx (.own x)) x (.ins C dx [])) (fun v H2 => v = .non ∧ Q (.ref x) H2) E
/-- what is wished of a new tuple, a new list -/
def newT (Q : VK) : List V → Hp → Prop := fun xs H1 => xs.length ≤ sizeLine ∧ ∀ p, H1 p = none → Q (.ref p) (upd H1 p (.tup xs))
def newL (Q : VK) : List V → Hp → Prop := fun xs H1 => xs.length ≤ sizeLine ∧ ∀ p, H1 p = none → Q (.ref p) (upd H1 p (.lst xs))
theorem r_newT {Q : VK} {xs : List V} {H : Hp} (hz : xs.length ≤ sizeLine) (q : ∀ p H', H p = none → Ex H H' → H' p = some (.tup xs) → Q (.ref p) H') : newT Q xs H := ⟨hz, fun p hp => q p _ hp (Ex.new hp) upd_same⟩
theorem r_newL {Q : VK} {xs : List V} {H : Hp} (hz : xs.length ≤ sizeLine) (q : ∀ p H', H p = none → Ex H H' → H' p = some (.lst xs) → Q (.ref p) H') : newL Q xs H := ⟨hz, fun p hp => q p _ hp (Ex.new hp) upd_same⟩
/-! ### expressions -/
section
variable {K : PySem.W.Frag} {σ : L2.St} {H : Hp} {Q : VK} {ta tb te tc : TE} {t u : TT} {v x y : V} {i j : Int}
theorem r_var {n : Nat} (h : σ[n]? = some (some v)) (q : Q v H) : tVar n σ H Q := ⟨v, h, q⟩
theorem r_var3 {n : Nat} (q : Q v H) (h : σ[n]? = some (some v)) : tVar n σ H Q := ⟨v, h, q⟩
theorem r_c (q : Q v H) : tC v σ H Q := q
theorem r_op {r : R2} (q : ta σ H fun x H1 => tb σ H1 fun y H2 => r x y H2 Q) : tOp r ta tb σ H Q := q
theorem r_un {r : V → Hp → VK → Prop} (q : ta σ H fun x H1 => r x H1 Q) : tUn r ta σ H Q := q
theorem r_I0 {g : Int → Int → V} (q : Q (g i j) H) : rI0 g (.int i) (.int j) H Q := ⟨i, j, rfl, rfl, q⟩
theorem r_I {C : Int → Int → Prop} {g : Int → Int → V} (c : C i j) (q : Q (g i j) H) : rI C g (.int i) (.int j) H Q := ⟨i, j, rfl, rfl, c, q⟩
theorem r_U {g : Int → V} (q : Q (g i) H) : rU g (.int i) H Q := ⟨i, rfl, q⟩
theorem r_eq (h : scal x y = true) (q : Q (.bl (decide (x = y))) H) : rEq x y H Q := ⟨h, q⟩
theorem r_eqI (q : Q (.bl (decide (i = j))) H) : rEq (.int i) (.int j) H Q := ⟨rfl, by rwa [show decide (V.int i = V.int j) = decide (i = j) from by simp]⟩
theorem r_neI (q : Q (.bl (!decide (i = j))) H) : rNe (.int i) (.int j) H Q := ⟨rfl, by rwa [show decide (V.int i = V.int j) = decide (i = j) from by simp]⟩
theorem r_ne (h : scal x y = true) (q : Q (.bl (!decide (x = y))) H) : rNe x y H Q := ⟨h, q⟩
theorem r_test {R : Bool → Hp → Prop} (q : ta σ H fun x H' => ∃ k, x = .bl k ∧ R k H') : tTest ta σ H R := q
theorem r_B {R : Bool → Hp → Prop} (q : ta σ H fun x H' => ∃ k, x = .bl k ∧ R k H') : tB ta σ H R := q
theorem r_k {b : Bool} {R : Bool → Hp → Prop} (q : R b H) : ∃ k, V.bl b = .bl k ∧ R k H := ⟨b, rfl, q⟩
theorem r_and {R : Bool → Hp → Prop} (q : t σ H fun c H1 => if c = true then u σ H1 R else R false H1) : tAnd t u σ H R := q
theorem r_or {R : Bool → Hp → Prop} (q : t σ H fun c H1 => if c = true then R true H1 else u σ H1 R) : tOr t u σ H R := q
theorem r_not {R : Bool → Hp → Prop} (q : t σ H fun c H1 => R (!c) H1) : tNot t σ H R := q
theorem r_andV (q : ta σ H fun x H1 => ∃ c, x = .bl c ∧ if c = true then tb σ H1 Q else Q (.bl false) H1) : tAndV ta tb σ H Q := q
theorem r_orV (q : ta σ H fun x H1 => ∃ c, x = .bl c ∧ if c = true then Q (.bl true) H1 else tb σ H1 Q) : tOrV ta tb σ H Q := q
theorem r_notV (q : ta σ H fun x H1 => ∃ c, x = .bl c ∧ Q (.bl (!c)) H1) : tNotV ta σ H Q := q
theorem r_kV {b : Bool} {R : Bool → Prop} (q : R b) : ∃ c, V.bl b = .bl c ∧ R c := ⟨b, rfl, q⟩
theorem r_if (q : t σ H fun c H1 => if c = true then ta σ H1 Q else tb σ H1 Q) : tIf t ta tb σ H Q := q
theorem r_nil {R : List V → Hp → Prop} (q : R [] H) : tNil σ H R := q
theorem r_cons {tr : TA} {R : List V → Hp → Prop} (q : ta σ H fun x H1 => tr σ H1 fun xs H2 => R (x :: xs) H2) : tCons ta tr σ H R := q
theorem r_cb {r : List V → Hp → VK → Prop} {tr : TA} (q : tr σ H fun vs H1 => r vs H1 Q) : tCB r tr σ H Q := q
theorem r_call {sp : Sp} {E : XK} {tr : TA} (q : tr σ H fun vs H1 => sp (vs ++ []) H1 Q E) : tCall sp [] E tr σ H Q := q
theorem r_make {C : Addr} {sp : Sp} {E : XK} {tr : TA} (q : tr σ H (mkK C sp E Q)) : tMake C sp [] E tr σ H Q := q
theorem r_fld {a C dx : Addr} {fs : List (Str × V)} {f : Str} (h : H a = some (.ins C dx fs)) (c : Cls K C) (n : NoAttr K C f) (l : fs.lookup f = some v) (q : Q v H) : ∃ a' C dx fs v, V.ref a = .ref a' ∧ H a' = some (.ins C dx fs) ∧ Cls K C ∧ NoAttr K C f ∧ fs.lookup f = some v ∧ Q v H :=
  ⟨a, C, dx, fs, v, rfl, h, c, n, l, q⟩
theorem r_tup {tr : TA} (q : tr σ H (newT Q)) : tTup tr σ H Q := q
theorem r_lst {tr : TA} (q : tr σ H (newL Q)) : tLst tr σ H Q := q
/-! ### statements -/
variable {D : Ends} {ts tu : TS}
theorem r_seq (q : ts { D with nx := tu D } σ H) : tSeq ts tu D σ H := q
theorem r_asg {n : Nat} (q : te σ H fun x H1 => D.nx (σ.set n (some x)) H1) : tAsg te (gName n) D σ H := q
theorem r_asgG {g : TG} (q : te σ H fun x H1 => g x σ H1 D.nx) : tAsg te g D σ H := q
theorem r_ret (q : te σ H D.rt) : tRet te D σ H := q
theorem r_drop (q : te σ H fun _ H1 => D.nx σ H1) : tDrop te D σ H := q
theorem r_next (q : D.nx σ H) : tNext D σ H := q
theorem r_ifS (q : t σ H fun b H1 => if b = true then ts D σ H1 else tu D σ H1) : tIfS t ts tu D σ H := q
theorem r_raise {W : WX} {X : L2.St → Hp → XK → Prop} (q : X σ H fun cls d H' => W cls d σ H') : (fun (_ : Ends) σ H => X σ H fun cls d H' => W cls d σ H') D σ H := q
end
theorem ite_t {c : Bool} {A B : Prop} (hc : c = true) (h : A) : if c = true then A else B := by rw [if_pos hc]; exact h
theorem ite_f {c : Bool} {A B : Prop} (hc : c = false) (h : B) : if c = true then A else B := by rw [hc, if_neg Bool.false_ne_true]; exact h
theorem ite_b {c : Bool} {A B : Prop} (h1 : c = true → A) (h2 : c = false → B) : if c = true then A else B := by
  cases c with
  | true => rw [if_pos rfl]; exact h1 rfl
  | false => rw [if_neg Bool.false_ne_true]; exact h2 rfl

/-! ### own rules that the layer lacks -/
section
variable {X : Cx}
theorem pe_gint {x : Str} {pos : Pos} {i : Int} (hg : Gl X x) (h : ∃ t, X.mg x = some (.int i t)) (hd : (x == ("__debug__" : Str)) = false := by decide) : PE X (.Name x pos) (tC (.int i)) := let ⟨t, e⟩ := h; pe_glob hg e ⟨t, rfl⟩ hd
theorem pe_gstr {x : Str} {pos : Pos} {z : Str} (hg : Gl X x) (h : ∃ t, X.mg x = some (.str z t)) (hd : (x == ("__debug__" : Str)) = false := by decide) : PE X (.Name x pos) (tC (.str z)) := let ⟨t, e⟩ := h; pe_glob hg e ⟨t, rfl⟩ hd
def CPowW (i j : Int) : Prop := 0 ≤ j ∧ (Builtin.Int.intBits i : Int) * j ≤ 2 ^ 27
theorem op_powW : OpR X (binaryOp .Pow) (rI CPowW fun i j => .int (i ^ j.toNat)) := opI fun _ _ _ _ _ _ _ hc q => pow_int hc.1 hc.2 q
theorem cpow_of {i : Int} {n k : Nat} (h : i.natAbs < 2 ^ n) (hk : n * k ≤ 2 ^ 27) : CPowW i (k : Int) := by
  refine ⟨by omega, ?_⟩
  have b : Builtin.Int.intBits i ≤ n := by
    unfold Builtin.Int.intBits
    split
    · exact Nat.zero_le _
    · rename_i h0
      have h1 : i ≠ 0 := by simpa using h0
      have : i.natAbs.log2 < n := (Nat.log2_lt (by omega)).mpr h
      omega
  have : Builtin.Int.intBits i * k ≤ 2 ^ 27 := Nat.le_trans (Nat.mul_le_mul_right k b) hk
  exact_mod_cast this
end
end GS
/-! Comprehensions whose turns only let the heap grow; integers as texts. -/
namespace GS
open PySem PySem.Spec PyProof.Rows L2 TL
/-- the body of a comprehension's reading -/
def lcB (J : It) (g : TG) (tt : TT) (te : TE) (vs : List Nat) (σ : L2.St) (Q : VK) : Hp → Prop := fun H1 => ∀ D, H1 D = none → ∃ W : Nat → Nat → Hp → Prop, (∃ m, W 0 m (upd H1 D (.lst []))) ∧ ∀ i m H, W i m H → (J.stop i H ∧ Q (.ref D) H) ∨
  (J.go i H ∧ ∃ Nx : Hp → Prop, (∀ H', Nx H' → ∃ m', m' < m ∧ W (i + 1) m' H') ∧ ∀ x H', J.yld i H x H' → g x (wipe σ vs) H' fun σ2 H2 => wipe σ2 vs = wipe σ vs ∧ tt σ2 H2 fun b H3 => if b = true then te σ2 H3 fun y H4 => ∃ acc, H4 D = some (.lst acc) ∧ acc.length < sizeLine ∧ Nx (upd H4 D (.lst (acc ++ [y]))) else Nx H3)
theorem r_lc {wi : TI} {g : TG} {tt : TT} {te : TE} {vs : List Nat} {σ : L2.St} {H : Hp} {Q : VK} (q : wi σ H fun J H1 => lcB J g tt te vs σ Q H1) : tLc wi g tt te vs σ H Q := q
theorem r_chain {r r' : R2} {ta tb tc : TE} {σ : L2.St} {H : Hp} {Q : VK} (q : ta σ H fun x H1 => tb σ H1 fun y H2 => r x y H2 fun z H3 => ∃ k, z = .bl k ∧ (if k = true then tc σ H3 fun w' H4 => r' y w' H4 Q else Q (.bl false) H3)) : tChain r r' ta tb tc σ H Q := q
theorem all_true {K : PySem.W.Frag} {H : Hp} {p : Addr} {n : Nat} {Q : VK} (h : H p = some (.lst ((List.range n).map fun _ => V.bl true))) (q : Q (.bl true) H) : rAll K [.ref p] H Q := by
  refine ⟨p, (List.range n).map fun _ => true, rfl, SqL.of (by rw [List.map_map]; exact h), ?_⟩
  have e : ((List.range n).map fun _ => true).all id = true := by simp
  rw [e]
  exact q
theorem r_pickS {c : Prop} [Decidable c] {σ : L2.St} {H : Hp} {Q : VK} {ta tb : TE} {i j : Str} (h1 : ∀ Q : VK, Q (.str i) H → ta σ H Q) (h2 : ∀ Q : VK, Q (.str j) H → tb σ H Q) (q : Q (.str (if c then i else j)) H) : if decide c = true then ta σ H Q else tb σ H Q := by
  by_cases h : c
  · rw [if_pos h] at q
    exact ite_t (decide_eq_true h) (h1 Q q)
  · rw [if_neg h] at q
    exact ite_f (decide_eq_false h) (h2 Q q)
theorem r_iT {K : PySem.W.Frag} {tl : TE} {σ : L2.St} {H : Hp} {R : It → Hp → Prop} (q : tl σ H fun x H1 => ∃ a, x = .ref a ∧ (∃ xs, SqT K H1 a xs) ∧ R (Itt K a) H1) : iTup K tl σ H R := q
theorem r_iL {K : PySem.W.Frag} {tl : TE} {σ : L2.St} {H : Hp} {R : It → Hp → Prop} (q : tl σ H fun x H1 => ∃ a, x = .ref a ∧ (∃ xs, SqL K H1 a xs) ∧ R (Itl K a) H1) : iList K tl σ H R := q
theorem r_iR1 {ta : TA} {σ : L2.St} {H : Hp} {R : It → Hp → Prop} (q : ta σ H fun vs H1 => ∃ j : Int, vs = [.int j] ∧ -(2 ^ 62) ≤ j ∧ j < 2 ^ 62 ∧ R (Itr 0 j.toNat) H1) : iRng1 ta σ H R := q
theorem Ex.mut {H H' : Hp} {p : Addr} {o : HO} (e : Ex H H') (h : H p = none) : Ex H (upd H' p o) := fun a u ha => by
  rw [upd_ne (ne_of_none ha h)]
  exact e a u ha
theorem sz_le {n : Nat} (h : n ≤ 100000) : n ≤ sizeLine := Nat.le_trans h (by decide)
theorem sz_lt {n : Nat} (h : n < 100000) : n < sizeLine := Nat.lt_of_lt_of_le h (by decide)
/-- the items that a filtered comprehension gives -/
def given (n : Nat) (t : Nat → Bool) (f : Nat → V) : List V := ((List.range n).filter t).map f
theorem given_len (n : Nat) (t : Nat → Bool) (f : Nat → V) : (given n t f).length ≤ n := by
  unfold given
  rw [List.length_map]
  exact Nat.le_trans (List.length_filter_le _ _) (by rw [List.length_range]; exact Nat.le_refl _)
theorem given_all (n : Nat) (f : Nat → V) : given n (fun _ => true) f = (List.range n).map f := by
  unfold given
  rw [List.filter_eq_self.mpr (fun _ _ => rfl)]
theorem given_succ (n : Nat) (t : Nat → Bool) (f : Nat → V) : given (n + 1) t f = if t n = true then given n t f ++ [f n] else given n t f := by
  unfold given
  rw [List.range_succ, List.filter_append, List.map_append, List.filter_cons]
  split
  · rfl
  · show _ ++ [] = _
    rw [List.append_nil]
/-- one name, k its slot -/
theorem r_lcF {J : It} {n : Nat} {G : Hp → Prop} {Y : Nat → Hp → V → Hp → Prop} {k : Nat} {tt : TT} {te : TE} {σ : L2.St} {H1 : Hp} {Q : VK} (w : Walk J n G Y) (t : Nat → Bool) (f : Nat → V) (hn : n ≤ 50000) (hG : ∀ H' : Hp, Ex H1 H' → G H')
    (hw : ∀ x, wipe ((wipe σ [k]).set k (some x)) [k] = wipe σ [k])
    (hs : ∀ i x H H', i < n → Ex H1 H → Y i H x H' → Ex H H' ∧ ∀ R : Bool → Hp → Prop, (∀ H3, Ex H' H3 → R (t i) H3) → tt ((wipe σ [k]).set k (some x)) H' R)
    (he : ∀ i x H, i < n → t i = true → Ex H1 H → (∃ H0 H2, Y i H0 x H2 ∧ Ex H1 H0 ∧ Ex H0 H2 ∧ Ex H2 H) → ∀ R : VK, (∀ H4, Ex H H4 → R (f i) H4) → te ((wipe σ [k]).set k (some x)) H R)
    (q : ∀ p H', H1 p = none → Ex H1 H' → H' p = some (.lst (given n t f)) → Q (.ref p) H') : lcB J (gName k) tt te [k] σ Q H1 := by
  intro D hD
  refine lc_it w (fun i H => Ex H1 H ∧ H D = some (.lst (given i t f))) ⟨Ex.mut (Ex.refl _) hD, upd_same⟩ (fun i H _ p => hG H p.1) ?_ (fun H p => q D H hD p.1 p.2)
  intro i x H H' hi p y
  obtain ⟨e1, ht⟩ := hs i x H H' hi p.1 y
  refine ⟨hw x, ht _ fun H3 e3 => ?_⟩
  have hD3 : H3 D = some (.lst (given i t f)) := e3 _ _ (e1 _ _ p.2)
  cases c : t i with
  | false =>
    refine ite_f rfl ⟨(p.1.trans e1).trans e3, ?_⟩
    rw [given_succ, c]
    exact hD3
  | true =>
    refine ite_t rfl (he i x H3 hi c ((p.1.trans e1).trans e3) ⟨H, H', y, p.1, e1, e3⟩ _ fun H4 e4 => ?_)
    refine ⟨_, e4 _ _ hD3, sz_lt (by have := given_len i t f; omega), Ex.mut (((p.1.trans e1).trans e3).trans e4) hD, ?_⟩
    rw [given_succ, c]
    exact upd_same
/-- without a test -/
theorem r_lcM {J : It} {n : Nat} {G : Hp → Prop} {Y : Nat → Hp → V → Hp → Prop} {k : Nat} {te : TE} {σ : L2.St} {H1 : Hp} {Q : VK} (w : Walk J n G Y) (f : Nat → V) (hn : n ≤ 50000) (hG : ∀ H' : Hp, Ex H1 H' → G H')
    (hw : ∀ x, wipe ((wipe σ [k]).set k (some x)) [k] = wipe σ [k])
    (he : ∀ i x H H', i < n → Ex H1 H → Y i H x H' → Ex H H' ∧ ∀ H3, Ex H' H3 → ∀ R : VK, (∀ H4, Ex H3 H4 → R (f i) H4) → te ((wipe σ [k]).set k (some x)) H3 R)
    (q : ∀ p H', H1 p = none → Ex H1 H' → H' p = some (.lst ((List.range n).map f)) → Q (.ref p) H') : lcB J (gName k) tYes te [k] σ Q H1 := by
  refine r_lcF w (fun _ => true) f hn hG hw (fun i x H H' hi e y => ⟨(he i x H H' hi e y).1, fun R r => r H' (Ex.refl _)⟩) ?_ (fun p H' h1 h2 h3 => q p H' h1 h2 (by rw [given_all] at h3; exact h3))
  rintro i x H hi - e ⟨H0, H2, y, e0, e1, e2⟩ R r
  exact (he i x H0 H2 hi e0 y).2 H e2 R r
/-! ### integers as texts -/
def nS (i : Int) : Str := Str.ofString (toString i)
def dg (i : Int) : List Nat := numL i.natAbs
theorem tl_nS_nn {i : Int} (h : 0 ≤ i) : tl (nS i) = dg i := by
  obtain ⟨n, rfl⟩ := Int.eq_ofNat_of_zero_le h
  exact tl_num n
theorem tl_nS_neg {i : Int} (h : i < 0) : tl (nS i) = 45 :: dg i := by
  unfold nS dg
  have e : (0 - i) = ((i.natAbs : Nat) : Int) := by omega
  have f := tl_num i.natAbs
  rw [tl_ofString] at f
  rw [toString_neg h, tl_ofString, String.toList_append, List.map_append, e, f]
  rfl
theorem dg_digits (i : Int) : NumText.AllDigits (dg i) := numL_digits _
theorem dg_ne (i : Int) : dg i ≠ [] := numL_ne _
theorem dg_len {i : Int} {k : Nat} (hk : 0 < k) (h : i.natAbs < 10 ^ k) : (dg i).length ≤ k := numL_len hk h
theorem str_ext {a b : Str} (h : tl a = tl b) : a = b := ext_toList h
theorem nS_len {i : Int} {k : Nat} (hk : 0 < k) (h : i.natAbs < 10 ^ k) : (nS i).length ≤ k + 1 := by
  rw [len_tl]
  by_cases c : 0 ≤ i
  · rw [tl_nS_nn c]
    exact Nat.le_trans (dg_len hk h) (Nat.le_succ _)
  · rw [tl_nS_neg (by omega), List.length_cons]
    exact Nat.succ_le_succ (dg_len hk h)
/-- the sign and the digits apart -/
theorem nS_abs (i : Int) : nS i = (if i < 0 then Str.ofString "-" else Str.ofString "") ++ nS i.natAbs := by
  refine str_ext ?_
  have e : tl (nS (i.natAbs : Int)) = dg i := tl_nS_nn (i := (i.natAbs : Int)) (by omega)
  rw [tl_append, e]
  by_cases c : i < 0
  · rw [if_pos c, tl_nS_neg c]
    rfl
  · rw [if_neg c, tl_nS_nn (by omega)]
    rfl
theorem nS_free {i : Int} {s : Nat} (h : s ≠ 45) (h2 : s < 48 ∨ 57 < s) : s ∉ tl (nS i) := by
  by_cases c : 0 ≤ i
  · rw [tl_nS_nn c]
    exact numL_free h2
  · rw [tl_nS_neg (by omega)]
    intro hm
    rcases List.mem_cons.mp hm with e | e
    · exact h e
    · exact numL_free h2 e
theorem nS_int {i : Int} (h : i.natAbs < 10 ^ 600) : intText? (nS i) = some i := by
  have l := nS_len (k := 600) (by decide) h
  have v : ((NumText.digitsVal (dg i) : Nat) : Int) = i.natAbs := by unfold dg; rw [numL_val]
  by_cases c : 0 ≤ i
  · have e : (nS i).cps.toList = dg i := tl_nS_nn c
    rw [intText_digits (by rw [e]; exact dg_digits i) (by rw [e]; exact dg_ne i) (by omega), e, v]
    congr 1
    omega
  · have e : (nS i).cps.toList = 45 :: dg i := tl_nS_neg (by omega)
    rw [intText_neg e (dg_digits i) (dg_ne i) (by omega), v]
    congr 1
    omega
end GS
/-! A law's bag of drawn numbers; more stepping lemmas. -/
namespace GS
open PySem PySem.Spec PyProof.Rows L2 TL
/-! ### * of very great integers -/
def CMulB (i j : Int) : Prop := i.natAbs.log2 + j.natAbs.log2 < 100000000
theorem CMulB.ok {i j : Int} (h : CMulB i j) : IntMulOk i j := by
  have b : ∀ x : Int, Builtin.Int.intBits x ≤ x.natAbs.log2 + 1 := fun x => by
    unfold Builtin.Int.intBits
    split <;> omega
  have h1 := b i
  have h2 := b j
  unfold CMulB at h
  have e : bitsLine = 134217728 := by decide
  unfold IntMulOk
  intro z
  have z2 := (Bool.and_eq_true_iff.mp z).2
  unfold Builtin.Int.intTooBig at z2
  have z3 := of_decide_eq_true z2
  omega
theorem op_mulB {X : Cx} : OpR X (binaryOp .Mult) (rI CMulB fun i j => .int (i * j)) := opI fun _ _ _ _ _ _ _ hc q => mul_int q hc.ok
theorem lg_lt {i : Int} {n : Nat} (h : i.natAbs < 2 ^ n) (hn : 0 < n) : i.natAbs.log2 < n := PySem.Flt.log2_lt_of hn h
theorem mulB_of {i j : Int} {a b : Nat} (ha : i.natAbs < 2 ^ a) (hb : j.natAbs < 2 ^ b) (h0 : 0 < a) (h1 : 0 < b) (h : a + b ≤ 100000000) : CMulB i j := by
  have x := lg_lt ha h0
  have y := lg_lt hb h1
  unfold CMulB
  omega
/-! ### steps -/
section
variable {K : PySem.W.Frag} {σ : L2.St} {H : Hp} {Q : VK} {i j : Int} {b : Bool} {p : Addr} {xs : List V} {v : V}
theorem r_ixL (h : H p = some (.lst xs)) (e : atI xs i = some v) (q : Q v H) : rIxL K (.ref p) (.int i) H Q := ⟨_, _, _, _, rfl, rfl, SqL.of h, e, q⟩
theorem r_ixT (h : H p = some (.tup xs)) (e : atI xs i = some v) (q : Q v H) : rIxT K (.ref p) (.int i) H Q := ⟨_, _, _, _, rfl, rfl, SqT.of h, e, q⟩
theorem r_gSub {to ti : TE} {t : TSet} {N : L2.St → Hp → Prop} (q : to σ H fun o H1 => ti σ H1 fun i H2 => t o i v H2 fun H3 => N σ H3) : gSub to ti t v σ H N := q
theorem r_setL {k : Int} {n : Nat} {N : Hp → Prop} (h : H p = some (.lst xs)) (e : ixN xs.length k = some n) (q : N (upd H p (.lst (xs.set n v)))) : rSetL (.ref p) (.int k) v H N := ⟨p, xs, k, n, rfl, rfl, h, e, q⟩
theorem r_pow {v k : Int} (c : CPowW i k) (e : i ^ k.toNat = v) (q : Q (.int v) H) : rI CPowW (fun i j => .int (i ^ j.toNat)) (.int i) (.int k) H Q := r_I c (by rw [e]; exact q)
/-- what is wished behind int(..), abs(..), len(..) -/
def intK (Q : VK) : List V → Hp → Prop := fun xs H => (∃ i, xs = [V.int i] ∧ Q (.int i) H) ∨ ∃ k, xs = [V.bl k] ∧ Q (.int (if k = true then 1 else 0)) H
def absK (Q : VK) : List V → Hp → Prop := fun xs H => ∃ i, xs = [V.int i] ∧ Q (.int (if i < 0 then -i else i)) H
def lenK (K : PySem.W.Frag) (Q : VK) : List V → Hp → Prop := fun xs H => ∃ p ys, xs = [V.ref p] ∧ (SqL K H p ys ∨ SqT K H p ys) ∧ Q (.int ys.length) H
theorem r_cbInt {tr : TA} (q : tr σ H (intK Q)) : tCB (fun xs H Q => (∃ i, xs = [V.int i] ∧ Q (V.int i) H) ∨ ∃ k, xs = [V.bl k] ∧ Q (V.int (if k = true then 1 else 0)) H) tr σ H Q := q
theorem r_cbAbs {tr : TA} (q : tr σ H (absK Q)) : tCB (fun xs H Q => ∃ i, xs = [V.int i] ∧ Q (V.int (if i < 0 then -i else i)) H) tr σ H Q := q
theorem r_cbLen {tr : TA} (q : tr σ H (lenK K Q)) : tCB (fun xs H Q => ∃ p ys, xs = [V.ref p] ∧ (SqL K H p ys ∨ SqT K H p ys) ∧ Q (V.int ys.length) H) tr σ H Q := q
theorem r_intI (q : Q (.int j) H) : intK Q [.int j] H := .inl ⟨_, rfl, q⟩
theorem r_intB (q : Q (.int (if b = true then 1 else 0)) H) : intK Q [.bl b] H := .inr ⟨_, rfl, q⟩
theorem r_absI (q : Q (.int (if j < 0 then -j else j)) H) : absK Q [.int j] H := ⟨_, rfl, q⟩
theorem r_lenL (h : H p = some (.lst xs)) (q : Q (.int xs.length) H) : lenK K Q [.ref p] H := ⟨_, _, rfl, .inl (SqL.of h), q⟩
end
/-- a place where ways join -/
theorem r_seqJ {D : Ends} {ts tu : TS} {σ : L2.St} {H : Hp} (P : L2.St → Hp → Prop) (h : ∀ N : L2.St → Hp → Prop, (∀ σ' H', P σ' H' → N σ' H') → ts { D with nx := N } σ H) (h2 : ∀ σ' H', P σ' H' → tu D σ' H') : tSeq ts tu D σ H := h (tu D) h2
/-! ### lists of integers against one another -/
theorem dp_ints {K : PySem.W.Frag} {H : Hp} : ∀ xs : List Int, DpAll K H (xs.map V.int) (xs.map PyData.int)
  | [] => .nil
  | x :: xs => .cons (.int x) (dp_ints xs)
theorem can_ints : ∀ xs : List Int, PyData.canLayAll0 (xs.map PyData.int) = true
  | [] => rfl
  | x :: xs => by
    rw [List.map_cons]
    show (PyData.canLay0 (.int x) && PyData.canLayAll0 (xs.map PyData.int)) = true
    rw [can_ints xs]
    rfl
theorem depth_ints : ∀ xs : List Int, PyData.depthAll (xs.map PyData.int) = 0
  | [] => rfl
  | x :: xs => by
    rw [List.map_cons]
    show max (PyData.depth (.int x)) (PyData.depthAll (xs.map PyData.int)) = 0
    rw [depth_ints xs]
    rfl
theorem shaped_ints (xs : List Int) : SeqAt.shaped (.list (xs.map PyData.int)) = true ∧ SeqAt.shaped (.tuple (xs.map PyData.int)) = true := by
  have h1 := can_ints xs
  have h2 := depth_ints xs
  constructor
  · show (PyData.canLayAll0 (xs.map PyData.int) && decide (PyData.depthAll (xs.map PyData.int) + 1 ≤ 64)) = true
    rw [h1, h2]
    rfl
  · show (PyData.canLayAll0 (xs.map PyData.int) && decide (PyData.depthAll (xs.map PyData.int) + 1 ≤ 64)) = true
    rw [h1, h2]
    rfl
theorem eqv_ints : ∀ xs ys : List Int, PyData.eqvAll (xs.map PyData.int) (ys.map PyData.int) = decide (xs = ys)
  | [], [] => rfl
  | [], y :: ys => rfl
  | x :: xs, [] => rfl
  | x :: xs, y :: ys => by
    rw [List.map_cons, List.map_cons]
    show ((x == y) && PyData.eqvAll (xs.map PyData.int) (ys.map PyData.int)) = _
    rw [eqv_ints xs ys]
    by_cases c : x = y <;> simp [c]
/-- xs != ys, lists of integers -/
theorem r_neInts {K : PySem.W.Frag} {H : Hp} {Q : VK} {p q : Addr} {xs ys : List Int} (h1 : H p = some (.lst (xs.map V.int))) (h2 : H q = some (.lst (ys.map V.int))) (k : Q (.bl (!decide (xs = ys))) H) : rNeD K (.ref p) (.ref q) H Q := by
  refine ⟨_, _, .lst (SqL.of h1) (dp_ints xs), .lst (SqL.of h2) (dp_ints ys), (shaped_ints xs).1, (shaped_ints ys).1, ?_⟩
  show Q (.bl (!PyData.eqvAll (xs.map PyData.int) (ys.map PyData.int))) H
  rw [eqv_ints]
  exact k
theorem r_eqInts {K : PySem.W.Frag} {H : Hp} {Q : VK} {p q : Addr} {xs ys : List Int} (h1 : H p = some (.tup (xs.map V.int))) (h2 : H q = some (.tup (ys.map V.int))) (k : Q (.bl (decide (xs = ys))) H) : rEqD K (.ref p) (.ref q) H Q := by
  refine ⟨_, _, .tup (SqT.of h1) (dp_ints xs), .tup (SqT.of h2) (dp_ints ys), (shaped_ints xs).2, (shaped_ints ys).2, ?_⟩
  show Q (.bl (PyData.eqvAll (xs.map PyData.int) (ys.map PyData.int))) H
  rw [eqv_ints]
  exact k
/-! ### all but p is kept -/
def Bu (p : Addr) (H H' : Hp) : Prop := ∀ b o, b ≠ p → H b = some o → H' b = some o
theorem Bu.refl (p : Addr) (H : Hp) : Bu p H H := fun _ _ _ h => h
theorem Bu.trans {p : Addr} {H H1 H2 : Hp} (a : Bu p H H1) (b : Bu p H1 H2) : Bu p H H2 := fun c o n h => b c o n (a c o n h)
theorem Bu.upd {p : Addr} {H : Hp} {o : HO} : Bu p H (upd H p o) := fun b u n h => by rw [upd_ne n]; exact h
theorem Bu.of {p : Addr} {H H' : Hp} (e : Ex H H') : Bu p H H' := fun b o _ h => e b o h
/-- sizes -/
def Z (n : Nat) (i : Int) : Prop := i.natAbs < 2 ^ n
theorem Z.mono {n m : Nat} {i : Int} (h : Z n i) (l : n ≤ m) : Z m i := Nat.lt_of_lt_of_le h (Nat.pow_le_pow_right (by omega) l)
theorem Z.mul {n m : Nat} {i j : Int} (a : Z n i) (b : Z m j) : Z (n + m) (i * j) := wide_lt a b
theorem Z.add {n : Nat} {i j : Int} (a : Z n i) (b : Z n j) : Z (n + 1) (i + j) := by
  unfold Z at *
  have : (2 : Nat) ^ (n + 1) = 2 ^ n + 2 ^ n := by rw [Nat.pow_succ]; omega
  omega
theorem Z.sub {n : Nat} {i j : Int} (a : Z n i) (b : Z n j) : Z (n + 1) (i - j) := by
  unfold Z at *
  have : (2 : Nat) ^ (n + 1) = 2 ^ n + 2 ^ n := by rw [Nat.pow_succ]; omega
  omega
theorem Z.sq {n : Nat} {i : Int} (a : Z n i) : Z (n + n) (i ^ 2) := by rw [int_pow_two]; exact a.mul a
theorem mulOk {n m : Nat} {i j : Int} (a : Z n i) (b : Z m j) (hn : 0 < n) (hm : 0 < m) (h : n + m ≤ 1000000) : CMulW i j := wide_mul a b hn hm h
/-! ### the bag -/
structure Bag (H : Hp) (b : Addr) (n : Int) : Prop where
  is : ∃ (L : Addr) (xs : List Int) (at_ left : Int), H b = some (.lst [.ref L, .int at_, .int left]) ∧ H L = some (.lst (xs.map V.int)) ∧ L ≠ b ∧ 0 ≤ at_ ∧ at_ ≤ n ∧ 0 ≤ left ∧ xs.length ≤ 64 ∧ ∀ x ∈ xs, Z 2000000 x
theorem Bag.ex {H H' : Hp} {b : Addr} {n : Int} (h : Bag H b n) (e : Ex H H') : Bag H' b n := by
  obtain ⟨L, xs, a, l, h1, h2, h3⟩ := h.is
  exact ⟨L, xs, a, l, e _ _ h1, e _ _ h2, h3⟩
theorem Bag.le {H : Hp} {b : Addr} {n m : Int} (h : Bag H b n) (e : n ≤ m) : Bag H b m := by
  obtain ⟨L, xs, a, l, h1, h2, h3, h4, h5, h6⟩ := h.is
  exact ⟨L, xs, a, l, h1, h2, h3, h4, Int.le_trans h5 e, h6⟩
theorem Bag.ne {H : Hp} {b a : Addr} {n : Int} {o : HO} (h : Bag H b n) (ha : H a = some o) (ho : ∀ L x y, o ≠ .lst [.ref L, .int x, .int y]) : a ≠ b := by
  obtain ⟨L, xs, x, y, h1, _⟩ := h.is
  rintro rfl
  rw [ha] at h1
  exact ho _ _ _ (Option.some.inj h1)
/-- what a draw promises -/
def spDraw : Sp := sp2 fun b m H Q _ => ∃ p m' n, b = .ref p ∧ m = .int m' ∧ 0 < m' ∧ Z 1000 m' ∧ n ≤ 100000 ∧ Bag H p n ∧ ∀ r H', 0 ≤ r → r < m' → Bu p H H' → Bag H' p (n + 1) → Q (.int r) H'
theorem r_Draw {H : Hp} {Q : VK} {E : XK} {p : Addr} {m n : Int} (hb : Bag H p n) (hn : n ≤ 100000) (h0 : 0 < m) (hm : Z 1000 m) (k : ∀ r H', 0 ≤ r → r < m → Bu p H H' → Bag H' p (n + 1) → Q (.int r) H') : spDraw ([.ref p, .int m] ++ []) H Q E :=
  ⟨p, m, n, rfl, rfl, h0, hm, hn, hb, k⟩
end GS
/-! Calls by keywords alone; making an instance inside try. -/
namespace GS
open PySem PySem.Spec PyProof.Rows L2 TL
/-- the arguments in the parameters' order -/
def pm (ix : List Nat) {α : Type} (us ws : List α) : List α := ix.filterMap fun i => (us ++ ws)[i]?
theorem pm_vals (ix : List Nat) {vs zs : List V} {us ws : List Value} (a : Vals vs us) (b : Vals zs ws) : Vals (pm ix vs zs) (pm ix us ws) := by
  have c := a.append b
  unfold pm
  generalize vs ++ zs = l at c
  generalize us ++ ws = m at c
  induction ix with
  | nil => exact .nil
  | cons i ix ih =>
    cases h : l[i]? with
    | none =>
      rw [List.filterMap_cons_none h, List.filterMap_cons_none (c.none_of h)]
      exact ih
    | some x =>
      obtain ⟨u, hu, r⟩ := c.get h
      rw [List.filterMap_cons_some h, List.filterMap_cons_some hu]
      exact .cons r ih
theorem kb_of {K : PySem.W.Frag} {x qual : Str} {params : Arguments} {body : List Stmt} {scope : Scope} {kws : List (Str × V)} {f : Addr} {fd : FuncData} {ps : List Str} (F : FunD K x qual params body scope [] kws f fd) (n : Nat) (ks : List Str) (ix : List Nat)
    (h : ∀ (kV doc pmv : Value) (an : Option Addr) (cdv ct : Value) (us ws : List Value), us.length = n → ws.length = ks.length → bindArgs (PySem.W.fnOf x qual params body scope .none kV doc pmv an cdv ct) ⟨us, ks.zip ws⟩ = pure (ps.zip (pm ix us ws))) : KBn K fd ps n ks (pm ix) (pm ix) := by
  obtain ⟨oc, od, dV, kV, doc, pmv, an, cdv, ct, osl, rfl, lk, hcd, hD, hK⟩ := F.ex
  rcases hD with ⟨-, rfl⟩ | ⟨no, -⟩
  · exact ⟨fun s us ws _ l1 l2 => .of_eq (h kV doc pmv an cdv ct us ws l1 l2), pm_vals ix⟩
  · exact absurd rfl no
section
variable {X : Cx} {CX : CXT} {k : Nat} {f C : Addr} {fd : FuncData} {ps ks : List Str} {sp : Sp} {x : Str} {p pos : Pos} {g : List Value → List Value → List Value} {gV : List V → List V → List V}
/-- f(k = v, ..) -/
theorem pe_callK0 {E : XK} {kws : List Keyword} {tk : TA} (F : FnOk X.prog X.w X.K X.mg X.base CX k f fd ps sp) (hr : Room k X.A) (hg : Gl X x) (hm : X.mg x = some (.ref f)) (keep : PySem.W.keepIn X.K (.ref f) = true) (kb : KBn X.K fd ps 0 ks g gV) (hx : Passes CX X E) (hw : PK X kws tk)
    (named : (backToKw pos (keywordEach kws X.env)).all (·.1.isSome) = true := by rfl) (names : (backToKw pos (keywordEach kws X.env)).filterMap (·.1) = ks := by rfl) (nodb : (x == ("__debug__" : Str)) = false := by decide)
    (plain : ((backTo pos (starEach [] X.env)).any (·.1) || (backToKw pos (keywordEach kws X.env)).any (·.1.isNone)) = false := by rfl) : PE X (.Call (.Name x p) [] kws pos) (tCallN 0 ks.length sp gV E tNil tk) := by
  refine ⟨fun pins s σ H Q I h => wpAny_Call_Name_kw (ld_glob I hg hm ?_ nodb)⟩
  refine PySem.W.callWith_KW0 (h₀ := X.base) I.ok.mod.kin keep named (thn (hw.run pos pins s σ H _ I h) fun ws s2 ⟨zs, H2, I2, rz, m1, m2, q⟩ => ⟨I2.kIn, ?_⟩) plain
  rw [names]
  exact run_fnN F hr kb hx I2 .nil rz m1 m2 q
/-- C(e, ..) inside try: what passes may lean on the slots -/
def tMakeS (C : Addr) (sp : Sp) (E : L2.St → XK) (t : TA) : TE := fun σ H Q => t σ H (mkK C sp (E σ) Q)
theorem pe_makeS {E : L2.St → XK} {e : Expr} {es : List Expr} {t : TA} (M : Mk X.K C f) (F : FnOk X.prog X.w X.K X.mg X.base CX k f fd ps sp) (hr : Room (k + 1) X.A) (hg : Gl X x) (hm : X.mg x = some (.ref C)) (hb : Binds X.K fd ps []) (hx : ∀ σ, PassesAt CX X σ (E σ)) (ha : PA X (e :: es) t)
    (nodb : (x == ("__debug__" : Str)) = false := by decide) (st : starEach (e :: es) X.env = (false, eval e X.env) :: starEach es X.env := by rfl) (plain : (backTo pos (starEach es X.env)).any (·.1) = false := by rfl) :
    PE X (.Call (.Name x p) (e :: es) [] pos) (tMakeS C sp E t) := by
  refine ⟨fun pins s σ H Q I h => wpAny_Call_Name_kw (ld_glob I hg hm ?_ nodb)⟩
  refine PySem.W.callWith_K (h₀ := X.base) I.ok.mod.kin M.kp (thn (ha.run pos pins s σ H _ I h) fun us s1 ⟨vs, H1, I1, r, q⟩ => ⟨I1.kIn, ?_⟩) st plain
  have n0 := I1.hok.fresh (Nat.le_refl s1.heap.objs.size)
  have n1 := I1.hok.fresh (Nat.le_succ s1.heap.objs.size)
  have w1 := q _ _ n1 n0 (Nat.ne_of_lt (Nat.lt_succ_self _))
  have J := Inv.made (C := C) I1
  have rs : Vals (V.ref (s1.heap.objs.size + 1) :: (vs ++ [])) (Value.ref (s1.heap.objs.size + 1) :: us) := by
    rw [List.append_nil]
    exact .cons rfl r
  have many : (Value.ref (s1.heap.objs.size + 1) :: us).length = ps.length := rs.length.symm.trans (F.len _ _ _ _ w1)
  have bound := hb _ (Value.ref (s1.heap.objs.size + 1) :: us) J.kIn (by rw [List.append_nil]; exact many)
  rw [List.append_nil] at bound
  refine wpAny_call (make_map (f := f) I1.kIn M.makes M.init (beq_iff_eq.mp M.fn) (codeAny_mono (F.run _ X.stack _ _ ⟨_ :: us, []⟩ _ _ _ (E σ) (hr.make C us []) (J.env0.make C us []) bound rs w1) fun out s' got => ?_))
  match out, got with
  | .error y, got => exact hx σ pins _ _ y s' J got
  | .ok (.ret u), got =>
    obtain ⟨v, H3, J3, rv, ⟨nv, fine⟩⟩ := J.after got
    rw [nv] at rv
    exact ⟨rv, V.ref (s1.heap.objs.size + 1), H3, J3, rfl, fine⟩
/-! steps -/
variable {σ : L2.St} {H : Hp} {Q : VK} {E : XK} {m : Nat} {t tk : TA}
def clKN (m : Nat) (sp : Sp) (gV : List V → List V → List V) (E : XK) (Q : VK) : List V → Hp → Prop := fun zs H2 => ([] : List V).length = 0 ∧ zs.length = m ∧ sp (gV [] zs) H2 Q E
theorem r_callN0 (q : tk σ H (clKN m sp gV E Q)) : tCallN 0 m sp gV E tNil tk σ H Q := q
theorem r_clKN {zs vs : List V} (l : zs.length = m) (e : gV [] zs = vs) (q : sp (vs ++ []) H Q E) : clKN m sp gV E Q zs H := ⟨rfl, l, by rw [e]; rwa [List.append_nil] at q⟩
def mkKN (m : Nat) (C : Addr) (sp : Sp) (gV : List V → List V → List V) (E : XK) (Q : VK) : List V → Hp → Prop := fun zs H2 => ([] : List V).length = 0 ∧ zs.length = m ∧ ∀ x dx, H2 x = none → H2 dx = none → dx ≠ x → sp (gV [.ref x] zs) (upd (upd H2 dx (.own x)) x (.ins C dx [])) (fun v H3 => v = .non ∧ Q (.ref x) H3) E
theorem r_makeK0 (q : tk σ H (mkKN m C sp gV E Q)) : tMakeK C 0 m sp gV E tNil tk σ H Q := q
theorem r_mkKN {zs vs : List V} (l : zs.length = m) (e : ∀ x, gV [.ref x] zs = .ref x :: (vs ++ [])) (q : mkK C sp E Q vs H) : mkKN m C sp gV E Q zs H := ⟨rfl, l, fun x dx h1 h2 h3 => by rw [e]; exact q x dx h1 h2 h3⟩
theorem r_makeS {E : L2.St → XK} (q : t σ H (mkK C sp (E σ) Q)) : tMakeS C sp E t σ H Q := q
theorem r_callS {E : L2.St → XK} (q : t σ H fun vs H1 => sp vs H1 Q (E σ)) : tCallS sp E t σ H Q := q
end
theorem r_gCons {g : TG} {gs : TGs} {x : V} {xs : List V} {σ : L2.St} {H : Hp} {N : L2.St → Hp → Prop} (q : g x σ H fun σ' H' => gs xs σ' H' N) : gCons g gs (x :: xs) σ H N := ⟨x, xs, rfl, q⟩
theorem r_gNil {σ : L2.St} {H : Hp} {N : L2.St → Hp → Prop} (q : N σ H) : gNil [] σ H N := ⟨rfl, q⟩
theorem r_gName {n : Nat} {x : V} {σ : L2.St} {H : Hp} {N : L2.St → Hp → Prop} (q : N (σ.set n (some x)) H) : gName n x σ H N := q
theorem r_gTup {K : PySem.W.Frag} {n : Nat} {gs : TGs} {p : Addr} {xs : List V} {σ : L2.St} {H : Hp} {N : L2.St → Hp → Prop} (h : H p = some (.tup xs)) (l : xs.length = n) (q : gs xs σ H N) : gTup K n gs (.ref p) σ H N := ⟨p, xs, rfl, SqT.of h, l, q⟩
/-- a, b = c, d -/
def parK (i j : Nat) (σ : L2.St) (N : L2.St → Hp → Prop) : List V → Hp → Prop := fun vs H1 => ∃ v w, vs = [v, w] ∧ N ((σ.set i (some v)).set j (some w)) H1
theorem r_par {i j : Nat} {ta : TA} {D : Ends} {σ : L2.St} {H : Hp} (q : ta σ H (parK i j σ D.nx)) : tPar i j ta D σ H := q
theorem r_parK {i j : Nat} {N : L2.St → Hp → Prop} {σ : L2.St} {H : Hp} {v w : V} (q : N ((σ.set i (some v)).set j (some w)) H) : parK i j σ N [v, w] H := ⟨v, w, rfl, q⟩
/-! clauses -/
theorem r_wAs {D : Ends} {c : Value} {i : Nat} {ts : Addr → Value → Option Addr → TS} {a : Addr} {cls : Value} {d : Option Addr} {σ : L2.St} {H : Hp} (q : ts a cls d (asEnds i D) (σ.set i (some (.ref a))) H) : wCl D (c, some i, ts) a cls d σ H := q
theorem r_cl1 {K : PySem.W.Frag} {Wout : WX} {D : Ends} {c : Value} {o : Option Nat} {ts : Addr → Value → Option Addr → TS} {r : List Cl} {cls : Value} {d : Option Addr} {σ : L2.St} {H : Hp} (y : PySem.W.exmOne K cls c = some true) (q : ∀ a, H a = none → wCl D (c, o, ts) a cls d σ H) : wCls K Wout D ((c, o, ts) :: r) cls d σ H := ⟨true, y, fun _ => q, fun z => by cases z⟩
theorem r_cl0 {K : PySem.W.Frag} {Wout : WX} {D : Ends} {c : Value} {o : Option Nat} {ts : Addr → Value → Option Addr → TS} {r : List Cl} {cls : Value} {d : Option Addr} {σ : L2.St} {H : Hp} (n : PySem.W.exmOne K cls c = some false) (q : wCls K Wout D r cls d σ H) : wCls K Wout D ((c, o, ts) :: r) cls d σ H := ⟨false, n, fun z => (by cases z), fun _ => q⟩
theorem r_xf {a C dd : Addr} {f : Str} {te : TE} {σ : L2.St} {H : Hp} {Q : VK} {fs : List (Str × V)} {v : V} (h : H dd = some (.xd fs)) (l : fs.lookup f = some v) (s : te σ H (fun x H1 => x = .ref a ∧ H1 = H)) (m : ∀ {P P' : VK}, te σ H P → (∀ x H1, P x H1 → P' x H1) → te σ H P') (q : Q v H) : tXf a (.ref C) (some dd) C f te σ H Q :=
  m s fun x H1 e => ⟨e.1, rfl, dd, fs, v, rfl, by rw [e.2]; exact h, l, by rw [e.2]; exact q⟩
theorem r_smeth {C : Addr} {sp : Sp} {E : XK} {t : TA} {σ : L2.St} {H : Hp} {Q : VK} (q : t σ H fun vs H2 => sp vs H2 Q E) : tSMeth C sp E (tC (.ref C)) t σ H Q := ⟨rfl, q⟩
theorem r_yes {σ : L2.St} {H : Hp} {R : Bool → Hp → Prop} (q : R true H) : tYes σ H R := q
/-- each turn gives a new tuple of the same items -/
theorem r_lcT {J : It} {n : Nat} {G : Hp → Prop} {Y : Nat → Hp → V → Hp → Prop} {k : Nat} {te : TE} {σ : L2.St} {H1 : Hp} {Q : VK} (w : Walk J n G Y) (o : List V) (hn : n ≤ 50000) (hG : ∀ H' : Hp, Ex H1 H' → G H')
    (hw : ∀ x, wipe ((wipe σ [k]).set k (some x)) [k] = wipe σ [k])
    (he : ∀ i x H H', i < n → Ex H1 H → Y i H x H' → Ex H H' ∧ ∀ R : VK, (∀ t H4, Ex H' H4 → H4 t = some (.tup o) → R (.ref t) H4) → te ((wipe σ [k]).set k (some x)) H' R)
    (q : ∀ p ys H', H1 p = none → Ex H1 H' → H' p = some (.lst ys) → ys.length = n → (∀ y ∈ ys, ∃ t, y = .ref t ∧ H' t = some (.tup o)) → Q (.ref p) H') : lcB J (gName k) tYes te [k] σ Q H1 := by
  intro D hD
  refine lc_it w (fun i H => Ex H1 H ∧ ∃ ys, H D = some (.lst ys) ∧ ys.length = i ∧ ∀ y ∈ ys, ∃ t, y = .ref t ∧ H t = some (.tup o)) ⟨Ex.mut (Ex.refl _) hD, [], upd_same, rfl, fun _ z => by cases z⟩ (fun i H _ p => hG H p.1) ?_ (fun H p => let ⟨ys, h1, h2, h3⟩ := p.2; q D ys H hD p.1 h1 h2 h3)
  intro i x H H' hi p y
  obtain ⟨p1, ys, p2, p3, p4⟩ := p
  obtain ⟨e1, hte⟩ := he i x H H' hi p1 y
  refine ⟨hw x, ?_⟩
  refine r_yes ?_
  rw [if_pos rfl]
  refine hte _ fun t H4 e4 h4 => ⟨ys, e4 _ _ (e1 _ _ p2), sz_lt (by omega), Ex.mut ((p1.trans e1).trans e4) hD, ys ++ [.ref t], upd_same, (by rw [List.length_append, p3]; rfl), fun z hz => ?_⟩
  have keep' : ∀ {t : Addr} (l : List V), H4 t = some (.tup o) → upd H4 D (.lst l) t = some (.tup o) := fun {t} l ht => by
    rw [upd_ne (fun e => ?_)]
    · exact ht
    · rw [e, e4 _ _ (e1 _ _ p2)] at ht
      cases ht
  rcases List.mem_append.mp hz with hz | hz
  · obtain ⟨t', rfl, ht'⟩ := p4 z hz
    exact ⟨t', rfl, keep' _ (e4 _ _ (e1 _ _ ht'))⟩
  · obtain rfl := List.mem_singleton.mp hz
    exact ⟨t, rfl, keep' _ h4⟩
/-- the same, the items told by the turn -/
theorem r_lcI {J : It} {n : Nat} {G : Hp → Prop} {Y : Nat → Hp → V → Hp → Prop} {k : Nat} {te : TE} {σ : L2.St} {H1 : Hp} {Q : VK} (w : Walk J n G Y) (o : Nat → List V) (hn : n ≤ 50000) (hG : ∀ H' : Hp, Ex H1 H' → G H')
    (hw : ∀ x, wipe ((wipe σ [k]).set k (some x)) [k] = wipe σ [k])
    (he : ∀ i x H H', i < n → Ex H1 H → Y i H x H' → Ex H H' ∧ ∀ R : VK, (∀ t H4, Ex H' H4 → H4 t = some (.tup (o i)) → R (.ref t) H4) → te ((wipe σ [k]).set k (some x)) H' R)
    (q : ∀ p ys H', H1 p = none → Ex H1 H' → H' p = some (.lst ys) → ys.length = n → (∀ i y, ys[i]? = some y → ∃ t, y = .ref t ∧ H' t = some (.tup (o i))) → Q (.ref p) H') : lcB J (gName k) tYes te [k] σ Q H1 := by
  intro D hD
  refine lc_it w (fun i H => Ex H1 H ∧ ∃ ys, H D = some (.lst ys) ∧ ys.length = i ∧ ∀ j y, ys[j]? = some y → ∃ t, y = .ref t ∧ H t = some (.tup (o j))) ⟨Ex.mut (Ex.refl _) hD, [], upd_same, rfl, fun j y z => by simp at z⟩ (fun i H _ p => hG H p.1) ?_ (fun H p => let ⟨ys, h1, h2, h3⟩ := p.2; q D ys H hD p.1 h1 h2 h3)
  intro i x H H' hi p y
  obtain ⟨p1, ys, p2, p3, p4⟩ := p
  obtain ⟨e1, hte⟩ := he i x H H' hi p1 y
  refine ⟨hw x, ?_⟩
  refine r_yes ?_
  rw [if_pos rfl]
  refine hte _ fun t H4 e4 h4 => ⟨ys, e4 _ _ (e1 _ _ p2), sz_lt (by omega), Ex.mut ((p1.trans e1).trans e4) hD, ys ++ [.ref t], upd_same, (by rw [List.length_append, p3]; rfl), fun j z hz => ?_⟩
  have keep' : ∀ {t : Addr} {u : List V} (l : List V), H4 t = some (.tup u) → upd H4 D (.lst l) t = some (.tup u) := fun {t u} l ht => by
    rw [upd_ne (fun e => ?_)]
    · exact ht
    · rw [e, e4 _ _ (e1 _ _ p2)] at ht
      cases ht
  by_cases hj : j < ys.length
  · rw [List.getElem?_append_left hj] at hz
    obtain ⟨t', rfl, ht'⟩ := p4 j z hz
    exact ⟨t', rfl, keep' _ (e4 _ _ (e1 _ _ ht'))⟩
  · rw [List.getElem?_append_right (by omega)] at hz
    have : j - ys.length = 0 := by
      have := (List.getElem?_eq_some_iff.mp hz).1
      simp at this
      omega
    rw [this] at hz
    have hz' : V.ref t = z := Option.some.inj hz
    have : j = i := by omega
    subst this
    exact ⟨t, hz'.symm, keep' _ h4⟩
/-- the body of a for's reading -/
def forB (J : It) (g : TG) (tb : TS) (D : Ends) (σ : L2.St) (H1 : Hp) : Prop := ∃ W : Nat → Nat → L2.St → Hp → Prop, (∃ m, W 0 m σ H1) ∧ ∀ i m σ H, W i m σ H →
  (J.stop i H ∧ D.nx σ H) ∨ (J.go i H ∧ ∃ N : L2.St → Hp → Prop, (∀ σ' H', N σ' H' → ∃ m', m' < m ∧ W (i + 1) m' σ' H') ∧ ∀ x H', J.yld i H x H' → g x σ H' fun σ2 H2 => tb { D with nx := N, ct := N, bk := D.nx } σ2 H2)
theorem r_for {wi : TI} {g : TG} {tb : TS} {D : Ends} {σ : L2.St} {H : Hp} (q : wi σ H fun J H1 => forB J g tb D σ H1) : tFor wi g tb D σ H := q
theorem for_of {J : It} {n : Nat} {G : Hp → Prop} {Y : Nat → Hp → V → Hp → Prop} (w : Walk J n G Y) {g : TG} {tb : TS} {D : Ends} {σ : L2.St} {H : Hp} (Pv : Nat → L2.St → Hp → Prop) (h0 : Pv 0 σ H) (hG : ∀ i σ H, i ≤ n → Pv i σ H → G H)
    (hs : ∀ i x σ H H', i < n → Pv i σ H → Y i H x H' → g x σ H' fun σ2 H2 => tb { D with nx := Pv (i + 1), ct := Pv (i + 1), bk := D.nx } σ2 H2) (hd : ∀ σ H, Pv n σ H → D.nx σ H) : forB J g tb D σ H := for_it w Pv h0 hG hs hd
theorem cr_isi {X : Cx} {K : PySem.W.Frag} (h : X.K = K) : CallR X (.builtin "isinstance") (rIsi K) := by
  subst h
  exact call_isi
end GS
/-! any(..) of integers. -/
namespace GS
open PySem PySem.Spec PyProof.Rows L2 TL
theorem truthOf_ints {prog : Program} {w : World} {A : Around} {ns : List Int} {its : List Value} (r : Vals (ns.map V.int) its) : TruthOf prog w A (fun i v => its.toArray[i]? = some v) (fun i => ns.getD i 0 != 0) := fun i v s Q E hv hq => by
  have there : its[i]? = some v := by simpa using hv
  have hl := r.length
  rw [List.length_map] at hl
  have hi : i < ns.length := by have := (List.getElem?_eq_some_iff.mp there).1; omega
  obtain ⟨u, hu, t, e⟩ := r.get (i := i) (x := V.int ns[i]) (by simp [hi])
  rw [there] at hu
  cases hu
  rw [e]
  have g : ns.getD i 0 = ns[i] := by simp [hi]
  simp only [g] at hq
  exact truthy_int hq
theorem any_getD (ns : List Int) : ((List.range ns.length).any fun i => ns.getD i 0 != 0) = ns.any (· != 0) := by
  induction ns with
  | nil => rfl
  | cons n ns ih =>
    rw [List.length_cons, List.range_succ_eq_map, List.any_cons, List.any_map, List.any_cons, ← ih]
    rfl
def rAnyI (K : PySem.W.Frag) : List V → Hp → VK → Prop := fun vs H Q => ∃ (a : Addr) (ns : List Int), vs = [V.ref a] ∧ (SqL K H a (ns.map V.int) ∨ SqT K H a (ns.map V.int)) ∧ Q (.bl (ns.any (· != 0))) H
theorem cr_anyI {X : Cx} {K : PySem.W.Frag} (hk : X.K = K) (calm : X.calm = true) : CallR X (.builtin "any") (rAnyI K) := by
  subst hk
  intro pins s σ H vs us Q I r got
  obtain ⟨a, ns, rfl, hs, q⟩ := got
  rw [Vals.ref1 r]
  have close : ∀ {its : List Value}, Vals (ns.map V.int) its → ∀ (n : Addr) {ob : Obj} (h' : Heap) (tk : Tok), n = s.heap.objs.size → (∀ b o, b ∉ [n] → (s.heap.push ob).get? b = some o → h'.get? b = some o) →
      EP X pins σ Q (.bool ((List.range its.toArray.size).any fun i => ns.getD i 0 != 0)) { s with heap := h', toks := tk } := by
    intro its rv n ob h' tk en kept
    have sz : its.toArray.size = ns.length := by rw [List.size_toArray, ← rv.length, List.length_map]
    rw [sz, any_getD]
    refine ⟨.bl _, H, I.kept fun b o eo => kept b o (fun hm => ?_) (Heap.get?_push_of_some _ eo), rfl, q⟩
    rw [List.mem_singleton.mp hm, en] at eo
    exact absurd (Heap.lt_size eo) (Nat.lt_irrefl _)
  rcases hs with hs | hs
  · obtain ⟨its, rv, hl, _⟩ := I.list hs
    refine call_any_walk (iter_any hl.isList fun s₂ e2 st ne => ?_)
    rw [e2] at st ⊢
    exact ⟨_, _, _, _, _, _, _, rfl, Walks.list (A := X.A.in1) (I.ok.hd calm) _ a ne its.toArray, st, truthOf_ints rv, fun h' tk hk => close rv _ h' tk rfl hk⟩
  · obtain ⟨its, rv, ht, _⟩ := I.tuple hs
    refine call_any_walk (iter_tuple ht ?_)
    exact ⟨_, _, _, _, _, _, _, rfl, Walks.tuple (A := X.A.in1) (I.ok.hd calm) _ a (Nat.ne_of_lt ht.lt) its.toArray, ⟨⟨_, Heap.get?_push_size _ rfl, rfl, rfl⟩, ht.push _⟩, truthOf_ints rv, fun h' tk hk => close rv _ h' tk rfl hk⟩
end GS
/-! enumerate(tuple). -/
namespace GS
open PySem PySem.Spec PyProof.Rows L2 TL
/-- the tuple at a, each item with its place in a new pair -/
def IteT (K : PySem.W.Frag) (a : Addr) : It where
  go := fun i H => ∃ (xs : List V) (x : V), SqT K H a xs ∧ xs[i]? = some x
  yld := fun i H v H' => ∃ T x, v = .ref T ∧ H T = none ∧ H' = upd H T (.tup [.int (i : Nat), x]) ∧ ∀ xs, SqT K H a xs → xs[i]? = some x
  stop := fun i H => ∃ xs : List V, SqT K H a xs ∧ xs.length ≤ i
/-- a tuple's iterator that is at its end -/
theorem draws_end {prog : Program} {w : World} {A : Around} (hh : A.handled = none) (it t : Addr) (items : Array Value) (n : Nat) (hn : items[n]? = none) (ne : t ≠ it) :
    Draws prog w A it [it, t] n (fun _ _ => False) (fun j h => j = n ∧ h.IsTupleIter it t n ∧ h.IsTuple t items) where
  live := fun _ _ st => let ⟨o, ho, _⟩ := st.2.1; ⟨o, ho⟩
  frame := fun _ _ _ st kept => ⟨st.1, st.2.1.at fun o q => kept it (by simp) o q, st.2.2.at fun o q => kept t (by simp) o q⟩
  item := fun i s Q E hi st _ => absurd st.1 (Nat.ne_of_lt hi)
  done := fun s Q E st out => wpAny_nextOf_tuple_end hh st.2.1 st.2.2 hn out
theorem turn_enumT {P : Program} {w : World} {K : PySem.W.Frag} {elts : List Expr} {kk : Nat} {tpos : Pos} (a e it : Addr) :
    Turn P w K (.Tuple elts kk tpos) (IteT K a) [e, it] e (fun i h => (∃ old, IsEnum h e it ((i : Nat) : Int) old) ∧ h.IsTupleIter it a i ∧ e ≠ it ∧ a ≠ it ∧ a ≠ e) where
  mem := by simp
  obj := by
    intro i h st b hb
    obtain ⟨⟨old, he⟩, ⟨o, ho, hc, hd⟩, -, -, -⟩ := st
    rcases List.mem_cons.mp hb with rfl | hb
    · exact ⟨_, he, fun v q => nomatch q⟩
    · rw [List.mem_singleton.mp hb]
      exact ⟨o, ho, fun v q => by rw [hd] at q; cases q⟩
  keep := by
    intro i h h' st k
    obtain ⟨⟨old, he⟩, hi, ns⟩ := st
    exact ⟨⟨old, k e (by simp) _ he⟩, hi.at fun o q => k it (by simp) o q, ns⟩
  item := by
    intro X hP hw hK hc i pins s σ H E I hf st hg
    subst hP hw hK
    obtain ⟨⟨old, he⟩, hit, hne, ha1, ha2⟩ := st
    obtain ⟨xs, x, hq, hx⟩ := hg
    obtain ⟨its, rv, tp, hz⟩ := I.tuple hq
    obtain ⟨u, hu, ru⟩ := rv.get hx
    have hlt : i < its.toArray.size := by
      have := (List.getElem?_eq_some_iff.mp hu).1
      simpa using this
    have elt := Heap.lt_size he
    have ilt : it < s.heap.objs.size := by
      obtain ⟨_, q, _⟩ := hit
      exact Heap.lt_size q
    refine wpAny_pyNext_enum_itemD (Draws.tuple (A := X.A.in1) (I.ok.hd hc) it a ha1 its.toArray) he ⟨hit, tp⟩ hlt hne (by simp [hne, Ne.symm ha2]) fun x' h' tk hp ho st' hT hsz hk => ?_
    have : x' = u := by
      have hp' : its[i]? = some x' := by simpa using hp
      rw [hu] at hp'
      exact (Option.some.inj hp').symm
    subst this
    refine ⟨_, rfl, wpAny_letOwnedTupleGo_enum (s := { s with heap := h', toks := tk + 1 }) ho fun h2 he2 sb => ?_⟩
    have hT2 : h2.get? s.heap.objs.size = some { cls := .type "tuple", data := .seq #[.int i tk, x'] } := (sb.2 _ (Nat.ne_of_gt elt)).trans hT
    have pair : ObjOk X.prog X.w (upd H s.heap.objs.size (.tup [.int (i : Nat), x])) h2 s.heap.objs.size (.tup [.int (i : Nat), x]) := by
      refine ⟨?_, [.int i tk, x'], .cons ⟨_, rfl⟩ (.cons ru .nil), ⟨_, hT2, rfl, _, rfl⟩⟩
      show 2 ≤ sizeLine
      decide
    have J : Inv X pins σ (upd H s.heap.objs.size (.tup [.int (i : Nat), x])) { s with heap := h2, toks := tk + 1 } := by
      refine I.turnedNew (ch := [e, it]) (fun b ob hb q => ?_) hf (Nat.le_refl _) pair
      have n1 : b ≠ e := fun z => hb (by simp [z])
      have n2 : b ≠ it := fun z => hb (by simp [z])
      exact (sb.2 b n1).trans (hk b ob n1 n2 q)
    refine ⟨.ref s.heap.objs.size, _, J, rfl, ⟨_, x, rfl, I.hok.fresh (Nat.le_refl _), rfl, fun ys hy => by rw [I.tuple_inj hy hq]; exact hx⟩, ⟨⟨x', ?_⟩, st'.1.at fun o q => (sb.2 it (Ne.symm hne)).trans q, hne, ha1, ha2⟩, fun b hb => ?_⟩
    · rw [show ((i + 1 : Nat) : Int) = (i : Int) + 1 by omega]
      exact he2
    · have below : b < s.heap.objs.size := by
        rcases List.mem_cons.mp hb with rfl | hb
        · exact elt
        · rw [List.mem_singleton.mp hb]
          exact ilt
      rw [upd_ne (Nat.ne_of_lt below)]
      exact (hf b hb).1
  done := by
    intro X hP hw hK hc i pins s σ H E I hf st hg
    subst hP hw hK
    obtain ⟨⟨old, he⟩, hit, hne, ha1, ha2⟩ := st
    obtain ⟨xs, hq, hx⟩ := hg
    obtain ⟨its, rv, tp, hz⟩ := I.tuple hq
    obtain ⟨f0, f1, f2, f3, f4, f5⟩ := hf it (by simp)
    have hl := rv.length
    have off : its.toArray[i]? = none := by
      rw [List.getElem?_toArray]
      exact List.getElem?_eq_none (by omega)
    refine wpAny_pyNext_enum_endD (draws_end (A := X.A.in1) (I.ok.hd hc) it a its.toArray i off ha1) he ⟨rfl, hit, tp⟩ fun h' eb => ⟨rfl, ?_⟩
    exact I.turned (t' := s.toks) (fun b o hb q => eb b o hb q) f0 f1 f3 f4 f5
  self := fun A i s Q E st h => let ⟨⟨_, he⟩, _⟩ := st; wpAny_pyIter_enum he h
set_option maxHeartbeats 4000000 in
theorem meets_enum1 {v : Value} {o : Obj} {Hp' : Heap → Prop} (B : Begins v o Hp') :
    Meets (Builtin.«enumerate.__new__» ⟨[.type "enumerate", v], []⟩) (fun _ R s => Hp' s.heap ∧
      R (.ok (.ret (.ref (s.heap.push o).objs.size))) { s with heap := (s.heap.push o).push { cls := .type "enumerate", data := .fields #[.none, .bool false, .ref s.heap.objs.size, rawInt 0, .none, .none] } }) :=
  .of_wp fun prog w A R s both => by
    obtain ⟨hp, g, d, tk, os⟩ := s
    obtain ⟨begun, fin⟩ := both
    have sub := sub_enumerate
    have step : ∀ {A' : Around} {E : Value → Shared → Prop} {Q : Value → Shared → Prop}, Q (.ref hp.objs.size) ⟨hp.push o, g, d, tk, os⟩ → wpAny (model prog w) A' (pyIter v) Q E ⟨hp, g, d, tk, os⟩ := fun q => B.iter prog w _ _ ⟨hp, g, d, tk, os⟩ _ begun q
    wp_walk using step
    refine wpAny_stack_any fun st => wpAny_pure ?_
    split
    · rename_i c _ _ _ _ _
      cases (c == Value.type "enumerate") <;> (wp_walk using step; exact ⟨_, rfl, fin⟩)
    · wp_walk using step
      exact ⟨_, rfl, fin⟩
/-- enumerate(v): its two new cells -/
theorem enum1_begins {prog : Program} {w : World} {A : Around} {E : Value → Shared → Prop} {s : Shared} {v : Value} {o : Obj} {Hp' : Heap → Prop} {Q : Value → Shared → Prop} (B : Begins v o Hp') (begun : Hp' s.heap)
    (q : ∀ h', IsEnum h' (s.heap.objs.size + 1) s.heap.objs.size 0 .none → h'.get? s.heap.objs.size = some o → (∀ b o, s.heap.get? b = some o → h'.get? b = some o) → Q (.ref (s.heap.objs.size + 1)) { s with heap := h' }) :
    wpAny (model prog w) A (call (.type "enumerate") [v]) Q E s := by
  refine callType_new F.called_enumerate (by decide) (F.typeCall_enumerate_1 _) (F.newCall_enumerate_1 _) (fun obj => F.args_object_init_2 obj _) F.entry_enumerate_new (meets_enum1 B) ⟨begun, ?_⟩
  have sz : (s.heap.push o).objs.size = s.heap.objs.size + 1 := Heap.size_push ..
  have new := Heap.get?_push_size (s.heap.push o) (o := { cls := .type "enumerate", data := .fields #[.none, .bool false, .ref s.heap.objs.size, rawInt 0, .none, .none] }) rfl
  show _ ∧ _
  rw [sz] at new ⊢
  refine ⟨⟨_, new, rfl⟩, q _ new ?_ fun b o x => ?_⟩
  · exact Heap.get?_push_of_some _ (Heap.get?_push_size _ B.free)
  · exact Heap.get?_push_of_some _ (Heap.get?_push_of_some _ x)
def iEnumT (K : PySem.W.Frag) (ta : TA) : TI := fun σ H R => ta σ H fun vs H1 => ∃ a xs, vs = [.ref a] ∧ SqT K H1 a xs ∧ R (IteT K a) H1
theorem pi_enumT {X : Cx} {e : Expr} {ta : TA} {p pos tpos : Pos} {elts : List Expr} {kk : Nat} (free : Gl X "enumerate") (none : X.mg "enumerate" = none) (ha : PA X [e] ta) (st : starEach [e] X.env = [(false, eval e X.env)] := by rfl) :
    PI X (.Tuple elts kk tpos) (.Call (.Name "enumerate" p) [e] [] pos) (iEnumT X.K ta) := by
  refine ⟨fun pins s σ H R I h => Call_ (ld_blt I free none boot_enumerate (PyProof.Rows.callWith_type1 (thn (ha.run pos pins s σ H _ I h) fun us s1 ⟨vs, H1, I1, r1, q1⟩ => ?_) st rfl))⟩
  obtain ⟨a, xs, rfl, hq, q⟩ := q1
  rw [Vals.ref1 r1]
  obtain ⟨its, rv, tp, hz⟩ := I1.tuple hq
  refine enum1_begins (begins_tuple a its.toArray) tp fun h' he hit hk => wpAny_pyIter_enum he ?_
  have J : Inv X pins σ H1 { s1 with heap := h' } := I1.kept (t' := s1.toks) hk
  have lt := tp.lt
  refine ⟨s1.heap.objs.size + 1, [s1.heap.objs.size + 1, s1.heap.objs.size], _, _, H1, rfl, J, turn_enumT a (s1.heap.objs.size + 1) s1.heap.objs.size, ⟨⟨.none, he⟩, ⟨_, hit, rfl, rfl⟩, Nat.succ_ne_self _, Nat.ne_of_lt lt, Nat.ne_of_lt (Nat.lt_succ_of_lt lt)⟩, fun b hb => ?_, q⟩
  have above : s1.heap.objs.size ≤ b := by
    rcases List.mem_cons.mp hb with rfl | hb
    · exact Nat.le_succ _
    · rw [List.mem_singleton.mp hb]
      exact Nat.le_refl _
  exact I1.fpOk above (I1.hok.fresh above)
theorem walk_enumT {K : PySem.W.Frag} {a : Addr} {xs : List V} : Walk (IteT K a) xs.length (fun H => SqT K H a xs) (YPair (fun i => some (.int (i : Nat))) (fun i => xs[i]?)) :=
  ⟨fun i _ hi q => ⟨xs, xs[i], q, by simp [hi]⟩, fun _ q => ⟨xs, q, Nat.le_refl _⟩, fun i H v H' hi q y => let ⟨T, x, e1, e2, e3, e4⟩ := y; ⟨T, _, x, e1, e2, e3, rfl, e4 xs q⟩⟩
end GS
/-! Several except clauses, each of one class or of a tuple of classes, with or without «as n». -/
namespace GS
open PySem PySem.Spec PyProof.Rows L2 TL
abbrev MCl := List Value × Option Nat × (Addr → Value → Option Addr → TS)
def wMCl (D : Ends) (q : MCl) (a : Addr) (cls : Value) (d : Option Addr) (σ : L2.St) (H : Hp) : Prop := match q.2.1 with
  | none => q.2.2 a cls d D σ H
  | some i => q.2.2 a cls d (asEnds i D) (σ.set i (some (.ref a))) H
def wMCls (K : PySem.W.Frag) (Wout : WX) (D : Ends) : List MCl → WX
  | [] => Wout
  | q :: r => fun cls d σ H => ∃ b, PySem.W.exmAny K cls q.1 = some b ∧ (b = true → ∀ a, H a = none → wMCl D q a cls d σ H) ∧ (b = false → wMCls K Wout D r cls d σ H)
/-- what stands behind except -/
inductive MTest (X : Cx) : Expr → List Value → Prop
  | name {x : Str} {c : Value} {p : Pos} (h : Names X x c) : MTest X (.Name x p) [c]
  | two {x y : Str} {c d : Value} {p1 p2 p : Pos} {k : Nat} (h1 : Names X x c) (h2 : Names X y d) : MTest X (.Tuple [.Name x p1, .Name y p2] k p) [c, d]
  | three {x y z : Str} {c d e : Value} {p1 p2 p3 p : Pos} {k : Nat} (h1 : Names X x c) (h2 : Names X y d) (h3 : Names X z e) : MTest X (.Tuple [.Name x p1, .Name y p2, .Name z p3] k p) [c, d, e]
  | four {x y z u : Str} {c d e f : Value} {p1 p2 p3 p4 p : Pos} {k : Nat} (h1 : Names X x c) (h2 : Names X y d) (h3 : Names X z e) (h4 : Names X u f) : MTest X (.Tuple [.Name x p1, .Name y p2, .Name z p3, .Name u p4] k p) [c, d, e, f]
inductive MClOk (X : Cx) : ExceptHandler → MCl → Prop
  | bare {t : Expr} {cs : List Value} {ts : Addr → Value → Option Addr → TS} {st : Stmt} {sts : List Stmt} {pos' : Pos} (hc : MTest X t cs)
      (su : ∀ (a : Addr) (oe : Obj) (cls : Value) (d : Option Addr) (pn : List (Addr × Obj)), Zc cls d oe → (∃ vs, oe.data = .fields vs) → PSs (X.suite a ((a, oe) :: pn)) (st :: sts) (ts a cls d)) :
      MClOk X (.ExceptHandler (some t) none (st :: sts) pos') (cs, none, ts)
  | as {t : Expr} {n : Str} {cs : List Value} {ts : Addr → Value → Option Addr → TS} {st : Stmt} {sts : List Stmt} {pos' : Pos} {i : Nat} (hc : MTest X t cs) (hN : X.N.Nodup) (hi : X.N[i]? = some n) (hln : X.env.kindOf n = some .local)
      (su : ∀ (a : Addr) (oe : Obj) (cls : Value) (d : Option Addr) (pn : List (Addr × Obj)), Zc cls d oe → (∃ vs, oe.data = .fields vs) → PSs (X.suite a ((a, oe) :: pn)) (st :: sts) (ts a cls d)) :
      MClOk X (.ExceptHandler (some t) (some n) (st :: sts) pos') (cs, some i, ts)
inductive MClsOk (X : Cx) : List ExceptHandler → List MCl → Prop
  | nil : MClsOk X [] []
  | cons {h : ExceptHandler} {q : MCl} {hs : List ExceptHandler} {qs : List MCl} (o : MClOk X h q) (r : MClsOk X hs qs) : MClsOk X (h :: hs) (q :: qs)
theorem flying_keeps {base h h' : Heap} {l : List Env} {e : Addr} {Z : Obj → Prop} (f : PySem.HandSPX.FlyingZ base l e Z h) (k : ∀ b o, h.get? b = some o → h'.get? b = some o) : PySem.HandSPX.FlyingZ base l e Z h' := by
  obtain ⟨f1, f2, f3, oe, vs, T, oT, ts, t1, t2, t3, t4, t5, t6, t7, t8⟩ := f
  exact ⟨fun b o q => k _ _ (f1 b o q), f2, Heap.FunFrames.of_keeps (fun b o q _ => ⟨o, k _ _ q, rfl⟩) f3, oe, vs, T, oT, ts, k _ _ t1, t2, t3, t4, t5, t6, k _ _ t7, t8⟩
section
variable {X : Cx} {pins : List (Addr × Obj)} {σ : L2.St} {H : Hp} {s sI : Shared} {a : Addr} {B : Heap} {cls : Value} {d : Option Addr} {D : Ends} {Wout : WX}
theorem Caught.grown (c : Caught X pins σ H a B cls d sI s) {h' : Heap} (k : ∀ b o, s.heap.get? b = some o → h'.get? b = some o) : Caught X pins σ H a B cls d sI { s with heap := h' } :=
  ⟨c.inv, c.nb, c.up.trans (Heap.UpToSlots.of_keeps k), c.na, c.os, c.ag, flying_keeps c.fl k⟩
theorem Caught.looks (c : Caught X pins σ H a B cls d sI s) : PySem.W.Looks (model X.prog X.w) s.heap (typeOf (.ref a)) cls := by
  obtain ⟨oe0, vs0, e01, e02, e03⟩ := c.fl.there
  exact fun A Q E s' kk z => wpAny_typeOf_ref (kk _ _ e01) (by rw [e02.1]; exact z)
/-- a tuple of classes, new -/
theorem mtup {t : Expr} {cs : List Value} {b : Bool} {Q : Bool → Shared → Prop} {E : Value → Shared → Prop} (c : Caught X pins σ H a B cls d sI s) (lcs : cs.length ≤ 10)
    (ev : ∀ Q' : Value → Shared → Prop, Q' (.ref s.heap.objs.size) { s with heap := s.heap.push { cls := .type "tuple", data := .seq cs.toArray } } → wpAny (model X.prog X.w) (X.A.mark (some (.ref a))) (eval t X.env) Q' E s)
    (lk : ∀ h : Heap, X.K.In h → PySem.W.Looks (model X.prog X.w) h (typeOf (.ref a)) cls → h.get? s.heap.objs.size = some { cls := .type "tuple", data := .seq cs.toArray } → PySem.W.Looks (model X.prog X.w) h (excMatches (.ref a) (.ref s.heap.objs.size)) b)
    (q : ∀ s', Caught X pins σ H a B cls d sI s' → Q b s') : wpAny (model X.prog X.w) (X.A.mark (some (.ref a))) (eval t X.env) (fun v s₁ => wpAny (model X.prog X.w) (X.A.mark (some (.ref a))) (excMatches (.ref a) v) Q E s₁) E s := by
  have c2 := c.grown (h' := s.heap.push { cls := .type "tuple", data := .seq cs.toArray }) fun b o e => Heap.get?_push_of_some _ e
  exact ev _ ((lk _ c2.here.kIn c2.looks (Heap.get?_push_size _ rfl)).here (q _ c2))
theorem mtest {t : Expr} {cs : List Value} {b : Bool} {Q : Bool → Shared → Prop} {E : Value → Shared → Prop} (c : Caught X pins σ H a B cls d sI s) (hf : X.env.frame = some X.env.locals) (m : MTest X t cs) (hb : PySem.W.exmAny X.K cls cs = some b)
    (q : ∀ s', Caught X pins σ H a B cls d sI s' → Q b s') : wpAny (model X.prog X.w) (X.A.mark (some (.ref a))) (eval t X.env) (fun v s₁ => wpAny (model X.prog X.w) (X.A.mark (some (.ref a))) (excMatches (.ref a) v) Q E s₁) E s := by
  have small : ∀ n : Nat, n ≤ 10 → n ≤ sizeLine := fun n hn => Nat.le_trans hn (by decide)
  cases m with
  | name h =>
    obtain ⟨b1, d1, x1, y1, z1⟩ := PySem.W.exmAny_cons hb
    have : d1 = false := (Option.some.inj y1).symm
    subst this
    rw [Bool.or_false] at z1
    subst z1
    exact names_eval c hf h ((PySem.W.exm_one (M := model X.prog X.w) c.here.kIn c.looks x1).here (q s c))
  | two h1 h2 =>
    exact mtup c (by simp) (fun Q' q' => wpAny_Tuple_spliced (Calls.spliced_cons (names_eval c hf h1 (Calls.spliced_cons (names_eval c hf h2 (Calls.spliced_nil ⟨small _ (by simp), q'⟩)))))) (fun h K1 L1 there => PySem.W.exm_tup2 K1 L1 there hb) q
  | three h1 h2 h3 =>
    exact mtup c (by simp) (fun Q' q' => wpAny_Tuple_spliced (Calls.spliced_cons (names_eval c hf h1 (Calls.spliced_cons (names_eval c hf h2 (Calls.spliced_cons (names_eval c hf h3 (Calls.spliced_nil ⟨small _ (by simp), q'⟩)))))))) (fun h K1 L1 there => PySem.W.exm_tup3 K1 L1 there hb) q
  | four h1 h2 h3 h4 =>
    exact mtup c (by simp) (fun Q' q' => wpAny_Tuple_spliced (Calls.spliced_cons (names_eval c hf h1 (Calls.spliced_cons (names_eval c hf h2 (Calls.spliced_cons (names_eval c hf h3 (Calls.spliced_cons (names_eval c hf h4 (Calls.spliced_nil ⟨small _ (by simp), q'⟩)))))))))) (fun h K1 L1 there => PySem.W.exm_tup4 K1 L1 there hb) q
theorem mclauses {hs : List ExceptHandler} {qs : List MCl} (k : MClsOk X hs qs) (hst : X.stack = X.env :: X.outer) (hf : X.env.frame = some X.env.locals) (tk : Takes X Wout) :
    ∀ {s : Shared}, Caught X pins σ H a B cls d sI s → wMCls X.K Wout D qs cls d σ H → wpAny (model X.prog X.w) X.A (handleBy (.ref a) X.env hs) (SP X pins D) X.xe s := by
  induction k with
  | nil =>
    intro s c w
    refine wpAny_handleBy_nil ?_
    obtain ⟨k1, k2, k3, oe, vs, T, oT, ts', he, hz, hd, h1, hr⟩ := id c.fl
    have out : wpAny (model X.prog X.w) X.A (setFlight (.ref a) X.env.frame) (fun _ s4 => wpAny (model X.prog X.w) X.A (throw (.ref a) : Sem Flow) (SP X pins D) X.xe s4) X.xe s := by
      rw [hf]
      exact PySem.HandSPX.setFlight_upZ c.fl fun h4 hh4 up4 => wpAny_throw (tk _ _ ⟨a, B, sI, pins, σ, H, cls, d, rfl, c.inv, c.nb, c.up.trans up4, .inr (.inr (by rw [hst]; exact hh4)), c.na, c.os, c.ag, w⟩)
    unfold PySem.passOn
    refine wpAny_bind (wpAny_field he hd h1 ?_)
    rw [if_neg (show ¬ ((Value.ref T == Value.none) = true) from by simp)]
    first
      | exact wpAny_bind (wpAny_pure (wpAny_bind out))
      | exact wpAny_bind out
  | @cons h q hs qs o r ih =>
    intro s c w
    obtain ⟨b, hb1, hyes, hno⟩ := w
    cases o with
    | bare hc su =>
      refine wpAny_handleBy_cons (codeAny_handlers_test ?_) (by intro q; cases q)
      refine mtest c hf hc hb1 fun s c => ?_
      cases b with
      | false => exact ih c (hno rfl)
      | true =>
        refine codeAny_handlers_suite (c.again fun s4 c4 => ?_)
        obtain ⟨oe, z1, z2, S⟩ := c4.suite (M := model X.prog X.w) hf
        have ok := c4.here.ok
        refine wpAny_mono ((su a oe cls d (X.pn ++ pins) z1 z2).run [] _ _ H _ S (hyes rfl a c.na)) (fun f s6 hsp => ?_) (fun _ _ z => False.elim z)
        cases f with
        | next => exact let ⟨σ6, H6, S6, q6⟩ := hsp; ⟨_, _, S6.unsuite ok, q6⟩
        | brk => exact let ⟨σ6, H6, S6, q6⟩ := hsp; ⟨_, _, S6.unsuite ok, q6⟩
        | cont => exact let ⟨σ6, H6, S6, q6⟩ := hsp; ⟨_, _, S6.unsuite ok, q6⟩
        | ret u => exact let ⟨v6, σ6, H6, S6, r6, q6⟩ := hsp; ⟨_, _, _, S6.unsuite ok, r6, q6⟩
    | @as t n cs ts st sts pos' i hc hN hi hln su =>
      refine wpAny_handleBy_cons (codeAny_handlers_test ?_) (by intro q; cases q)
      refine mtest c hf hc hb1 fun s c => ?_
      cases b with
      | false => exact ih c (hno rfl)
      | true =>
        refine codeAny_handlers_suite_as (c.again fun s4 c4 => ?_)
        obtain ⟨oe, z1, z2, S⟩ := c4.suite (M := model X.prog X.w) hf
        have ok := c4.here.ok
        refine store_ok (X := X.suite a ((a, oe) :: (X.pn ++ pins))) (v := .ref a) S hN hi (.inl hln) rfl (fun s5 S5 => ?_) (.inr hln)
        refine wpAny_mono ((su a oe cls d (X.pn ++ pins) z1 z2).run [] s5 _ H (asEnds i D) S5 (hyes rfl a c.na)) (fun f s6 hsp => ?_) (fun _ _ z => False.elim z)
        cases f with
        | next => exact let ⟨σ6, H6, S6, q6⟩ := hsp; gone_ok (S6.unsuite ok) hN hi hln fun s7 J7 => ⟨_, _, J7, q6⟩
        | brk => exact let ⟨σ6, H6, S6, q6⟩ := hsp; gone_ok (S6.unsuite ok) hN hi hln fun s7 J7 => ⟨_, _, J7, q6⟩
        | cont => exact let ⟨σ6, H6, S6, q6⟩ := hsp; gone_ok (S6.unsuite ok) hN hi hln fun s7 J7 => ⟨_, _, J7, q6⟩
        | ret u => exact let ⟨v6, σ6, H6, S6, r6, q6⟩ := hsp; gone_ok (S6.unsuite ok) hN hi hln fun s7 J7 => ⟨_, _, _, J7, r6, q6⟩
/-- THE RULE -/
theorem ps_try_m {body : List Stmt} {h₀ : ExceptHandler} {hds : List ExceptHandler} {qs : List MCl} {pos : Pos} {tb : WX → TS} (hst : X.stack = X.env :: X.outer) (hf : X.env.frame = some X.env.locals) (tk : Takes X Wout)
    (hb : ∀ (W : WX) (pn : List (Addr × Obj)) (xe : Value → Shared → Prop), Takes (X.tr pn xe) W → PassesOwn (model X.prog X.w) X.A X.env xe → PSs (X.tr pn xe) body (tb W)) (hh : MClsOk X (h₀ :: hds) qs) :
    PS X (.Try body (h₀ :: hds) [] [] pos) (fun D σ H => tb (wMCls X.K Wout D qs) D σ H) := by
  refine ⟨fun pins s σ H D I h => wpAny_Try_except ?_⟩
  have ok := I.ok
  have fr : X.A.frames = some (X.env :: X.outer) := by rw [ok.frames, hst]
  have B0 := hb (wMCls X.K Wout D qs) (X.pn ++ pins) (fun e s₁ => wpAny (model X.prog X.w) X.A (noteFrame e X.env) (fun _ s₂ => wpAny (model X.prog X.w) X.A (setFlight e none) (fun _ s₃ => wpAny (model X.prog X.w) X.A (handleBy e X.env (h₀ :: hds)) (SP X pins D) X.xe s₃) X.xe s₂) X.xe s₁)
    (fun u s' xx => by
      obtain ⟨a, B, sI, pins', σ', H', cls, d, rfl, J', nb, up, sky, na, os, ag, w⟩ := xx
      refine Sky.land Zc.steady fr hf (show Sky B (X.env :: X.outer) a (Zc cls d) X.env.locals s'.heap by rw [← hst]; exact sky) fun h3 fl3 up3 => ?_
      exact mclauses hh hst hf tk ⟨J'.ofTry ok, nb, up.trans up3, na, os, ag, fl3⟩ w) PassesOwn.looking
  refine wpAny_mono (B0.run [] s σ H D (I.toTry _) h) (fun f s1 hsp => ?_) (fun _ _ z => z)
  cases f with
  | next => exact let ⟨σ', H', J', q⟩ := hsp; wpAny_execs_nil ⟨σ', H', J'.ofTry ok, q⟩
  | brk => exact let ⟨σ', H', J', q⟩ := hsp; ⟨σ', H', J'.ofTry ok, q⟩
  | cont => exact let ⟨σ', H', J', q⟩ := hsp; ⟨σ', H', J'.ofTry ok, q⟩
  | ret u => exact let ⟨v, σ', H', J', r, q⟩ := hsp; ⟨v, σ', H', J'.ofTry ok, r, q⟩
end
end GS
/-! isinstance(error, C) within a suite, of an error with a dict of its own. -/
namespace GS
open PySem PySem.W PySem.Spec PySem.Calls PyProof.Rows L2
section
variable {K : Frag} {x D : Addr} {ox : Obj} {od : Option Obj}
theorem data_found {attr get : Value} {C : Addr} {n : PySem.Str} (there : (clsIn K C).isSome = true) (f : findIn K (.ref C) n = some (some attr)) (g : specialIn K attr "__get__" = some (some get)) (t : takesIn K attr = some true) : findObj K C od n = some (.bind get attr) := by
  obtain ⟨cd, e⟩ := Option.isSome_iff_exists.mp there
  unfold findObj
  rw [e]
  rw [Option.bind_some, f]
  rw [Option.bind_some]
  simp [g, t]
theorem own_class {prog : Program} {w : World} {A : Around} {E : Value → Shared → Prop} {s : Shared} {Q : Option Value → Shared → Prop} (c : ExcC K D) (kin : K.In s.heap) (i : InstAt s.heap x ox D od) (q : Q (some (.ref D)) { s with toks := s.toks + 1 }) :
    wpAny (model prog w) A (getAttr? (.ref x) "__class__") Q E s := by
  have found : findObj K D od "__class__" = some (.bind (.builtin "getset_descriptor.__get__") (.builtin "object.__class__")) := by
    refine data_found ?_ c.ha c.hn c.ht
    obtain ⟨cd, e, _⟩ := any_some c.hd
    rw [e]
    rfl
  obtain ⟨heap, g, d, t, os⟩ := s
  have ty := i.type (M := model prog w)
  have own := looks_findIn (M := model prog w) kin c.hg
  have hook := looks_findIn (M := model prog w) kin c.hk
  have look := looks_find (M := model prog w) kin i found
  have isExc : Looks (model prog w) heap (isInstance (.ref x) (.type "BaseException")) true := ty.andThen (looks_subIn kin c.hs)
  have no2 : (Value.builtin "BaseException.__getattribute__" == Value.builtin "object.__getattribute__") = false := by decide +kernel
  have no1 : (onTheHeap (Value.ref D) && Value.builtin "BaseException.__getattribute__" == Value.builtin "object.__getattribute__") = false := by
    rw [no2]
    rfl
  unfold getAttr? getAttrBy? getAttrBy
  refine wpAny_bind (wpAny_mkText (wpAny_bind (wpAny_attempt (wpAny_holding (wpAny_bind (ty.at (wpAny_bind (own.at ?_))))))))
  show wpAny _ _ (if (onTheHeap (Value.ref D) && Value.builtin "BaseException.__getattribute__" == Value.builtin "object.__getattribute__") = true then _ else _) _ _ _
  rw [no1, if_neg Bool.false_ne_true]
  unfold getAttrByItsOwn hookBefore
  refine wpAny_bind ?_
  rw [if_pos (show onTheHeap (Value.ref D) = true from rfl)]
  refine hook.at (wpAny_bind (wpAny_attempt (wpAny_holding ?_)))
  unfold callGetattribute
  rw [show (false && onTheHeap (Value.builtin "BaseException.__getattribute__")) = false from rfl, if_neg Bool.false_ne_true]
  unfold boundAndCalled
  rw [PySem.F.excAttr_ValueError.ga.bind (.ref x)]
  refine wpAny_bind (wpAny_pure ?_)
  show wpAny _ _ (call (.builtin "BaseException.__getattribute__") [.ref x, .str "__class__" t]) _ _ _
  refine wpAny_call (codeAny_call_builtin PySem.F.excAttr_ValueError.ga.plain PySem.F.entry_bexc_ga ?_)
  refine @check_slot (model prog w) _ _ ⟨heap, g, d, t + 1, os⟩ "BaseException.__getattribute__" "BaseException" "__getattribute__" (.ref x) [.str "__class__" t] [] _
    (by decide +kernel) (by decide +kernel) isExc (PySem.F.args_bexc_ga (.ref x) (.str "__class__" t)) ?_
  unfold Builtin.«object.__getattribute__»
  refine wpAny_bind (wpAny_of_eq (a := ((Value.ref x : Value), [Value.str "__class__" t])) (by first | rfl | (simp only [slotArgs]; rfl)) ?_)
  refine wpAny_bind (wpAny_pure (wpAny_bind (ty.at (wpAny_bind (look.at ?_)))))
  show wpAny _ _ (holding [Value.builtin "object.__class__"] (call (.builtin "getset_descriptor.__get__") [.builtin "object.__class__", .ref x, .ref D]) >>= ret) _ _ _
  refine wpAny_bind (wpAny_holding (wpAny_call (class_get (s := ⟨heap, g, d, t + 1, os⟩) kin i c.hm (wpAny_pure ?_))))
  show wpAny _ _ (handedOut (.ref D)) _ _ _
  rw [handedOut_of (v := .ref D) rfl]
  first | exact wpAny_pure (wpAny_pure q) | exact wpAny_pure q | exact wpAny_pure (wpAny_bind (wpAny_pure (wpAny_pure q)))
theorem kit_err (c : ExcC K D) : KitX K (.ref x) (.ref D) (fun h => InstAt h x ox D od) where
  ty := fun _ _ _ i => i.type
  it := fun _ _ kin _ => by
    obtain ⟨cd, e, _⟩ := any_some c.hd
    unfold clsIn at e
    split at e
    · rename_i ho
      intro A' Q' E' s' kept q
      unfold isType loadHead
      exact wpAny_bind (wpAny_loadPart (kept _ _ (kin _ _ ho)) (wpAny_pure q))
    · cases e
  ne := fun h tp dd its n sl kin there => by
    obtain ⟨cd, e, _⟩ := any_some c.hd
    refine Bool.eq_false_iff.mpr fun q => ?_
    have same : D = tp := Value.ref.inj (beq_iff_eq.mp q)
    unfold clsIn at e
    split at e
    · rename_i ho
      rw [same] at ho
      cases (kin _ _ ho).symm.trans there
    · cases e
  ca := fun kin i q => own_class c kin i q
end
/-- isinstance(e, c), e the error that the suite holds, of whichever class -/
def rIsX (K : Frag) (a : Addr) (cls : Value) (d : Option Addr) : List V → Hp → VK → Prop := fun xs H Q => ∃ (c : V) (cv : Value) (b : Bool) (C dd : Addr) (fs : List (PySem.Str × V)), xs = [.ref a, c] ∧ (∀ u, RelV c u → u = cv) ∧ cls = .ref C ∧ ExcC K C ∧ kitOne K (.ref C) cv = some b ∧ d = some dd ∧ H dd = some (.xd fs) ∧ Q (.bl b) H
section
variable {X : Cx} {a : Addr} {oe : Obj} {cls : Value} {d : Option Addr} {pn : List (Addr × Obj)}
/-- the error as an instance -/
theorem inst_err {pins : List (Addr × Obj)} {σ : L2.St} {H : Hp} {s : Shared} {C dd : Addr} {fs : List (PySem.Str × V)} (hz : Zc (.ref C) (some dd) oe) (hf : ∃ vs, oe.data = .fields vs) (I : Inv (X.suite a ((a, oe) :: pn)) pins σ H s) (there : H dd = some (.xd fs)) :
    ∃ od, InstAt s.heap a oe C (some od) ∧ ∀ n v, fs.lookup n = some v → ∃ u, RelV v u ∧ lookIn n od = some (some u) := by
  obtain ⟨mA, hns, hr⟩ := (show ObjOk X.prog X.w H s.heap dd (.xd fs) from I.hok dd _ there)
  obtain ⟨od, ho, hl⟩ := lookIn_ns hns
  obtain ⟨ha, _⟩ := I.pin (a, oe) (List.mem_append_left _ List.mem_cons_self)
  obtain ⟨vs, hd⟩ := hf
  have plain : notCls oe := by
    unfold notCls
    rw [hd]
  refine ⟨od, ⟨ha, hz.1, plain, by rw [hz.2]; exact ho⟩, fun n v hv => ?_⟩
  obtain ⟨u, hu, ru⟩ := RelO.some_of (v := v) (o := mA n) (by rw [← hv]; exact hr n)
  exact ⟨u, ru, by rw [hl, hu]⟩
theorem cr_isX {K : Frag} (hk : X.K = K) (hz : Zc cls d oe) (hf : ∃ vs, oe.data = .fields vs) : CallR (X.suite a ((a, oe) :: pn)) (.builtin "isinstance") (rIsX K a cls d) := by
  subst hk
  intro pins s σ H xs us Q I r got
  obtain ⟨c, cv, b, C, dd, fs, rfl, only, rfl, ec, e, rfl, there, q⟩ := got
  obtain ⟨u1, u2, rfl, r1, r2⟩ := vals2 r
  cases r1
  rw [only _ r2]
  obtain ⟨od, i, _⟩ := inst_err hz hf I there
  exact kia_one (kit_err ec) I.kIn i e (fun z => nomatch z) fun tk => ⟨.bl b, H, I.kept (t' := tk) fun _ _ z => z, rfl, q⟩
/-- e.f, e the error that the suite holds, of whichever class -/
def tXfA (K : Frag) (a : Addr) (cls : Value) (d : Option Addr) (n : PySem.Str) (te : TE) : TE := fun σ H Q => te σ H fun x H1 => x = .ref a ∧ ∃ (C dd : Addr) (fs : List (PySem.Str × V)) (v : V), cls = .ref C ∧ XfC K C ∧ findIn K (.ref C) n = some none ∧ d = some dd ∧ H1 dd = some (.xd fs) ∧ fs.lookup n = some v ∧ Q v H1
theorem pe_xfA {K : Frag} {e : Expr} {te : TE} {pos : Pos} {n : PySem.Str} (hk : X.K = K) (hz : Zc cls d oe) (hf : ∃ vs, oe.data = .fields vs) (he : PE (X.suite a ((a, oe) :: pn)) e te) (plain : attributeBase e n X.env (eval e X.env) = eval e X.env := by rfl) : PE (X.suite a ((a, oe) :: pn)) (.Attribute e n pos) (tXfA K a cls d n te) := by
  subst hk
  refine ⟨fun pins s σ H Q I h => attr_of plain (thn (he.run pins s σ H _ I h) fun u s1 got => ?_)⟩
  obtain ⟨x, H1, I1, rx, rfl, C, dd, fs, v, rfl, T, no_, rfl, there, l, q⟩ := got
  obtain rfl : u = Value.ref a := rx
  obtain ⟨od, i, fields⟩ := inst_err hz hf I1 there
  obtain ⟨u, ru, hu⟩ := fields n v l
  exact HandSPX.exc_get I1.kIn i T.ga T.gg T.exC (findObj_own T.hdC no_ rfl hu) (handed_of ru) ⟨v, H1, I1.tok _, ru, q⟩
end
end GS
/-! A list or a tuple walked; o.m(k = v). -/
namespace GS
open PySem PySem.Spec PyProof.Rows L2
def iSeq (K : PySem.W.Frag) (tl : TE) : TI := fun σ H R => tl σ H fun x H1 => ∃ a, x = .ref a ∧ (((∃ xs, SqL K H1 a xs) ∧ R (Itl K a) H1) ∨ ((∃ xs, SqT K H1 a xs) ∧ R (Itt K a) H1))
theorem pi_seq {X : Cx} {tg l : Expr} {tl : TE} (hl : PE X l tl) : PI X tg l (iSeq X.K tl) := by
  refine ⟨fun pins s σ H R I h => thn (hl.run pins s σ H _ I h) fun v s1 ⟨x, H1, I1, r1, a, ex, q⟩ => ?_⟩
  subst ex
  obtain rfl : v = Value.ref a := r1
  have grown : ∀ (o : Obj), Inv X pins σ H1 { s1 with heap := s1.heap.push o } := fun o => I1.kept (t' := s1.toks) fun b u e => Heap.get?_push_of_some _ e
  have fresh := I1.fpOk (Nat.le_refl _) (I1.hok.fresh (Nat.le_refl s1.heap.objs.size))
  rcases q with ⟨⟨xs, hq⟩, q⟩ | ⟨⟨xs, hq⟩, q⟩
  · obtain ⟨its, rv, p, hz⟩ := I1.list hq
    refine wpAny_pyIter_list p.isList ⟨s1.heap.objs.size, [s1.heap.objs.size], _, _, H1, rfl, grown _, turn_list a _, ⟨_, Heap.get?_push_size _ rfl, rfl, rfl⟩, fun b hb => ?_, q⟩
    rw [List.mem_singleton.mp hb]
    exact fresh
  · obtain ⟨its, rv, p, hz⟩ := I1.tuple hq
    refine wpAny_pyIter_tuple (show s1.heap.IsTuple a its.toArray from p) ⟨s1.heap.objs.size, [s1.heap.objs.size], _, _, H1, rfl, grown _, turn_tuple a _, ⟨_, Heap.get?_push_size _ rfl, rfl, rfl⟩, fun b hb => ?_, q⟩
    rw [List.mem_singleton.mp hb]
    exact fresh
theorem r_iSeqL {K : PySem.W.Frag} {a : Addr} {H : Hp} {xs : List V} {R : It → Hp → Prop} (h : SqL K H a xs) (q : R (Itl K a) H) : ∃ b, V.ref a = .ref b ∧ (((∃ xs, SqL K H b xs) ∧ R (Itl K b) H) ∨ ((∃ xs, SqT K H b xs) ∧ R (Itt K b) H)) := ⟨a, rfl, .inl ⟨⟨xs, h⟩, q⟩⟩
theorem r_iSeqT {K : PySem.W.Frag} {a : Addr} {H : Hp} {xs : List V} {R : It → Hp → Prop} (h : SqT K H a xs) (q : R (Itt K a) H) : ∃ b, V.ref a = .ref b ∧ (((∃ xs, SqL K H b xs) ∧ R (Itl K b) H) ∨ ((∃ xs, SqT K H b xs) ∧ R (Itt K b) H)) := ⟨a, rfl, .inr ⟨⟨xs, h⟩, q⟩⟩
/-- o.m(k = v, ..) -/
def tMethN (C : Addr) (m : PySem.Str) (nk : Nat) (sp : Sp) (gV : List V → List V → List V) (E : XK) (ta : TE) (tk : TA) : TE := fun σ H Q => ta σ H fun x H1 => ∃ a dx fs, x = .ref a ∧ H1 a = some (.ins C dx fs) ∧ fs.lookup m = none ∧ tk σ H1 fun zs H2 => zs.length = nk ∧ sp (gV [x] zs) H2 Q E
theorem pe_methK0 {X : Cx} {CX : CXT} {k : Nat} {f C : Addr} {fd : FuncData} {ps ks : List PySem.Str} {sp : Sp} {E : XK} {o : Expr} {m : PySem.Str} {pos apos : Pos} {ta : TE} {tk : TA} {kws : List Keyword} {g : List Value → List Value → List Value} {gV : List V → List V → List V} {pl : Sem Bool}
    (he : PE X o ta) (c : Cls X.K C) (hm : Meth X.K C m f) (F : FnOk X.prog X.w X.K X.mg X.base CX k f fd ps sp) (hr : Room k X.A) (kb : KBn X.K fd ps 1 ks g gV) (hx : Passes CX X E) (hw : PK X kws tk)
    (named : (backToKw pos (keywordEach kws X.env)).all (·.1.isSome) = true := by rfl) (names : (backToKw pos (keywordEach kws X.env)).filterMap (·.1) = ks := by rfl)
    (plain : ((backTo pos (starEach [] X.env)).any (·.1) || (backToKw pos (keywordEach kws X.env)).any (·.1.isNone)) = false := by rfl)
    (ht : eval (.Call (.Attribute o m apos) [] kws pos) X.env = (do let ov ← eval o X.env; standAt apos.atName; let (f, first) ← holding [ov] (getMethod ov m pl); callWith pos f first (backTo pos (starEach [] X.env)) (backToKw pos (keywordEach kws X.env))) := by rfl) :
    PE X (.Call (.Attribute o m apos) [] kws pos) (tMethN C m ks.length sp gV E ta tk) := by
  refine ⟨fun pins s σ H Q I h => PySem.W.methodCall_KW (pl := pl) (thn (he.run pins s σ H _ I h) fun u s1 ⟨x, H1, I1, rx, a, dx, fs, ex, ea, l, q⟩ => ?_) ht⟩
  subst ex
  obtain rfl : u = Value.ref a := rx
  refine getmeth_ok I1 ea c hm l ?_
  refine PySem.W.callWith_KW0 (first := [.ref a]) (h₀ := X.base) I.ok.mod.kin hm.kp named (thn (hw.run pos pins s1 σ H1 _ I1 q) fun ws s2 ⟨zs, H2, I2, rz, m2, q2⟩ => ⟨I2.kIn, ?_⟩) plain
  rw [names]
  exact run_fnN (us := [.ref a]) (vs := [.ref a]) F hr kb hx I2 (.cons rfl .nil) rz rfl m2 q2
/-- o.m(e, ..) inside try -/
def tMethE (C : Addr) (m : PySem.Str) (sp : Sp) (E : L2.St → XK) (ta : TE) (t : TA) : TE := fun σ H Q => ta σ H fun x H1 => ∃ a dx fs, x = .ref a ∧ H1 a = some (.ins C dx fs) ∧ fs.lookup m = none ∧ t σ H1 fun vs H2 => sp (x :: vs) H2 Q (E σ)
theorem pe_methE {X : Cx} {CX : CXT} {k : Nat} {f C : Addr} {fd : FuncData} {ps : List PySem.Str} {sp : Sp} {E : L2.St → XK} {o e : Expr} {es : List Expr} {m : PySem.Str} {pos apos : Pos} {ta : TE} {t : TA} {pl : Sem Bool}
    (he : PE X o ta) (c : Cls X.K C) (hm : Meth X.K C m f) (F : FnOk X.prog X.w X.K X.mg X.base CX k f fd ps sp) (hr : Room k X.A) (hb : Binds X.K fd ps []) (hx : ∀ σ, PassesAt CX X σ (E σ)) (ha : PA X (e :: es) t)
    (st : starEach (e :: es) X.env = (false, eval e X.env) :: starEach es X.env := by rfl) (plain : (backTo pos (starEach es X.env)).any (·.1) = false := by rfl)
    (ht : eval (.Call (.Attribute o m apos) (e :: es) [] pos) X.env = (do let ov ← eval o X.env; standAt apos.atName; let (f, first) ← holding [ov] (getMethod ov m pl); callWith pos f first (backTo pos (starEach (e :: es) X.env)) (backToKw pos (keywordEach [] X.env))) := by rfl) :
    PE X (.Call (.Attribute o m apos) (e :: es) [] pos) (tMethE C m sp E ta t) := by
  refine ⟨fun pins s σ H Q I h => PySem.W.methodCall_KW (pl := pl) (thn (he.run pins s σ H _ I h) fun u s1 ⟨x, H1, I1, rx, a, dx, fs, ex, ea, l, q⟩ => ?_) ht⟩
  subst ex
  obtain rfl : u = Value.ref a := rx
  refine getmeth_ok I1 ea c hm l ?_
  refine PySem.W.callWith_K (first := [.ref a]) (h₀ := X.base) I.ok.mod.kin hm.kp (thn (ha.run pos pins s1 σ H1 _ I1 q) fun us s2 ⟨vs, H2, I2, r, q2⟩ => ⟨I2.kIn, ?_⟩) st plain
  exact run_fnS (us := .ref a :: us) (vs := .ref a :: vs) F hr hb (hx σ) I2 (.cons rfl r) q2
/-- l[j] for l[j] op= e, from 0 on -/
def rGetL (K : PySem.W.Frag) : V → V → Hp → VK → Prop := fun x y H Q => ∃ p xs j v, x = .ref p ∧ y = .int (j : Nat) ∧ SqL K H p xs ∧ xs[j]? = some v ∧ Q v H
theorem pget_list {X : Cx} : PGet X (rGetL X.K) := by
  intro pins s σ H o i ov iv Q I ro ri got
  obtain ⟨p, xs, j, v, rfl, rfl, hq, e, q⟩ := got
  obtain rfl : ov = Value.ref p := ro
  obtain ⟨t, rfl⟩ := ri
  obtain ⟨its, r, pl, hz⟩ := I.list hq
  obtain ⟨u, hu, ru⟩ := r.get e
  have lt := (List.getElem?_eq_some_iff.mp e).1
  have n := line63
  refine wpAny_getItem_list (x := u) pl.isList (Int.natCast_nonneg j) ?_ ?_ ⟨v, H, I, ru, q⟩
  · omega
  · rw [Int.toNat_natCast]
    simpa using hu
/-! the same rules where X's K is only told by an equation (within comprehensions) -/
theorem kx_ixl {X : Cx} {K : PySem.W.Frag} (h : X.K = K) : IxR X (rIxL K) := by subst h; exact ix_list
theorem kx_ixt {X : Cx} {K : PySem.W.Frag} (h : X.K = K) : IxR X (rIxT K) := by subst h; exact ix_tup
theorem kx_lens {X : Cx} {K : PySem.W.Frag} (h : X.K = K) : CallR X (.builtin "len") (fun xs H Q => ∃ p ys, xs = [.ref p] ∧ (SqL K H p ys ∨ SqT K H p ys) ∧ Q (.int ys.length) H) := by subst h; exact call_len_seq
theorem kx_fld {X : Cx} {K : PySem.W.Frag} {e : Expr} {te : TE} {f : PySem.Str} {pos : Pos} (h : X.K = K) (he : PE X e te) (hb : attributeBase e f X.env (eval e X.env) = eval e X.env) : PE X (.Attribute e f pos) (tFld K te f) := by subst h; exact pe_fld he hb
/-! facts of the head -/
def bnB (x : PySem.Str) (id : String) : Chk := fun K => He.eqO (PySem.W.nsIn K mainGlobals x) (some (some (.builtin id)))
theorem bnB_ok {K : PySem.W.Frag} {mg : PySem.Str → Option Value} {h : Heap} (X : K.In h) (G : h.Ns mainGlobals mg) {x : PySem.Str} {id : String} (c : bnB x id K = true) : mg x = some (.builtin id) := PySem.W.mg_of X G (He.eqO_ok c)
def excB (x : PySem.Str) : Chk := fun K => He.eqO (PySem.W.findIn K (.ref (He.ga K x)) "__class__") (some (some (.builtin "object.__class__"))) && decide (PySem.W.mroIn K (He.ga K x) (.type "object") = some true)
theorem excB_ok {K : PySem.W.Frag} {x : PySem.Str} (top : topB K = true) (f : XfC K (He.ga K x)) (c : excB x K = true) : ExcC K (He.ga K x) := by
  obtain ⟨t1, t2⟩ := Bool.and_eq_true_iff.mp top
  obtain ⟨c1, c2⟩ := Bool.and_eq_true_iff.mp c
  exact ⟨f.ga, f.gg, f.exC, f.hdC, He.eqO_ok c1, He.eqO_ok t1, of_decide_eq_true t2, of_decide_eq_true c2⟩
/-- an instance of D is none of C -/
def otB (D C : PySem.Str) : Chk := fun K => decide (PySem.W.kitOne K (.ref (He.ga K D)) (.ref (He.ga K C)) = some false) && PySem.W.notFirst K (He.ga K C) (.ref (He.ga K D))
theorem otB_ok {K : PySem.W.Frag} {D C : PySem.Str} (c : otB D C K = true) : PySem.W.kitOne K (.ref (He.ga K D)) (.ref (He.ga K C)) = some false ∧ PySem.W.notFirst K (He.ga K C) (.ref (He.ga K D)) = true := by
  obtain ⟨c1, c2⟩ := Bool.and_eq_true_iff.mp c
  exact ⟨of_decide_eq_true c1, c2⟩
end GS
/-! Comprehensions of any target; zip of tuples; loops. -/
namespace GS
open PySem PySem.Spec PyProof.Rows L2 TL
theorem walk_zipT {K : PySem.W.Frag} {a b : Addr} {xs ys : List V} {n : Nat} (hn : n = min xs.length ys.length) : Walk (RZ.ItzT K a b) n (fun H => SqT K H a xs ∧ SqT K H b ys) (YPair (fun i => xs[i]?) (fun i => ys[i]?)) := by
  subst hn
  refine ⟨fun i _ hi q => ?_, fun _ q => ⟨xs, ys, q.1, q.2, by omega⟩, fun i H v H' _ q y => ?_⟩
  · have h1 : i < xs.length := by omega
    have h2 : i < ys.length := by omega
    exact ⟨xs, ys, xs[i], ys[i], q.1, q.2, by simp [h1], by simp [h2]⟩
  · obtain ⟨T, x, z, h1, h2, h3, h4, h5⟩ := y
    exact ⟨T, x, z, h1, h2, h3, h4 xs q.1, h5 ys q.2⟩
theorem r_zipA {K : PySem.W.Frag} {ta : TA} {σ : L2.St} {H : Hp} {R : It → Hp → Prop} (q : ta σ H fun vs H1 => ∃ a b xs ys, vs = [.ref a, .ref b] ∧ ((SqL K H1 a xs ∧ SqL K H1 b ys ∧ R (Itz K a b) H1) ∨ (SqT K H1 a xs ∧ SqT K H1 b ys ∧ R (RZ.ItzT K a b) H1))) : RZ.iZipA K ta σ H R := q
theorem walk_enumT' {K : PySem.W.Frag} {a : Addr} {xs : List V} {n : Nat} (h : xs.length = n) : Walk (IteT K a) n (fun H => SqT K H a xs) (YPair (fun i => some (.int (i : Nat))) (fun i => xs[i]?)) := by subst h; exact walk_enumT
/-- what is wished behind list(..), tuple(..) -/
def listK (K : PySem.W.Frag) (Q : VK) : List V → Hp → Prop := fun xs H => ∃ p ys, xs = [V.ref p] ∧ (SqL K H p ys ∨ SqT K H p ys) ∧ ∀ (l : Addr), H l = none → Q (.ref l) (upd H l (.lst ys))
theorem r_cbList {K : PySem.W.Frag} {tr : TA} {σ : L2.St} {H : Hp} {Q : VK} (q : tr σ H (listK K Q)) : tCB (fun xs H Q => ∃ p ys, xs = [V.ref p] ∧ (SqL K H p ys ∨ SqT K H p ys) ∧ ∀ (l : Addr), H l = none → Q (.ref l) (upd H l (.lst ys))) tr σ H Q := q
theorem r_list {K : PySem.W.Frag} {Q : VK} {H : Hp} {a : Addr} {xs : List V} (h : SqL K H a xs ∨ SqT K H a xs) (q : ∀ l H', H l = none → Ex H H' → H' l = some (.lst xs) → Q (.ref l) H') : listK K Q [.ref a] H :=
  ⟨a, xs, rfl, h, fun l hl => q l _ hl (Ex.new hl) upd_same⟩
def tupK (K : PySem.W.Frag) (Q : VK) : List V → Hp → Prop := fun xs H => ∃ p ys, xs = [V.ref p] ∧ ((SqL K H p ys ∧ ∀ (l : Addr), H l = none → Q (.ref l) (upd H l (.tup ys))) ∨ SqT K H p ys ∧ Q (.ref p) H)
theorem r_cbTup {K : PySem.W.Frag} {tr : TA} {σ : L2.St} {H : Hp} {Q : VK} (q : tr σ H (tupK K Q)) : tCB (fun xs H Q => ∃ p ys, xs = [V.ref p] ∧ ((SqL K H p ys ∧ ∀ (l : Addr), H l = none → Q (.ref l) (upd H l (.tup ys))) ∨ SqT K H p ys ∧ Q (.ref p) H)) tr σ H Q := q
theorem r_tupL {K : PySem.W.Frag} {Q : VK} {H : Hp} {a : Addr} {xs : List V} (h : SqL K H a xs) (q : ∀ l H', H l = none → Ex H H' → H' l = some (.tup xs) → Q (.ref l) H') : tupK K Q [.ref a] H :=
  ⟨a, xs, rfl, .inl ⟨h, fun l hl => q l _ hl (Ex.new hl) upd_same⟩⟩
theorem r_sl {r : V → Option Int → Option Int → Hp → VK → Prop} {te : TE} {tl th : TO} {σ : L2.St} {H : Hp} {Q : VK} (q : te σ H fun x H1 => tl σ H1 fun l H2 => th σ H2 fun u H3 => r x l u H3 Q) : tSl r te tl th σ H Q := q
theorem r_noPart {σ : L2.St} {H : Hp} {R : Option Int → Hp → Prop} (q : R none H) : tNoPart σ H R := q
theorem r_part {te : TE} {σ : L2.St} {H : Hp} {R : Option Int → Hp → Prop} (q : te σ H fun x H1 => ∃ i, x = .int i ∧ R (some i) H1) : tPart te σ H R := q
theorem r_iR2 {ta : TA} {σ : L2.St} {H : Hp} {R : It → Hp → Prop} (q : ta σ H fun vs H1 => ∃ i j : Int, vs = [.int i, .int j] ∧ (-(2 ^ 62) ≤ i ∧ i < 2 ^ 62 ∧ -(2 ^ 62) ≤ j ∧ j < 2 ^ 62) ∧ R (Itr i (j - i).toNat) H1) : iRng2 ta σ H R := q
theorem r_iR3 {ta : TA} {σ : L2.St} {H : Hp} {R : It → Hp → Prop} (q : ta σ H fun vs H1 => ∃ (i j c : Int) (n : Nat), vs = [.int i, .int j, .int c] ∧ RgC i j c n ∧ R (Itc i c n) H1) : iRng3 ta σ H R := q
/-- any target, no test; what is known of the items by the turn -/
theorem r_lcP {J : It} {n : Nat} {G : Hp → Prop} {Y : Nat → Hp → V → Hp → Prop} {g : TG} {vs : List Nat} {te : TE} {σ : L2.St} {H1 : Hp} {Q : VK} (w : Walk J n G Y) (P : Addr → Nat → List V → Hp → Prop) (hn : n ≤ 50000) (hG : ∀ H' : Hp, Ex H1 H' → G H')
    (h0 : ∀ D H, Ex H1 H → P D 0 [] H) (mono : ∀ D i ys H H', P D i ys H → Bu D H H' → P D i ys H')
    (step : ∀ D i x ys H H', i < n → H1 D = none → Ex H1 H → H D = some (.lst ys) → P D i ys H → Y i H x H' → ∀ N : VK, (∀ y H4, Ex H H4 → P D (i + 1) (ys ++ [y]) H4 → N y H4) → g x (wipe σ vs) H' fun σ2 H2 => wipe σ2 vs = wipe σ vs ∧ te σ2 H2 N)
    (q : ∀ D ys H', H1 D = none → Ex H1 H' → H' D = some (.lst ys) → ys.length = n → P D n ys H' → Q (.ref D) H') : lcB J g tYes te vs σ Q H1 := by
  intro D hD
  refine lc_it w (fun i H => Ex H1 H ∧ ∃ ys, H D = some (.lst ys) ∧ ys.length = i ∧ P D i ys H) ⟨Ex.mut (Ex.refl _) hD, [], upd_same, rfl, h0 D _ (Ex.mut (Ex.refl _) hD)⟩ (fun i H _ p => hG H p.1) ?_ (fun H p => let ⟨ys, h1, h2, h3⟩ := p.2; q D ys H hD p.1 h1 h2 h3)
  intro i x H H' hi p y
  obtain ⟨p1, ys, p2, p3, p4⟩ := p
  refine step D i x ys H H' hi hD p1 p2 p4 y _ fun z H4 e4 hp4 => ⟨ys, e4 _ _ p2, sz_lt (by omega), Ex.mut (p1.trans e4) hD, ys ++ [z], upd_same, (by rw [List.length_append, p3]; rfl), mono D _ _ _ _ hp4 Bu.upd⟩
/-- the items are integers -/
theorem r_lcZ {J : It} {n : Nat} {G : Hp → Prop} {Y : Nat → Hp → V → Hp → Prop} {g : TG} {vs : List Nat} {te : TE} {σ : L2.St} {H1 : Hp} {Q : VK} (w : Walk J n G Y) (r : List Int) (hr : r.length = n) (hn : n ≤ 50000) (hG : ∀ H' : Hp, Ex H1 H' → G H')
    (step : ∀ i x H H', i < n → Ex H1 H → Y i H x H' → ∀ N : VK, (∀ H4, Ex H H4 → N (.int (r.getD i 0)) H4) → g x (wipe σ vs) H' fun σ2 H2 => wipe σ2 vs = wipe σ vs ∧ te σ2 H2 N)
    (q : ∀ D H', H1 D = none → Ex H1 H' → H' D = some (.lst (r.map V.int)) → Q (.ref D) H') : lcB J g tYes te vs σ Q H1 := by
  refine r_lcP w (fun _ i ys _ => ys = (r.take i).map V.int) hn hG (fun _ _ _ => rfl) (fun _ _ _ _ _ h _ => h) ?_ (fun D ys H' h1 h2 h3 h4 h5 => q D H' h1 h2 ?_)
  · intro D i x ys H H' hi hD e hd hp y N hN
    refine step i x H H' hi e y N fun H4 e4 => hN _ H4 e4 ?_
    have : i < r.length := by omega
    rw [hp, List.take_add_one, List.getElem?_eq_getElem this, List.map_append]
    congr 1
    simp [this]
  · rw [h3, h5, ← hr, List.take_length]
/-- any target, no test; the heap may change as it likes -/
theorem r_lcG {J : It} {n : Nat} {G : Hp → Prop} {Y : Nat → Hp → V → Hp → Prop} {g : TG} {vs : List Nat} {te : TE} {σ : L2.St} {H1 : Hp} {Q : VK} (w : Walk J n G Y) (P : Addr → Nat → List V → Hp → Prop) (hn : n ≤ 50000) (hG : ∀ D i ys H, P D i ys H → G H)
    (h0 : ∀ D, H1 D = none → P D 0 [] (upd H1 D (.lst []))) (mono : ∀ D i ys H o, H1 D = none → P D i ys H → P D i ys (upd H D o))
    (step : ∀ D i x ys H H', i < n → H1 D = none → H D = some (.lst ys) → ys.length = i → P D i ys H → Y i H x H' → ∀ N : VK, (∀ y H4, H4 D = some (.lst ys) → P D (i + 1) (ys ++ [y]) H4 → N y H4) → g x (wipe σ vs) H' fun σ2 H2 => wipe σ2 vs = wipe σ vs ∧ te σ2 H2 N)
    (q : ∀ D ys H', H1 D = none → H' D = some (.lst ys) → ys.length = n → P D n ys H' → Q (.ref D) H') : lcB J g tYes te vs σ Q H1 := by
  intro D hD
  refine lc_it w (fun i H => ∃ ys, H D = some (.lst ys) ∧ ys.length = i ∧ P D i ys H) ⟨[], upd_same, rfl, h0 D hD⟩ (fun i H _ p => let ⟨ys, _, _, h⟩ := p; hG D i ys H h) ?_ (fun H p => let ⟨ys, h1, h2, h3⟩ := p; q D ys H hD h1 h2 h3)
  intro i x H H' hi p y
  obtain ⟨ys, p2, p3, p4⟩ := p
  refine step D i x ys H H' hi hD p2 p3 p4 y _ fun z H4 h4 hp4 => ⟨ys, h4, sz_lt (by omega), ys ++ [z], upd_same, (by rw [List.length_append, p3]; rfl), mono D _ _ _ _ hD hp4⟩
/-! ### the bag's own list stays -/
def Bg (p : Addr) (H H' : Hp) : Prop := Bu p H H' ∧ ∀ L x y, H p = some (.lst [.ref L, x, y]) → ∃ x' y', H' p = some (.lst [.ref L, x', y'])
theorem Bg.refl (p : Addr) (H : Hp) : Bg p H H := ⟨Bu.refl p H, fun _ x y h => ⟨x, y, h⟩⟩
theorem Bg.trans {p : Addr} {H H1 H2 : Hp} (a : Bg p H H1) (b : Bg p H1 H2) : Bg p H H2 := ⟨a.1.trans b.1, fun L x y h => let ⟨x', y', h'⟩ := a.2 L x y h; b.2 L x' y' h'⟩
theorem Bg.of {p : Addr} {H H' : Hp} (e : Ex H H') : Bg p H H' := ⟨Bu.of e, fun _ x y h => ⟨x, y, e _ _ h⟩⟩
theorem Bg.at_ {p b : Addr} {H H' : Hp} {o : HO} (e : Bg p H H') (n : b ≠ p) (h : H b = some o) : H' b = some o := e.1 b o n h
theorem Bg.updD {p D : Addr} {H1 H : Hp} {o : HO} {n0 : Int} (e : Bg p H1 H) (hb : Bag H1 p n0) (hD : H1 D = none) : Bg p H1 (upd H D o) := by
  obtain ⟨L, xs, a, l, h1, _⟩ := hb.is
  have np : p ≠ D := by rintro rfl; rw [hD] at h1; cases h1
  refine ⟨fun b u n hb => ?_, fun L x y h => ?_⟩
  · rw [upd_ne (by rintro rfl; rw [hD] at hb; cases hb)]
    exact e.1 b u n hb
  · rw [upd_ne np]
    exact e.2 L x y h
theorem Bag.updD {p D : Addr} {H1 H : Hp} {o : HO} {n0 n : Int} (hb : Bag H p n) (hb1 : Bag H1 p n0) (e : Bg p H1 H) (hD : H1 D = none) : Bag (upd H D o) p n := by
  obtain ⟨L1, xs1, a1, l1, h1, hL1, ne1, _⟩ := hb1.is
  obtain ⟨L, xs, a, l, h, hL, ne, r⟩ := hb.is
  obtain ⟨x', y', h'⟩ := e.2 L1 _ _ h1
  rw [h] at h'
  cases h'
  have np : p ≠ D := by rintro rfl; rw [hD] at h1; cases h1
  have nL : L1 ≠ D := by rintro rfl; rw [hD] at hL1; cases hL1
  exact ⟨L1, xs, a, l, by rw [upd_ne np]; exact h, by rw [upd_ne nL]; exact hL, ne, r⟩
/-- what a draw promises -/
def spDrawG : Sp := sp2 fun b m H Q _ => ∃ p m' n, b = .ref p ∧ m = .int m' ∧ 0 < m' ∧ Z 1000 m' ∧ n ≤ 100000 ∧ Bag H p n ∧ ∀ r H', 0 ≤ r → r < m' → Bg p H H' → Bag H' p (n + 1) → Q (.int r) H'
theorem r_DrawG {H : Hp} {Q : VK} {E : XK} {p : Addr} {m n : Int} (hb : Bag H p n) (hn : n ≤ 100000) (h0 : 0 < m) (hm : Z 1000 m) (k : ∀ r H', 0 ≤ r → r < m → Bg p H H' → Bag H' p (n + 1) → Q (.int r) H') : spDrawG ([.ref p, .int m] ++ []) H Q E :=
  ⟨p, m, n, rfl, rfl, h0, hm, hn, hb, k⟩
end GS
/-! x == y, x of a built-in kind, y an instance with an own __eq__. -/
namespace GS
open PySem PySem.Spec PyProof.Rows L2 TL
section
variable {prog : Program} {w : World} {A : Around} {E : Value → Shared → Prop} {s : Shared} {p C dx : Addr} {Q : Value → Shared → Prop}
theorem dec_int {i : Int} {t : Tok} (h : s.heap.get? p = some (PySem.W.instObj C dx)) (q : Q .notImplemented s) : wpAny (model prog w) A (call (.builtin "int.__eq__") [.int i t, .ref p]) Q E s := by
  refine GQ.call_here F.slot_int_eq (typeIs_int s i t) F.entry_int_eq (F.args_int_eq_2 _ _) ?_
  obtain ⟨hp, g, d, tk, os⟩ := s
  wp_walk using AutoSeq1.wpAny_loadPart' h
  exact q
theorem dec_str {i : Str} {t : Tok} (h : s.heap.get? p = some (PySem.W.instObj C dx)) (q : Q .notImplemented s) : wpAny (model prog w) A (call (.builtin "str.__eq__") [.str i t, .ref p]) Q E s := by
  refine GQ.call_here F.slot_str_eq (typeIs_str s i t) F.entry_str_eq (F.args_str_eq_2 _ _) ?_
  obtain ⟨hp, g, d, tk, os⟩ := s
  wp_walk using AutoSeq1.wpAny_loadPart' h
  exact q
theorem dec_none (q : Q .notImplemented s) : wpAny (model prog w) A (call (.builtin "NoneType.__eq__") [.none, .ref p]) Q E s := by
  refine GQ.call_here F.slot_NoneType_eq (show s.TypeIs .none "NoneType" from rfl) F.entry_NoneType_eq (F.args_NoneType_eq_2 _ _) ?_
  obtain ⟨hp, g, d, tk, os⟩ := s
  wp_walk
  exact q
theorem dec_list {l : Addr} (h : s.heap.get? p = some (PySem.W.instObj C dx)) (hl : ∃ o, s.heap.get? l = some o ∧ o.cls = .type "list") (hs : PySem.W.Looks (model prog w) s.heap (isSubtype (.ref C) (.type "list")) false) (q : Q .notImplemented s) : wpAny (model prog w) A (call (.builtin "list.__eq__") [.ref l, .ref p]) Q E s := by
  refine GQ.call_here F.slot_list_eq hl F.entry_list_eq (F.args_list_eq_2 _ _) ?_
  obtain ⟨hp, g, d, tk, os⟩ := s
  have sub : ∀ {A' : Around} {E' : Value → Shared → Prop} {Q' : Bool → Shared → Prop}, Q' false ⟨hp, g, d, tk, os⟩ → wpAny (model prog w) A' (isSubtype (.ref C) (.type "list")) Q' E' ⟨hp, g, d, tk, os⟩ := fun q => hs.here q
  wp_walk using AutoSeq1.wpAny_loadPart' h, sub
  exact q
theorem dec_tuple {l : Addr} (h : s.heap.get? p = some (PySem.W.instObj C dx)) (hl : ∃ o, s.heap.get? l = some o ∧ o.cls = .type "tuple") (hs : PySem.W.Looks (model prog w) s.heap (isSubtype (.ref C) (.type "tuple")) false) (q : Q .notImplemented s) : wpAny (model prog w) A (call (.builtin "tuple.__eq__") [.ref l, .ref p]) Q E s := by
  refine GQ.call_here F.slot_tuple_eq hl F.entry_tuple_eq (F.args_tuple_eq_2 _ _) ?_
  obtain ⟨hp, g, d, tk, os⟩ := s
  have sub : ∀ {A' : Around} {E' : Value → Shared → Prop} {Q' : Bool → Shared → Prop}, Q' false ⟨hp, g, d, tk, os⟩ → wpAny (model prog w) A' (isSubtype (.ref C) (.type "tuple")) Q' E' ⟨hp, g, d, tk, os⟩ := fun q => hs.here q
  wp_walk using AutoSeq1.wpAny_loadPart' h, sub
  exact q
/-- the left side declines, the right one has an own __eq__ -/
theorem cmp_refl {K : PySem.W.Frag} {h₀ : Heap} {L f : Addr} {m : Str → Option Value} {od : Option Obj} {ox : Obj} {a : Value} {Ta id : String} (hu : A.units < cLine) (F : Fr h₀ L s.heap m) (X₀ : K.In h₀) (I : PySem.W.InstAt s.heap p ox C od)
    (ha : s.TypeIs a Ta) (slot : Slot Ta (cmpInfo .Eq).2.1 id) (hsub : PySem.W.Looks (model prog w) s.heap (isSubtype (.ref C) (.type Ta)) false) (hs : PySem.W.findIn K (.ref C) (cmpInfo .Eq).2.2 = some (some (.ref f))) (hf : PySem.W.isFn K (.ref f) = true)
    (dec : wpAny (model prog w) A (call (.builtin id) [a, .ref p]) (fun v s' => v = .notImplemented ∧ s' = s) E s)
    (h : wpAny (model prog w) A (call (.ref f) [.ref p, a]) (PySem.W.CmpBack Q) E s) : wpAny (model prog w) A (richCompare .Eq a (.ref p)) Q E s := by
  have X := X₀.keeps F.keep
  have one : wpAny (model prog w) A (tryCompare (.ref p) (cmpInfo .Eq).2.2 a) (fun r s' => ∃ v, r = some v ∧ Q v s') E s := by
    unfold tryCompare
    refine wpAny_bind (PySem.W.ifBound_K X I hs hf (wpAny_mono h (fun v s' hv => ?_) fun _ _ e => e))
    cases v <;> first | exact hv.elim | exact wpAny_pure ⟨_, rfl, hv⟩
  unfold richCompare
  simp only [ha.oneThing_none]
  refine wpAny_holding (wpAny_bind (wpAny_cRoomFor hu ?_))
  refine wpAny_bind (wpAny_typeOf ha (wpAny_bind (I.type.here ?_)))
  rw [if_pos (show (Value.type Ta != Value.ref C) = true from rfl)]
  refine wpAny_bind (hsub.here ?_)
  simp only [Bool.false_eq_true, if_false, Bool.not_false, if_true]
  refine wpAny_bind (m := tryCompare a _ (.ref p)) (wpAny_tryCompare_declines ha slot (wpAny_mono dec (fun v s' z => ?_) fun _ _ e => e))
  obtain ⟨rfl, rfl⟩ := z
  refine ⟨rfl, ?_⟩
  refine wpAny_bind (wpAny_mono one (fun r s' z => ?_) fun _ _ e => e)
  obtain ⟨v, rfl, hq⟩ := z
  exact wpAny_pure hq
end
/-- a value of a built-in kind that declines -/
inductive LeftV (H : Hp) : V → Prop
  | non : LeftV H .non
  | int (i : Int) : LeftV H (.int i)
  | str (z : Str) : LeftV H (.str z)
  | lst {a : Addr} {xs : List V} (h : H a = some (.lst xs)) : LeftV H (.ref a)
  | tup {a : Addr} {xs : List V} (h : H a = some (.tup xs)) : LeftV H (.ref a)
section
variable {X : Cx}
def rEqR (C : Addr) (sp : Sp) (E : XK) : R2 := fun x y H Q => ∃ a dx fs, y = .ref a ∧ H a = some (.ins C dx fs) ∧ LeftV H x ∧ sp [y, x] H Q E
theorem op_eqR {CX : CXT} {k : Nat} {C f : Addr} {fd : FuncData} {ps : List Str} {sp : Sp} {E : XK} (Fn : FnOk X.prog X.w X.K X.mg X.base CX k f fd ps sp) (hr : Room k X.A)
    (no : ∀ T ∈ ["int", "str", "NoneType", "list", "tuple"], PySem.W.kitOne X.K (.ref C) (.type T) = some false)
    (hs : PySem.W.findIn X.K (.ref C) "__eq__" = some (some (.ref f))) (hf : PySem.W.isFn X.K (.ref f) = true) (hb : Binds X.K fd ps []) (hx : Passes CX X E) : OpR X (compareOp .Eq) (rEqR C sp E) := by
  intro pins s σ H x y v u Q I rx ry hq
  obtain ⟨a, dx, fs, rfl, ha, lv, hsp⟩ := hq
  cases ry
  obtain ⟨mA, O, _⟩ := ins_get I.hok ha
  obtain ⟨od, J, _⟩ := O.look
  obtain ⟨m, hF⟩ := I.fr
  show wpAny (model X.prog X.w) X.A (richCompare .Eq v (.ref a)) (EP X pins σ Q) X.xe s
  have sub : ∀ T ∈ ["int", "str", "NoneType", "list", "tuple"], PySem.W.Looks (model X.prog X.w) s.heap (isSubtype (.ref C) (.type T)) false := fun T hT => by
    have e := no T hT
    unfold PySem.W.kitOne at e
    have ne : (Value.ref C == Value.type T) = false := by rfl
    rw [ne, if_neg Bool.false_ne_true] at e
    exact (PySem.W.kit_cls I.kIn e).2.2
  have fin : wpAny (model X.prog X.w) X.A (call (.ref f) [.ref a, v]) (PySem.W.CmpBack (EP X pins σ Q)) X.xe s := by
    refine wpAny_mono (run_at Fn hr rfl hb hx I (.cons (show L2.RelV (V.ref a) (Value.ref a) from rfl) (.cons rx .nil)) hsp) (fun v s' hv => ?_) fun _ _ z => z
    cases v <;> first | exact hv | (obtain ⟨w, _, _, z, _⟩ := hv; exact (notImpl_no z).elim)
  have O' : s.heap.get? a = some (PySem.W.instObj C dx) := O.1
  cases lv with
  | non =>
    cases (show v = Value.none from rx)
    exact cmp_refl hr.units0 hF I.ok.mod.kin J (show s.TypeIs .none "NoneType" from rfl) F.slot_NoneType_eq (sub _ (by decide)) hs hf (dec_none ⟨rfl, rfl⟩) fin
  | int i =>
    obtain ⟨t, e⟩ := (show ∃ t, v = Value.int i t from rx)
    subst e
    exact cmp_refl hr.units0 hF I.ok.mod.kin J (typeIs_int s i t) F.slot_int_eq (sub _ (by decide)) hs hf (dec_int O' ⟨rfl, rfl⟩) fin
  | str i =>
    obtain ⟨t, e⟩ := (show ∃ t, v = Value.str i t from rx)
    subst e
    exact cmp_refl hr.units0 hF I.ok.mod.kin J (typeIs_str s i t) F.slot_str_eq (sub _ (by decide)) hs hf (dec_str O' ⟨rfl, rfl⟩) fin
  | @lst b xs h =>
    cases (show v = Value.ref b from rx)
    obtain ⟨its, r, hl, _⟩ := I.list (show SqL X.K H b xs from SqL.of h)
    obtain ⟨o, ho, hc, _⟩ := hl.isList
    have tl : ∃ o, s.heap.get? b = some o ∧ o.cls = .type "list" := ⟨_, ho, hc⟩
    exact cmp_refl hr.units0 hF I.ok.mod.kin J tl F.slot_list_eq (sub _ (by decide)) hs hf (dec_list O' tl (sub _ (by decide)) ⟨rfl, rfl⟩) fin
  | @tup b xs h =>
    cases (show v = Value.ref b from rx)
    obtain ⟨its, r, hl, _⟩ := I.tuple (show SqT X.K H b xs from SqT.of h)
    obtain ⟨o, ho, hc, _⟩ := hl
    have tl : ∃ o, s.heap.get? b = some o ∧ o.cls = .type "tuple" := ⟨_, ho, hc⟩
    exact cmp_refl hr.units0 hF I.ok.mod.kin J tl F.slot_tuple_eq (sub _ (by decide)) hs hf (dec_tuple O' tl (sub _ (by decide)) ⟨rfl, rfl⟩) fin
theorem op_or {op : Value → Value → Sem Value} {r1 r2 : R2} (h1 : OpR X op r1) (h2 : OpR X op r2) : OpR X op fun x y H Q => r1 x y H Q ∨ r2 x y H Q := fun pins s σ H x y v u Q I rx ry h => h.elim (h1 pins s σ H x y v u Q I rx ry) (h2 pins s σ H x y v u Q I rx ry)
theorem kx_eqOwn {K : PySem.W.Frag} (h : X.K = K) {CX : CXT} {k : Nat} {C f : Addr} {fd : FuncData} {ps : List Str} {sp : Sp} {E : XK} (F : FnOk X.prog X.w X.K X.mg X.base CX k f fd ps sp) (hr : Room k X.A)
    (hs : PySem.W.findIn X.K (.ref C) "__eq__" = some (some (.ref f))) (hf : PySem.W.isFn X.K (.ref f) = true) (hb : Binds X.K fd ps []) (hx : Passes CX X E) : OpR X (compareOp .Eq) (rEqOwn K C sp E) := by
  subst h
  exact op_eqOwn F hr hs hf hb hx
theorem kx_catT {K : PySem.W.Frag} (h : X.K = K) : OpR X (binaryOp .Add) (rCatT K) := by subst h; exact op_catT
end
end GS
/-! Texts of data where nothing is being shown (the guards are told); whole roots. -/
namespace GS
open PySem PySem.Spec PyProof.Rows L2
/-! ### whole roots -/
def rRoot : List V → Hp → VK → Prop := fun vs H Q => ∃ i : Int, vs = [.int i] ∧ 0 ≤ i ∧ i.toNat.log2 < 13000 ∧ ∀ r : Nat, r * r ≤ i.toNat → i.toNat < (r + 1) * (r + 1) → Q (.int (r : Int)) H
theorem cr_root {X : Cx} : CallR X (.builtin "math.isqrt") rRoot := by
  intro pins s σ H vs us Q I r h
  obtain ⟨i, rfl, h0, hz, q⟩ := h
  obtain ⟨u, rfl, t, rfl⟩ := vals1 r
  have sp := Float64.isqrt_spec i.toNat
  exact call_function_meets PySem.W.MGF.kind_isqrt PySem.W.MGF.plain_isqrt PySem.W.MGF.entry_isqrt (PySem.W.MGF.args_isqrt _) (PySem.W.mg_run_isqrt i t (by omega) (by omega) (by omega)).meets ⟨.int _, H, I.tok _, ⟨_, rfl⟩, q _ sp.1 sp.2⟩
/-! ### data -/
mutual
inductive Dat (K : PySem.W.Frag) (H : Hp) : V → PyData → Prop
  | non : Dat K H .non .none
  | bl (b : Bool) : Dat K H (.bl b) (.bool b)
  | int (i : Int) : Dat K H (.int i) (.int i)
  | str (x : Str) : Dat K H (.str x) (.str x)
  | lst {a : Addr} {xs : List V} {ds : List PyData} : SqL K H a xs → Dats K H xs ds → Dat K H (.ref a) (.list ds)
  | tup {a : Addr} {xs : List V} {ds : List PyData} : SqT K H a xs → Dats K H xs ds → Dat K H (.ref a) (.tuple ds)
inductive Dats (K : PySem.W.Frag) (H : Hp) : List V → List PyData → Prop
  | nil : Dats K H [] []
  | cons {x : V} {xs : List V} {d : PyData} {ds : List PyData} : Dat K H x d → Dats K H xs ds → Dats K H (x :: xs) (d :: ds)
end
section
variable {X : Cx} {pins : List (Addr × Obj)} {σ : L2.St} {H : Hp} {s : Shared}
mutual
theorem Dat.reads (I : Inv X pins σ H s) : ∀ {x : V} {d : PyData}, Dat X.K H x d → ∀ {v : Value}, RelV x v → ∃ as, Reads s.heap v d as
  | _, _, .non, v, r => ⟨[], by cases (show v = Value.none from r); exact .none⟩
  | _, _, .bl b, v, r => ⟨[], by cases (show v = Value.bool b from r); exact .bool b⟩
  | _, _, .int i, v, r => ⟨[], by obtain ⟨t, e⟩ := (show ∃ t, v = Value.int i t from r); cases e; exact .int i t⟩
  | _, _, .str x, v, r => ⟨[], by obtain ⟨t, e⟩ := (show ∃ t, v = Value.str x t from r); cases e; exact .str x t⟩
  | _, _, .lst (a := a) hs hd, v, r => by
    cases (show v = Value.ref a from r)
    obtain ⟨its, rv, ⟨o, n, e, hc, _, ho⟩, _⟩ := I.list hs
    obtain ⟨as, ra⟩ := Dats.reads I hd rv
    exact ⟨_, .list e hc ho ra⟩
  | _, _, .tup (a := a) hs hd, v, r => by
    cases (show v = Value.ref a from r)
    obtain ⟨its, rv, ⟨o, e, hc, n, ho⟩, _⟩ := I.tuple hs
    obtain ⟨as, ra⟩ := Dats.reads I hd rv
    exact ⟨_, .tuple e hc ho ra⟩
theorem Dats.reads (I : Inv X pins σ H s) : ∀ {xs : List V} {ds : List PyData}, Dats X.K H xs ds → ∀ {us : List Value}, Vals xs us → ∃ as, ReadsAll s.heap us ds as
  | _, _, .nil, us, r => by cases r; exact ⟨_, .nil⟩
  | _, _, .cons hx ht, us, r => by
    cases r with
    | cons r1 r2 =>
      obtain ⟨a1, k1⟩ := Dat.reads I hx r1
      obtain ⟨a2, k2⟩ := Dats.reads I ht r2
      exact ⟨_, .cons k1 k2⟩
end
end
theorem Dats.ints {K : PySem.W.Frag} {H : Hp} : ∀ ns : List Int, Dats K H (ns.map V.int) (ns.map PyData.int)
  | [] => .nil
  | n :: ns => .cons (.int n) (Dats.ints ns)
theorem Dats.bools {K : PySem.W.Frag} {H : Hp} : ∀ ns : List Bool, Dats K H (ns.map V.bl) (ns.map PyData.bool)
  | [] => .nil
  | n :: ns => .cons (.bl n) (Dats.bools ns)
/-- repr(x), x any list or tuple of data -/
def rShow (K : PySem.W.Frag) : List V → Hp → VK → Prop := fun vs H Q => ∃ (a : Addr) (d : PyData), vs = [.ref a] ∧ Dat K H (.ref a) d ∧ d.showable = true ∧ d.hasDict = false ∧ d.shown.length ≤ sizeLine ∧ d.depth ≤ 60 ∧ Q (.str d.shown) H
theorem cr_show {X : Cx} (hg : X.A.guards = some []) (hu : X.A.units + 64 < cLine) : CallR X (.builtin "repr") (rShow X.K) := by
  intro pins s σ H vs us Q I r h
  obtain ⟨a, d, rfl, hd, h1, h2, h3, h4, q⟩ := h
  obtain ⟨u, rfl, rv⟩ := vals1 r
  cases (show u = Value.ref a from rv)
  obtain ⟨as, rd⟩ := hd.reads I (v := .ref a) rfl
  exact repr_of_reads' rd h1 (fun z => by rw [h2] at z; cases z) hg (by omega) (fun _ _ e => e) (fun h' u tk k => ⟨.str d.shown, H, I.kept k, ⟨u, rfl⟩, q⟩) h3
/-- two texts of data are alike where the data are -/
theorem show_eq {d e : PyData} (h : d = e) : d.shown = e.shown := by rw [h]
end GS
/-! Defs that are called where nothing is being shown. -/
namespace GS
open PySem PySem.Spec PyProof.Rows L2
/-- what a def keeps to, where nothing is being shown -/
structure FnG (P : Program) (w : World) (K : PySem.W.Frag) (mg : PySem.Str → Option Value) (base : Heap) (CX : CXT) (k : Nat) (f : Addr) (fd : FuncData) (ps : List PySem.Str) (sp : Sp) : Prop where
  wide : ∀ vs H Q E, sp vs H Q E → vs.length = ps.length
  goes : ∀ (A : Around), A.guards = some [] → Room k A → ∀ (outer : List Env) (s : Shared) (H : Hp) (args : Args) (us : List Value) (vs : List V) (Q : VK) (E : XK),
    Env0 P w K mg base A outer s H → BindsTo s fd args (ps.zip us) → Vals vs us → sp vs H Q E → codeAny (model P w) A (.call (.ref f) args) (CR CX outer P w H s Q E) s
section
variable {P : Program} {w : World} {K : PySem.W.Frag} {mg : PySem.Str → Option Value} {base : Heap} {CX : CXT} {k : Nat} {f : Addr} {fd : FuncData} {ps : List PySem.Str} {sp : Sp}
theorem FnG.of (F : FnOk P w K mg base CX k f fd ps sp) : FnG P w K mg base CX k f fd ps sp :=
  ⟨F.len, fun A _ room outer s H args us vs Q E e b v q => F.run A outer s H args us vs Q E room e b v q⟩
theorem guards_deeper {A : Around} {env : Env} (h : A.guards = some []) : (A.deeper env).guards = some [] := h
theorem end_of {A : Around} {outer : List Env} {s : Shared} {H : Hp} {E : XK} {cx : Cx} {Q : VK} (e1 : cx.s_0 = s) (e2 : cx.H_0 = H) (e3 : cx.prog = P) (e4 : cx.w = w) (e5 : cx.fs = frs outer) (e6 : cx.ex = []) {σ' : L2.St} {H' : Hp} {s' : Shared} {v : V} {u : Value}
    (J : Inv cx [] σ' H' s') (rv : RelV v u) (q : Q v H') : CE outer P w H s Q u s' := by
  subst e1 e2 e3 e4
  refine ⟨v, H', J.os, J.bare, ?_, J.hok, rv, q⟩
  have b := J.base
  rw [e5, e6] at b
  exact b
theorem okG {x qual : PySem.Str} {params : Arguments} {body : List Stmt} {scope : Scope} {dvs : List V} {kws : List (PySem.Str × V)} {N : List PySem.Str} (F : FunD K x qual params body scope dvs kws f fd) (S : FnScope N ps scope) (wide : ∀ vs H Q E, sp vs H Q E → vs.length = ps.length)
    (text : ∀ (cdv : Value) (A : Around) (outer : List Env) (s : Shared) (H : Hp) (vs : List V) (Q : VK) (E : XK), A.guards = some [] → Room k (A.deeper (envOfC qual scope s.heap.objs.size f cdv)) → sp vs H Q E →
      ∃ t, PSs (cxOf CX P w K mg base N qual scope f cdv A outer s H E) body t ∧ t { nx := fun _ H' => Q .non H', rt := Q } (start N vs) H) : FnG P w K mg base CX (k + 1) f fd ps sp := by
  obtain ⟨oc, od, dV, kV, doc, pm, an, cdv, ct, osl, rfl, known, code, -, -⟩ := F.ex
  refine ⟨wide, fun A quiet room outer s H args us vs Q E e bind same want => ?_⟩
  have stays : ∀ b o, base.get? b = some o → s.heap.get? b = some o := fun b o z => (e.bs b o z).1
  have inK : K.In s.heap := e.mod.kin.keeps stays
  have free : s.heap.NoLimit := e.mod.nolimit.keeps stays
  refine codeAny_call_function room.depth (inK _ _ known) rfl S.co S.gen rfl (PySem.W.codeRec_of inK code) (bind _ _ _ _ ?_)
  refine wpAny_newFunctionEnv_cells S.kind ?slots fun env made s1 laid => ?run
  case slots =>
    intro y hy
    obtain ⟨n, v⟩ := y
    have hn := (List.of_mem_zip hy).1
    cases S.par n hn with
    | inl z => exact .inl z
    | inr z => exact .inr ⟨z, PySem.W.cellsFrom_some _ _ _ (.inl z)⟩
  case run =>
    subst made
    refine ⟨free.keeps laid.toInCall.keep, codeAny_func ?_⟩
    obtain ⟨t, reads, goal⟩ := text cdv A outer s H vs Q E quiet (room.deeper _) want
    have begun := inv_start (CX := CX) (E := E) S room.hd e (wide _ _ _ _ want) same laid
    refine wpAny_mono (reads.run [] s1 (start N vs) H _ begun goal) (fun way s' z => ?_) fun err s' z => z
    match way, z with
    | .ret u, ⟨v, σ', H', J, rv, q⟩ => exact end_of (A := A) (E := E) rfl rfl rfl rfl rfl rfl J rv q
    | .next, ⟨σ', H', J, q⟩ => exact end_of (A := A) (E := E) (v := V.non) (u := Value.none) rfl rfl rfl rfl rfl rfl J rfl q
    | .brk, ⟨_, _, _, q⟩ => exact False.elim q
    | .cont, ⟨_, _, _, q⟩ => exact False.elim q
end
section
variable {X : Cx} {CX : CXT} {k : Nat} {f : Addr} {fd : FuncData} {ps : List PySem.Str} {sp : Sp} {dvs : List V} {ds : List Value} {E : XK} {x : PySem.Str} {p pos : Pos} {e : Expr} {es : List Expr} {t : TA}
theorem goes_fn {pins : List (Addr × Obj)} {σ : L2.St} {H : Hp} {s : Shared} {Q : VK} {us : List Value} {vs : List V} (F : FnG X.prog X.w X.K X.mg X.base CX k f fd ps sp) (quiet : X.A.guards = some []) (room : Room k X.A) (hb : Binds X.K fd ps ds) (hd : Vals dvs ds) (out : Passes CX X E)
    (I : Inv X pins σ H s) (r : Vals vs us) (want : sp (vs ++ dvs) H Q E) : wpAny (model X.prog X.w) X.A (call (.ref f) us) (EP X pins σ Q) X.xe s := by
  have all := r.append hd
  have many : (us ++ ds).length = ps.length := all.length ▸ F.wide _ _ _ _ want
  refine wpAny_call (codeAny_mono (F.goes X.A quiet room X.stack s H ⟨us, []⟩ (us ++ ds) (vs ++ dvs) Q E I.env0 (hb s us I.kIn many) all want) fun res s' z => ?_)
  match res, z with
  | .error err, z => exact out pins σ H s err s' I z
  | .ok (.ret u), z => exact I.after z
  | .ok .next, z => exact False.elim z
  | .ok .brk, z => exact False.elim z
  | .ok .cont, z => exact False.elim z
theorem pe_callG (F : FnG X.prog X.w X.K X.mg X.base CX k f fd ps sp) (quiet : X.A.guards = some []) (room : Room k X.A) (hg : Gl X x) (hm : X.mg x = some (.ref f)) (hk : PySem.W.keepIn X.K (.ref f) = true) (hb : Binds X.K fd ps ds) (hd : Vals dvs ds) (out : Passes CX X E)
    (ha : PA X (e :: es) t) (hdb : (x == ("__debug__" : PySem.Str)) = false := by decide) (he : starEach (e :: es) X.env = (false, eval e X.env) :: starEach es X.env := by rfl) (hpl : (backTo pos (starEach es X.env)).any (·.1) = false := by rfl) :
    PE X (.Call (.Name x p) (e :: es) [] pos) (tCall sp dvs E t) :=
  ⟨fun pins s σ H Q I h => wpAny_Call_Name_kw (ld_glob I hg hm (PySem.W.callWith_K (h₀ := X.base) I.ok.mod.kin hk (thn (ha.run pos pins s σ H _ I h) fun us s1 ⟨vs, H1, I1, r, q⟩ => ⟨I1.kIn, goes_fn F quiet room hb hd out I1 r q⟩) he hpl) hdb)⟩
theorem pe_callG0 (F : FnG X.prog X.w X.K X.mg X.base CX k f fd ps sp) (quiet : X.A.guards = some []) (room : Room k X.A) (hg : Gl X x) (hm : X.mg x = some (.ref f)) (hk : PySem.W.keepIn X.K (.ref f) = true) (hb : Binds X.K fd ps ds) (hd : Vals dvs ds) (out : Passes CX X E)
    (hdb : (x == ("__debug__" : PySem.Str)) = false := by decide) : PE X (.Call (.Name x p) [] [] pos) (tCall sp dvs E tNil) :=
  ⟨fun pins s σ H Q I h => wpAny_Call_Name_kw (ld_glob I hg hm (PySem.W.callWith_K0 I.kIn hk (goes_fn (us := []) F quiet room hb hd out I .nil h)) hdb)⟩
end
end GS
/-! The law's own call, where nothing is being shown; tables of code objects. -/
namespace GS
open PySem PySem.Spec PyProof.Rows L2 LamX
open Classical in
/-- what is tracked ahead of the law: the tables, the script -/
noncomputable def Ahead (K : PySem.W.Frag) (a : Addr) (L : Obj) (cs : List (Addr × Addr)) (ns : List Int) : Hp := fun b =>
  if b ∈ cs.map (·.2) then some (.tbl #[]) else if b = a ∧ K.lookup a = none then some (.frz L (.lst (ns.map V.int))) else none
section
variable {P : Program} {w : World} {K : PySem.W.Frag} {mg mb : PySem.Str → Option Value} {a : Addr} {cs : List (Addr × Addr)} {s₁ : Shared} {vs : List Value} {ns : List Int}
theorem ahead_tab {L : Obj} {b : Addr} (h : b ∈ cs.map (·.2)) : Ahead K a L cs ns b = some (.tbl #[]) := by unfold Ahead; rw [if_pos h]
theorem ahead_is {L : Obj} (b : Addr) : Ahead K a L cs ns b = none ∨ (b ∈ cs.map (·.2) ∧ Ahead K a L cs ns b = some (.tbl #[])) ∨ (b = a ∧ K.lookup a = none ∧ Ahead K a L cs ns b = some (.frz L (.lst (ns.map V.int)))) := by
  unfold Ahead
  split
  · rename_i h; exact .inr (.inl ⟨h, rfl⟩)
  · split
    · rename_i h; exact .inr (.inr ⟨h.1, h.2, rfl⟩)
    · exact .inl rfl
theorem scene (KX : K.In s₁.heap) (hns : s₁.heap.Ns mainGlobals mg) (hb : s₁.heap.Ns builtinsNs mb) (hbb : ∀ x : PySem.Str, x ≠ "__name__" → mb x = bootBuiltins x) (lim : s₁.heap.NoLimit) (calm : s₁.gens = #[])
    (tabs : ∀ p ∈ cs, s₁.heap.get? p.2 = some { cls := .none, data := .fields #[] }) (notK : ∀ p ∈ cs, K.lookup p.2 = none) (codes : ∀ p ∈ cs, PySem.W.CodeHd s₁.heap p.1 p.2)
    (blt : cs ≠ [] → ∃ (bm : Addr) (ob : Obj), mg "__builtins__" = some (.ref bm) ∧ bm ≠ builtinsNs ∧ s₁.heap.get? bm = some ob ∧ ob.cls = .type "module" ∧ ob.dict = some builtinsNs ∧ ob.data = .plain)
    (isL : s₁.heap.get? a = some { cls := .type "list", data := .seq vs.toArray }) (isI : IntsAre vs ns) (short : ns.length ≤ sizeLine) :
    ∃ (H : Hp) (base : Heap), (∀ p ∈ cs, H p.2 = some (.tbl #[])) ∧ SqL K H a (ns.map V.int) ∧ K.In base ∧ base.Ns mainGlobals mg ∧ (∀ p ∈ cs, TabB base mg p.1 p.2) ∧ Env0 P w K mg base callerA [] s₁ H ∧
      ∀ u s', CE [] P w H s₁ (fun v _ => v = .bl true) u s' → u = Value.bool true ∧ OldK s₁.heap s'.heap ∧ s'.os = s₁.os ∧ AllBare s'.gens := by
  have same := vals_ints isI
  have long := isI.length
  have tabAt : ∀ b, b ∈ cs.map (·.2) → s₁.heap.get? b = some { cls := .none, data := .fields #[] } := by
    intro b z
    obtain ⟨p, m, rfl⟩ := List.mem_map.mp z
    exact tabs p m
  have aNot : a ∉ cs.map (·.2) := by
    intro z
    have e := tabAt a z
    rw [isL] at e
    injection e with e
    injection e with _ _ e
    cases e
  let H := Ahead K a { cls := .type "list", data := .seq vs.toArray } cs ns
  have free : ∀ (b : Addr) (o : Obj), s₁.heap.get? b = some o → (∀ l n, o.data ≠ .seq l n) → o.data ≠ .fields #[] → H b = none := by
    intro b o e n1 n2
    rcases ahead_is (K := K) (a := a) (cs := cs) (ns := ns) (L := { cls := .type "list", data := .seq vs.toArray }) b with z | ⟨z, -⟩ | ⟨rfl, -, -⟩
    · exact z
    · rw [tabAt b z] at e
      injection e with e
      exact absurd (congrArg Obj.data e).symm n2
    · rw [isL] at e
      injection e with e
      exact absurd (congrArg Obj.data e).symm (n1 _ _)
  have hide : ∀ (b : Addr) (o : Obj), s₁.heap.get? b = some o → (∀ l n, o.data ≠ .seq l n) → o.data ≠ .fields #[] → (hidT s₁.heap H).get? b = some o := fun b o e n1 n2 => hidT_get e (free b o e n1 n2)
  have names : ∀ (b : Addr) (m : PySem.Str → Option Value), s₁.heap.Ns b m → (hidT s₁.heap H).Ns b m := by
    intro b m ⟨o, es, ep, e, d, r⟩
    exact ⟨o, es, ep, hide b o e (fun l n z => by rw [d] at z; cases z) (fun z => by rw [d] at z; cases z), d, r⟩
  have inK : K.In (hidT s₁.heap H) := by
    intro b o e
    refine hidT_get (KX b o e) ?_
    rcases ahead_is (K := K) (a := a) (cs := cs) (ns := ns) (L := { cls := .type "list", data := .seq vs.toArray }) b with z | ⟨z, -⟩ | ⟨rfl, z, -⟩
    · exact z
    · obtain ⟨p, m, rfl⟩ := List.mem_map.mp z
      rw [notK p m] at e
      cases e
    · rw [z] at e
      cases e
  have hok : HOk P w H s₁.heap := by
    intro b o e
    rcases ahead_is (K := K) (a := a) (cs := cs) (ns := ns) (L := { cls := .type "list", data := .seq vs.toArray }) b with z | ⟨z, q⟩ | ⟨rfl, -, q⟩
    · have e' := z.symm.trans e
      cases e'
    · have e' := q.symm.trans e
      cases e'
      exact tabAt b z
    · have e' := q.symm.trans e
      cases e'
      exact ⟨isL, by simpa using short, vs, _, same, isL⟩
  refine ⟨H, hidT s₁.heap H, fun p m => ahead_tab (List.mem_map.mpr ⟨p, m, rfl⟩), ?_, inK, names _ _ hns, ?_, ?_, ?_⟩
  · cases z : K.lookup a with
    | some o =>
      have e := KX a o z
      rw [isL] at e
      cases e
      exact .inr ⟨_, vs.toArray, _, z, rfl, rfl, rfl, by rw [List.size_toArray, long]; exact short, by simpa using same⟩
    | none => exact .inl (.inr ⟨_, by show Ahead _ _ _ _ _ a = _; unfold Ahead; rw [if_neg aNot, if_pos ⟨rfl, z⟩]⟩)
  · intro p m
    have here := tabs p m
    obtain ⟨bm, ob, b1, b2, b3, b4, b5, b6⟩ := blt (List.ne_nil_of_mem m)
    obtain ⟨og, es, ep, eg, dg, -⟩ := hns
    refine ⟨?_, ⟨bm, ob, b1, b2, ?_, ?_, hide bm ob b3 (fun l n z => by rw [b6] at z; cases z) (fun z => by rw [b6] at z; cases z), b4, b5, b6⟩, ?_⟩
    · obtain ⟨o, us, file, tf, flags, tg, inF, text, tt, e1, r1, r2, r3, r4⟩ := codes p m
      refine ⟨o, us, file, tf, flags, tg, inF, text, tt, hide p.1 o e1 (fun l n z => by rw [r2] at z; cases z) (fun z => ?_), r1, r2, r3, r4⟩
      rw [r2] at z
      cases z
      simp at r3
    · intro z
      rw [z, eg] at b3
      cases b3
      rw [dg] at b6
      cases b6
    · intro z
      rw [z, here] at b3
      cases b3
      cases b6
    · intro z
      rw [z, here] at eg
      cases eg
      cases dg
  · exact ⟨rfl, ⟨inK, names _ _ hns, ⟨mb, names _ _ hb, hbb⟩, let ⟨mc, l1, l2⟩ := lim; ⟨mc, names _ _ l1, l2⟩⟩, fun b o e => of_hidT e, Nat.le_of_eq (hidT_size _ _), trivial, fun b z => absurd z (by simp [frs]), hok, .of_eq calm⟩
  · intro u s' ⟨v, H', os, bare, un, hok', rv, q⟩
    have q' : v = .bl true := q
    subst q'
    have ru : u = Value.bool true := rv
    have kept : ∀ b o, b ∉ cs.map (·.2) → s₁.heap.get? b = some o → s'.heap.get? b = some o := by
      intro b o nb e
      rcases ahead_is (K := K) (a := a) (cs := cs) (ns := ns) (L := { cls := .type "list", data := .seq vs.toArray }) b with z | ⟨z, -⟩ | ⟨rfl, -, z⟩
      · exact un.keep b o e z (by simp [frs]) (by simp)
      · exact absurd z nb
      · have e2 := (hok' b _ (un.frzs b _ _ z)).1
        rw [isL] at e
        cases e
        exact e2
    have more : ∀ p ∈ cs, ∃ l : Array Value, s'.heap.get? p.2 = some { cls := .none, data := .fields l } := by
      intro p m
      obtain ⟨l, z⟩ := un.tbls p.2 #[] (ahead_tab (List.mem_map.mpr ⟨p, m, rfl⟩))
      exact ⟨_, hok' p.2 _ z⟩
    refine ⟨ru, ⟨fun b o e => ?_, fun b o e => ?_⟩, os, bare⟩
    · by_cases z : b ∈ cs.map (·.2)
      · obtain ⟨p, m, rfl⟩ := List.mem_map.mp z
        obtain ⟨l, g⟩ := more p m
        rw [tabs p m] at e
        cases e
        exact .inr (.inl ⟨((codes p m).tab (tabs p m)).isCodeTable, rfl, #[], l, rfl, by rw [Array.empty_append]; exact g⟩)
      · exact .inl (kept b o z e)
    · by_cases z : b ∈ cs.map (·.2)
      · obtain ⟨p, m, rfl⟩ := List.mem_map.mp z
        obtain ⟨l, g⟩ := more p m
        exact ⟨_, g⟩
      · exact ⟨o, kept b o z e⟩
end
end GS
/-! The end of a law's row whose def is proved where nothing is being shown. -/
namespace GS
open PySem PySem.Spec PyProof.Rows L2 LamX
theorem none_out {P : Program} {w : World} {H : Hp} {s s' : Shared} {e : Value} (c : L2.CX P w [] H s (fun _ _ _ => False) e s') : False := by
  obtain ⟨a, B, H', cls, d, -, -, -, -, -, -, -, z⟩ := c
  exact z
/-- the end: the script's bits are told, no guard stands, cs are the code objects with a table (none where the law makes no lambda) -/
theorem end_show {l : PySem.W.OpenLaw} {k n : Nat} {q : Program} {loose : List PySem.Str} {XP : (PySem.Str → Option Value) → Heap → Prop} {YP : World → Heap → Prop} {d : DefRec} {x : PySem.Str} (most : l.most = some n) (line : n ≤ sizeLine) (plain : d.params.defaults = []) (room : Room k callerA)
    (F : ∀ (w : World) (mg : PySem.Str → Option Value) (fa : Addr) (h : Heap), YP w h → h.Ns mainGlobals mg → mg d.name = some (.ref fa) → ∃ (K : PySem.W.Frag) (fd : FuncData) (cs : List (Addr × Addr)) (sp : Sp), K.In h ∧
      (∀ p ∈ cs, h.get? p.2 = some { cls := .none, data := .fields #[] }) ∧ (∀ p ∈ cs, K.lookup p.2 = none) ∧ (∀ p ∈ cs, PySem.W.CodeHd h p.1 p.2) ∧ (∀ (s : Shared) (u : Value), BindsTo s fd ⟨[u], []⟩ [(x, u)]) ∧
      (∀ (H : Hp) (a : Addr) (ns : List Int), ns.length ≤ n → (∀ z ∈ ns, Builtin.Int.intBits z ≤ 1048576) → (∀ p ∈ cs, H p.2 = some (.tbl #[])) → SqL K H a (ns.map V.int) → sp [.ref a] H (fun v _ => v = .bl true) fun _ _ _ => False) ∧
      ∀ base : Heap, K.In base → base.Ns mainGlobals mg → (∀ p ∈ cs, TabB base mg p.1 p.2) → FnG l.prog w K mg base (L2.CX l.prog w) k fa fd [x] sp) :
    PySem.W.WalkO q loose XP YP l.row.toRowW d [] (fun f vs => PySem.call f vs) := by
  refine Att.attach_callB most plain fun w s₀ s₁ mg mb fa o pm cd doc a vs ns Gr Yp _ _ _ named there numb short bits gens => ?_
  obtain ⟨K, fd, cs, sp, KX, tabs, notK, codes, binds, goes, ok⟩ := F w mg fa _ Yp Gr.T.g named
  obtain ⟨H, base, ht, hs, inK, ns', tb, e0, ends⟩ := scene (P := l.prog) (w := w) KX Gr.T.g Gr.T.b Gr.T.builtins Gr.T.nolimit gens tabs notK codes (fun _ => Gr.T.bmain) there numb (Nat.le_trans short line)
  refine codeAny_mono ((ok base inK ns' tb).goes callerA rfl room [] s₁ H ⟨[.ref a], []⟩ [.ref a] [.ref a] _ _ e0 (binds s₁ (.ref a)) (.cons rfl .nil) (goes H a ns short bits ht hs)) fun r s' z => ?_
  match r, z with
  | .error e, z => exact (none_out z).elim
  | .ok (.ret u), z =>
    obtain ⟨ru, r2⟩ := ends u s' z
    exact ⟨by rw [ru], r2⟩
  | .ok .next, z => exact False.elim z
  | .ok .brk, z => exact False.elim z
  | .ok .cont, z => exact False.elim z
end GS
/-! A text times an integer; sorted(..), tuple(..) within a comprehension. -/
namespace GS
open PySem PySem.Spec PyProof.Rows L2
def rMulS : V → V → Hp → VK → Prop := fun x y H Q => ∃ (z : PySem.Str) (n : Int), x = .str z ∧ y = .int n ∧ MulOk z n ∧ Q (.str (Txt.mul z n)) H
theorem op_mulS {X : Cx} : OpR X (binaryOp .Mult) rMulS := by
  intro pins s σ H x y v u Q I rx ry h
  obtain ⟨z, n, rfl, rfl, ok, q⟩ := h
  obtain ⟨t, rfl⟩ := rx
  obtain ⟨t', rfl⟩ := ry
  exact SB.mul ok fun t' k => ⟨.str _, H, I.tok _, ⟨_, rfl⟩, q⟩
theorem mulOk_small {z : PySem.Str} {n : Int} (h0 : 1 ≤ n) (h1 : n ≤ 100000) (h2 : z.length ≤ 100) : MulOk z n := by
  refine ⟨?_, fun _ _ => ?_, fun _ _ => ?_⟩
  · rw [decide_eq_false (by omega), decide_eq_false (by omega)]; rfl
  · have : (100 : Int) ≤ (2 ^ 63 - 1) / n := by
      rw [Int.le_ediv_iff_mul_le (by omega)]
      omega
    omega
  · have e : n.toNat ≤ 100000 := by omega
    have : z.length * n.toNat ≤ 100 * 100000 := Nat.mul_le_mul h2 e
    unfold Builtin.Str.tooLong
    simp
    have : (100 * 100000 : Nat) ≤ sizeLine := by decide
    omega
theorem kx_tupOf {X : Cx} {K : PySem.W.Frag} (h : X.K = K) : CallR X (.type "tuple") (fun xs H Q => ∃ p ys, xs = [.ref p] ∧ ((SqL K H p ys ∧ ∀ l, H l = none → Q (.ref l) (upd H l (.tup ys))) ∨ (SqT K H p ys ∧ Q (.ref p) H))) := by subst h; exact call_tuple_of
theorem kx_sortI {X : Cx} {K : PySem.W.Frag} (h : X.K = K) : CallR X (.builtin "sorted") (rSortedI K) := by subst h; exact cr_sortedI
end GS
/-! sum, factorial, comb; xs[k::-1]; two ways of a call. -/
namespace GS
open PySem PySem.Spec PyProof.Rows L2
theorem kx_sum {X : Cx} {K : PySem.W.Frag} (h : X.K = K) (hc : X.calm = true) : CallR X (.builtin "sum") (rSum K) := by subst h; exact cr_sum hc
theorem kx_max {X : Cx} {K : PySem.W.Frag} (h : X.K = K) (hc : X.calm = true) : CallR X (.builtin "max") (rMax K) := by subst h; exact cr_max hc
theorem kx_piseq {X : Cx} {K : PySem.W.Frag} (h : X.K = K) {tg l : Expr} {tl : TE} (hl : PE X l tl) : PI X tg l (iSeq K tl) := by subst h; exact pi_seq hl
theorem kx_pilist {X : Cx} {K : PySem.W.Frag} (h : X.K = K) {tg l : Expr} {tl : TE} (hl : PE X l tl) : PI X tg l (iList K tl) := by subst h; exact pi_list hl
theorem kx_pitup {X : Cx} {K : PySem.W.Frag} (h : X.K = K) {tg l : Expr} {tl : TE} (hl : PE X l tl) : PI X tg l (iTup K tl) := by subst h; exact pi_tup hl
def rFac : List V → Hp → VK → Prop := fun vs H Q => ∃ n : Nat, vs = [.int n] ∧ n ≤ 20000 ∧ Q (.int (Builtin.Math.factorialNat n : Nat)) H
theorem cr_fac {X : Cx} : CallR X (.builtin "math.factorial") rFac := by
  intro pins s σ H vs us Q I r h
  obtain ⟨n, rfl, hn, q⟩ := h
  obtain ⟨t, rfl⟩ : ∃ t, us = [.int (n : Int) t] := by
    cases r with
    | cons a b => cases b; obtain ⟨t, rfl⟩ := a; exact ⟨t, rfl⟩
  refine PySem.W.mc_factorial (by omega) (by omega) fun _ => ⟨.int _, H, I.tok _, ⟨_, rfl⟩, ?_⟩
  rw [Int.toNat_natCast]
  exact q
def rComb : List V → Hp → VK → Prop := fun vs H Q => ∃ a b : Int, vs = [.int a, .int b] ∧ 0 ≤ a ∧ 0 ≤ b ∧ a ≤ 18000 ∧ Q (.int (PySem.W.mcComb a b)) H
theorem cr_comb {X : Cx} : CallR X (.builtin "math.comb") rComb := by
  intro pins s σ H vs us Q I r h
  obtain ⟨a, b, rfl, h1, h2, h3, q⟩ := h
  obtain ⟨t, u, rfl⟩ := Vals.int2 r
  exact PySem.W.mc_comb h1 h2 (by omega) (.inr h3) fun _ => ⟨.int _, H, I.tok _, ⟨_, rfl⟩, q⟩
/-- a call that goes one of two ways -/
theorem cr_two {X : Cx} {f : Value} {r1 r2 : List V → Hp → VK → Prop} (h1 : CallR X f r1) (h2 : CallR X f r2) : CallR X f (fun xs H Q => r1 xs H Q ∨ r2 xs H Q) := by
  intro pins s σ H vs us Q I r h
  rcases h with h | h
  · exact h1 pins s σ H vs us Q I r h
  · exact h2 pins s σ H vs us Q I r h
theorem rev_bounds (n m : Nat) : sliceBounds (some (n : Int)) none (some (-1)) m = (((min (n + 1) m : Nat) : Int) - 1, -1, -1) := by
  unfold sliceBounds
  simp
  omega
theorem rev_pick (items : Array Value) (n : Nat) : slicePick items (some (n : Int)) none (some (-1)) = (items.toList.take (n + 1)).reverse.toArray := by
  unfold slicePick
  rw [rev_bounds]
  show ((sliceRange (((min (n + 1) items.size : Nat) : Int) - 1) (-1) (-1)).filterMap (items[·]?)).toArray = _
  rw [PySem.W.krv_sliceRange, PySem.W.krv_range, List.filterMap_reverse]
  congr 2
  have h := PySem.W.krv_all ((items.toList.take (n + 1)).toArray)
  simp only [List.size_toArray, List.length_take, Array.length_toList] at h
  rw [show items.size = items.toList.length from rfl] at h ⊢
  rw [← h]
  have key : ∀ (l : List Nat), (∀ i ∈ l, i < min (n + 1) items.toList.length) → l.filterMap (items[·]?) = l.filterMap ((items.toList.take (n + 1)).toArray[·]?) := by
    intro l
    induction l with
    | nil => intro _; rfl
    | cons i l ih =>
      intro hl
      have hi := hl i (by simp)
      have e : items[i]? = (items.toList.take (n + 1)).toArray[i]? := by
        have hn : i < n + 1 := by omega
        simp [List.getElem?_take, hn]
      rw [List.filterMap_cons, List.filterMap_cons, e, ih fun k hk => hl k (by simp [hk])]
  exact key _ fun i hi => List.mem_range.mp hi
def tRevF (K : PySem.W.Frag) (te tl : TE) : TE := fun σ H Q => te σ H fun x H1 => tl σ H1 fun i H2 => ∃ z : Int, i = .int z ∧ ∃ (a : Addr) (xs : List V) (n : Nat), x = .ref a ∧ z = n ∧ SqL K H2 a xs ∧ ∀ p, H2 p = none → Q (.ref p) (upd H2 p (.lst (xs.take (n + 1)).reverse))
theorem r_revF {K : PySem.W.Frag} {te tl : TE} {σ : L2.St} {H : Hp} {Q : VK} (q : te σ H fun x H1 => tl σ H1 fun i H2 => ∃ z : Int, i = .int z ∧ ∃ (a : Addr) (xs : List V) (n : Nat), x = .ref a ∧ z = n ∧ SqL K H2 a xs ∧ ∀ p, H2 p = none → Q (.ref p) (upd H2 p (.lst (xs.take (n + 1)).reverse))) : tRevF K te tl σ H Q := q
theorem pe_revF {X : Cx} {K : PySem.W.Frag} (hK : X.K = K) {e lo : Expr} {te tl : TE} {k : Nat} {p1 p2 p3 pos : Pos} (he : PE X e te) (hl : PE X lo tl) : PE X (.Subscript e (.Slice (some lo) none (some (.UnaryOp .USub (.Constant (.int 1) k p1) p2)) p3) pos) (tRevF K te tl) := by
  subst hK
  refine ⟨fun pins s σ H Q I h => ?_⟩
  refine Subscript_ (thn (he.run pins s σ H _ I h) fun v s1 ⟨x, H1, I1, r1, q1⟩ => ?_)
  have hst : PO X (some (.UnaryOp .USub (.Constant (.int 1) k p1) p2)) (tPart (tUn (rU fun i => .int (-i)) (tC (.int 1)))) := po_some (pe_un un_neg pe_int)
  have hlo := po_some hl
  refine wpAny_Slice (thn (hlo.run pins s1 σ H1 (fun o H2 => ∃ (a : Addr) (xs : List V) (n : Nat), x = .ref a ∧ o = some (n : Int) ∧ SqL X.K H2 a xs ∧ ∀ p, H2 p = none → Q (.ref p) (upd H2 p (.lst (xs.take (n + 1)).reverse))) I1 ?_) fun vl s2 ⟨l, H2, I2, pl, el⟩ => ?_)
  · have e : (fun (i : V) (H2 : Hp) => ∃ z : Int, i = .int z ∧ ∃ (a : Addr) (xs : List V) (n : Nat), x = .ref a ∧ z = n ∧ SqL X.K H2 a xs ∧ ∀ p, H2 p = none → Q (.ref p) (upd H2 p (.lst (xs.take (n + 1)).reverse)))
        = fun (i : V) (H2 : Hp) => ∃ z : Int, i = .int z ∧ ∃ (a : Addr) (xs : List V) (n : Nat), x = .ref a ∧ some z = some (n : Int) ∧ SqL X.K H2 a xs ∧ ∀ p, H2 p = none → Q (.ref p) (upd H2 p (.lst (xs.take (n + 1)).reverse)) := by
      simp only [Option.some.injEq]
    show tl σ H1 _
    rw [← e]
    exact q1
  obtain ⟨a, xs, n, ex, eo, hx, q⟩ := el
  subst ex eo
  cases r1
  refine thn (po_none.run pins s2 σ H2 (fun o H3 => o = none ∧ H3 = H2) I2 ⟨rfl, rfl⟩) fun vu s3 ⟨u, H3, I3, pu, eu, e3⟩ => ?_
  subst eu e3
  refine thn (hst.run pins s3 σ H3 (fun o H4 => o = some (-1) ∧ H4 = H3) I3 ⟨1, rfl, -1, rfl, rfl, rfl⟩) fun vs s4 ⟨o, H4, I4, ps, eo, e4⟩ => ?_
  subst eo e4
  have I5 : Inv X pins σ H4 { s4 with heap := s4.heap.push { cls := .type "slice", data := .fields #[vl, vu, vs] } } := I4.kept (t' := s4.toks) fun b ob q => Heap.get?_push_of_some _ q
  obtain ⟨its, r, ht, hz⟩ := I5.list hx
  have hlen := r.length
  show wpAny (model X.prog X.w) X.A (subscriptTail e (.Slice (some lo) none (some (.UnaryOp .USub (.Constant (.int 1) k p1) p2)) p3) (.ref a) (.ref s4.heap.objs.size)) (EP X pins σ Q) X.xe { s4 with heap := s4.heap.push { cls := .type "slice", data := .fields #[vl, vu, vs] } }
  refine tail_any (ops := [.ref a, .ref s4.heap.objs.size]) ht.isList.typeIs (PySem.slot_list_getitem.lookup) ?_ (by with_unfolding_all rfl)
  refine wpAny_getItem_list_slice ht.isList (Heap.IsSliceOf.new _ vl vu vs) pl pu ps (by decide) ?_ (by rw [List.size_toArray]; omega)
  rw [rev_pick]
  refine ⟨.ref _, _, I5.laid (t' := s4.toks) (o := .lst (xs.take (n + 1)).reverse) (fun b ob q => Heap.get?_push_of_some _ q) (Nat.le_refl _) ?_, rfl, q _ (I5.hok.fresh (Nat.le_refl _))⟩
  exact ⟨by rw [List.length_reverse, List.length_take]; omega, _, 0, (r.take (n + 1)).reverse, Heap.get?_push_size _ rfl⟩
end GS
/-! An error kept behind its suite; isinstance and fields of it. -/
namespace GS
open PySem PySem.Spec PySem.Calls PyProof.Rows L2 TL
/-- an error that was caught and kept: its class, its dict -/
def ErrO (a : Addr) (cls : Value) (d : Option Addr) : HO := .ext fun h => ∃ oe, h.get? a = some oe ∧ Zc cls d oe ∧ ∃ vs, oe.data = .fields vs
theorem errO_ok {P : Program} {w : World} {H : Hp} {h : Heap} {a : Addr} {cls : Value} {d : Option Addr} {oe : Obj} {vs : Array Value} (e : h.get? a = some oe) (z : Zc cls d oe) (f : oe.data = .fields vs) : ObjOk P w H h a (ErrO a cls d) :=
  ⟨⟨oe, e, z, vs, f⟩, ⟨oe, e⟩, fun _ _ ⟨o, q, r⟩ k => ⟨o, k o q, r⟩⟩
section
variable {X : Cx} {pins : List (Addr × Obj)} {σ : L2.St} {H : Hp} {s sI : Shared} {a : Addr} {B : Heap} {cls : Value} {d : Option Addr} {D : Ends} {Wout : WX}
/-- an object that lay outside is tracked from now on -/
theorem Inv.track {φ : Heap → Prop} (I : Inv X pins σ H s) (n0 : X.s_0.heap.get? a = none) (na : H a = none) (nL : a ≠ X.env.locals) (nC : ∀ x c, X.env.cells.lookup x = some c → c ≠ a) (nP : ∀ p ∈ X.pn ++ pins, p.1 ≠ a) (new : ObjOk X.prog X.w (upd H a (.ext φ)) s.heap a (.ext φ)) :
    Inv X pins σ (upd H a (.ext φ)) s := by
  refine ⟨I.ok, I.os, I.bare, ⟨I.base.keep, I.base.slot, fun b o e n hx => ?_, I.base.there, fun b xs e => ?_, fun b o u e => ?_, fun b ps e => ?_⟩, I.loc, I.cell, ?_, fun x c e => ?_, fun p hp => ?_, fun b u e => ?_, I.len⟩
  · rw [upd_ne (fun z => by rw [z, n0] at e; cases e)]
    exact I.base.free b o e n hx
  · have q := I.base.tups b xs e
    rw [upd_ne (ne_of_none q na)]
    exact q
  · have q := I.base.frzs b o u e
    rw [upd_ne (ne_of_none q na)]
    exact q
  · obtain ⟨m, q⟩ := I.base.tbls b ps e
    exact ⟨m, by rw [upd_ne (ne_of_none q na)]; exact q⟩
  · rw [upd_ne (Ne.symm nL)]
    exact I.free
  · rw [upd_ne (nC x c e)]
    exact I.freeC x c e
  · obtain ⟨h1, h2, h3⟩ := I.pin p hp
    exact ⟨h1, by rw [upd_ne (nP p hp)]; exact h2, h3⟩
  · by_cases hb : b = a
    · subst hb
      rw [upd_same] at e
      cases e
      exact new
    · rw [upd_ne hb] at e
      exact (I.hok b u e).stay (fun c v _ q => q) (fun c q => by rw [upd_ne (ne_of_none q na)]; exact q) fun c xs q => by rw [upd_ne (ne_of_none q na)]; exact q
theorem Caught.off2 (c : Caught X pins σ H a B cls d sI s) (hst : X.stack = X.env :: X.outer) : ∀ b ∈ frs X.stack, b ≠ a := fun b hb z => by
  obtain ⟨oe, vs, e1, _, e3⟩ := c.fl.there
  rw [hst] at hb
  obtain ⟨_, o, ho, hnf⟩ := c.fl.2.2.1.mem hb
  rw [z, e1] at ho
  exact hnf vs (by rw [← Option.some.inj ho]; exact e3)
theorem Caught.out (c : Caught X pins σ H a B cls d sI s) (hst : X.stack = X.env :: X.outer) (hx : X.ex = []) : X.s_0.heap.get? a = none := by
  have nb : B.get? a = none := c.fl.2.1
  cases e : X.s_0.heap.get? a with
  | none => rfl
  | some o =>
    obtain ⟨o', q⟩ := c.inv.base.there a o e (by rw [hx]; exact fun z => nomatch z)
    have z := c.nb a o' q (fun h => c.off2 hst a h rfl)
    rw [nb] at z
    cases z
theorem Caught.pins_ne (c : Caught X pins σ H a B cls d sI s) (hst : X.stack = X.env :: X.outer) : ∀ p ∈ X.pn ++ pins, p.1 ≠ a := fun p hp z => by
  obtain ⟨h1, h2, h3, h4, h5⟩ := c.inv.pin p hp
  have nb : B.get? a = none := c.fl.2.1
  have q := c.nb p.1 p.2 h1 (fun h => c.off2 hst _ h z)
  rw [z, nb] at q
  cases q
/-- the ends of a suite whose error is kept: its name i goes -/
def asEndsK (i : Nat) (a : Addr) (cls : Value) (d : Option Addr) (D : Ends) : Ends := { nx := fun σ' H' => H' a = none → D.nx (σ'.set i none) (upd H' a (ErrO a cls d)), rt := D.rt, bk := fun σ' H' => D.bk (σ'.set i none) H', ct := fun σ' H' => D.ct (σ'.set i none) H' }
def wKeep (K : PySem.W.Frag) (Wout : WX) (D : Ends) (cs : List Value) (i : Nat) (ts : Addr → Value → Option Addr → TS) : WX := fun cls d σ H => ∃ b, PySem.W.exmAny K cls cs = some b ∧ (b = true → ∀ a, H a = none → ts a cls d (asEndsK i a cls d D) (σ.set i (some (.ref a))) H) ∧ (b = false → Wout cls d σ H)
theorem keep_clause {t : Expr} {n : Str} {cs : List Value} {ts : Addr → Value → Option Addr → TS} {st : Stmt} {sts : List Stmt} {pos' : Pos} {i : Nat} (hc : MTest X t cs) (hN : X.N.Nodup) (hi : X.N[i]? = some n) (hln : X.env.kindOf n = some .local)
    (su : ∀ (a : Addr) (oe : Obj) (cls : Value) (d : Option Addr) (pn : List (Addr × Obj)), Zc cls d oe → (∃ vs, oe.data = .fields vs) → PSs (X.suite a ((a, oe) :: pn)) (st :: sts) (ts a cls d))
    (hst : X.stack = X.env :: X.outer) (hf : X.env.frame = some X.env.locals) (hx : X.ex = []) (tk : Takes X Wout)
    {s : Shared} (c : Caught X pins σ H a B cls d sI s) (w : wKeep X.K Wout D cs i ts cls d σ H) : wpAny (model X.prog X.w) X.A (handleBy (.ref a) X.env [.ExceptHandler (some t) (some n) (st :: sts) pos']) (SP X pins D) X.xe s := by
  obtain ⟨b, hb1, hyes, hno⟩ := w
  refine wpAny_handleBy_cons (codeAny_handlers_test ?_) (by intro q; cases q)
  refine mtest c hf hc hb1 fun s c => ?_
  cases b with
  | false => exact mclauses .nil hst hf tk c (hno rfl)
  | true =>
    refine codeAny_handlers_suite_as (c.again fun s4 c4 => ?_)
    obtain ⟨oe, z1, z2, S⟩ := c4.suite (M := model X.prog X.w) hf
    have ok := c4.here.ok
    have n0 := c4.out hst hx
    have nP := c4.pins_ne hst
    refine store_ok (X := X.suite a ((a, oe) :: (X.pn ++ pins))) (v := .ref a) S hN hi (.inl hln) rfl (fun s5 S5 => ?_) (.inr hln)
    have fin : ∀ {σ6 : L2.St} {H6 : Hp} {s6 : Shared}, Inv (X.suite a ((a, oe) :: (X.pn ++ pins))) [] σ6 H6 s6 → H6 a = none ∧ Inv X pins σ6 (upd H6 a (ErrO a cls d)) s6 := fun {σ6 H6 s6} S6 => by
      obtain ⟨h1, h2, h3, h4, h5⟩ := S6.pin (a, oe) (List.mem_append_left _ List.mem_cons_self)
      have J := S6.unsuite ok
      obtain ⟨vs, hv⟩ := z2
      refine ⟨h2, Inv.track J n0 h2 h3 (fun x c e q => ?_) nP (errO_ok h1 z1 hv)⟩
      obtain ⟨v, oc, ho, hd⟩ := J.cell x c e
      rw [q, h1] at ho
      cases ho
      exact h5 v hd
    refine wpAny_mono ((su a oe cls d (X.pn ++ pins) z1 z2).run [] s5 _ H (asEndsK i a cls d D) S5 (hyes rfl a c.na)) (fun f s6 hsp => ?_) (fun _ _ z => False.elim z)
    cases f with
    | next => exact let ⟨σ6, H6, S6, q6⟩ := hsp; gone_ok (fin S6).2 hN hi hln fun s7 J7 => ⟨_, _, J7, q6 (fin S6).1⟩
    | brk => exact let ⟨σ6, H6, S6, q6⟩ := hsp; gone_ok (S6.unsuite ok) hN hi hln fun s7 J7 => ⟨_, _, J7, q6⟩
    | cont => exact let ⟨σ6, H6, S6, q6⟩ := hsp; gone_ok (S6.unsuite ok) hN hi hln fun s7 J7 => ⟨_, _, J7, q6⟩
    | ret u => exact let ⟨v6, σ6, H6, S6, r6, q6⟩ := hsp; gone_ok (S6.unsuite ok) hN hi hln fun s7 J7 => ⟨_, _, _, J7, r6, q6⟩
/-- THE RULE: try: .. except A as x: .., x kept -/
theorem ps_try_keep {body : List Stmt} {t : Expr} {n : Str} {cs : List Value} {ts : Addr → Value → Option Addr → TS} {st : Stmt} {sts : List Stmt} {pos' pos : Pos} {i : Nat} {tb : WX → TS} (hst : X.stack = X.env :: X.outer) (hf : X.env.frame = some X.env.locals) (hx : X.ex = []) (tk : Takes X Wout)
    (hb : ∀ (W : WX) (pn : List (Addr × Obj)) (xe : Value → Shared → Prop), Takes (X.tr pn xe) W → PassesOwn (model X.prog X.w) X.A X.env xe → PSs (X.tr pn xe) body (tb W)) (hc : MTest X t cs) (hN : X.N.Nodup) (hi : X.N[i]? = some n) (hln : X.env.kindOf n = some .local)
    (su : ∀ (a : Addr) (oe : Obj) (cls : Value) (d : Option Addr) (pn : List (Addr × Obj)), Zc cls d oe → (∃ vs, oe.data = .fields vs) → PSs (X.suite a ((a, oe) :: pn)) (st :: sts) (ts a cls d)) :
    PS X (.Try body [.ExceptHandler (some t) (some n) (st :: sts) pos'] [] [] pos) (fun D σ H => tb (wKeep X.K Wout D cs i ts) D σ H) := by
  refine ⟨fun pins s σ H D I h => wpAny_Try_except ?_⟩
  have ok := I.ok
  have fr : X.A.frames = some (X.env :: X.outer) := by rw [ok.frames, hst]
  have B0 := hb (wKeep X.K Wout D cs i ts) (X.pn ++ pins) (fun e s₁ => wpAny (model X.prog X.w) X.A (noteFrame e X.env) (fun _ s₂ => wpAny (model X.prog X.w) X.A (setFlight e none) (fun _ s₃ => wpAny (model X.prog X.w) X.A (handleBy e X.env [.ExceptHandler (some t) (some n) (st :: sts) pos']) (SP X pins D) X.xe s₃) X.xe s₂) X.xe s₁)
    (fun u s' xx => by
      obtain ⟨a, B, sI, pins', σ', H', cls, d, rfl, J', nb, up, sky, na, os, ag, w⟩ := xx
      refine Sky.land Zc.steady fr hf (show Sky B (X.env :: X.outer) a (Zc cls d) X.env.locals s'.heap by rw [← hst]; exact sky) fun h3 fl3 up3 => ?_
      exact keep_clause hc hN hi hln su hst hf hx tk ⟨J'.ofTry ok, nb, up.trans up3, na, os, ag, fl3⟩ w) PassesOwn.looking
  refine wpAny_mono (B0.run [] s σ H D (I.toTry _) h) (fun f s1 hsp => ?_) (fun _ _ z => z)
  cases f with
  | next => exact let ⟨σ', H', J', q⟩ := hsp; wpAny_execs_nil ⟨σ', H', J'.ofTry ok, q⟩
  | brk => exact let ⟨σ', H', J', q⟩ := hsp; ⟨σ', H', J'.ofTry ok, q⟩
  | cont => exact let ⟨σ', H', J', q⟩ := hsp; ⟨σ', H', J'.ofTry ok, q⟩
  | ret u => exact let ⟨v, σ', H', J', r, q⟩ := hsp; ⟨v, σ', H', J'.ofTry ok, r, q⟩
end
/-! isinstance and fields of an error that is kept -/
section
variable {X : Cx} {pins : List (Addr × Obj)} {σ : L2.St} {H : Hp} {s : Shared} {a : Addr}
theorem inst_kept {C dd : Addr} {fs : List (Str × V)} (I : Inv X pins σ H s) (he : H a = some (ErrO a (.ref C) (some dd))) (there : H dd = some (.xd fs)) :
    ∃ oe od, PySem.W.InstAt s.heap a oe C (some od) ∧ ∀ n v, fs.lookup n = some v → ∃ u, RelV v u ∧ PySem.W.lookIn n od = some (some u) := by
  obtain ⟨mA, hns, hr⟩ := (show ObjOk X.prog X.w H s.heap dd (.xd fs) from I.hok dd _ there)
  obtain ⟨od, ho, hl⟩ := lookIn_ns hns
  obtain ⟨⟨oe, ha, hz, vs, hd⟩, _, _⟩ := (show ObjOk X.prog X.w H s.heap a (ErrO a (.ref C) (some dd)) from I.hok a _ he)
  have plain : PySem.W.notCls oe := by
    unfold PySem.W.notCls
    rw [hd]
  refine ⟨oe, od, ⟨ha, hz.1, plain, by rw [hz.2]; exact ho⟩, fun n v hv => ?_⟩
  obtain ⟨u, hu, ru⟩ := RelO.some_of (v := v) (o := mA n) (by rw [← hv]; exact hr n)
  exact ⟨u, ru, by rw [hl, hu]⟩
def rIsO (K : PySem.W.Frag) : List V → Hp → VK → Prop := fun xs H Q => ∃ (a : Addr) (c : V) (cv : Value) (b : Bool) (C dd : Addr) (fs : List (Str × V)), xs = [.ref a, c] ∧ (∀ u, RelV c u → u = cv) ∧ H a = some (ErrO a (.ref C) (some dd)) ∧ ExcC K C ∧ PySem.W.kitOne K (.ref C) cv = some b ∧ H dd = some (.xd fs) ∧ Q (.bl b) H
theorem cr_isO {K : PySem.W.Frag} (hk : X.K = K) : CallR X (.builtin "isinstance") (rIsO K) := by
  subst hk
  intro pins s σ H xs us Q I r got
  obtain ⟨a, c, cv, b, C, dd, fs, rfl, only, he, ec, e, there, q⟩ := got
  obtain ⟨u1, u2, rfl, r1, r2⟩ := vals2 r
  cases r1
  rw [only _ r2]
  obtain ⟨oe, od, i, _⟩ := inst_kept I he there
  exact PySem.W.kia_one (kit_err ec) I.kIn i e (fun z => nomatch z) fun tk => ⟨.bl b, H, I.kept (t' := tk) fun _ _ z => z, rfl, q⟩
def rIsOT (K : PySem.W.Frag) : List V → Hp → VK → Prop := fun xs H Q => ∃ (a tp : Addr) (cs : List V) (us : List Value) (b : Bool) (C dd : Addr) (fs : List (Str × V)), xs = [.ref a, .ref tp] ∧ H tp = some (.tup cs) ∧ Paired ClsV cs us ∧ H a = some (ErrO a (.ref C) (some dd)) ∧ ExcC K C ∧ PySem.W.kitAny K (.ref C) us = some b ∧ H dd = some (.xd fs) ∧ Q (.bl b) H
theorem cr_isOT {K : PySem.W.Frag} (hk : X.K = K) : CallR X (.builtin "isinstance") (rIsOT K) := by
  subst hk
  intro pins s σ H xs us Q I r got
  obtain ⟨a, tp, cs, ws, b, C, dd, fs, rfl, hT, k, he, ec, e, there, q⟩ := got
  obtain ⟨u1, u2, rfl, r1, r2⟩ := vals2 r
  cases r1
  cases (show u2 = Value.ref tp from r2)
  obtain ⟨oe, od, i, _⟩ := inst_kept I he there
  obtain ⟨_, its, rv, o, h1, h2, n, h3⟩ := (show ObjOk X.prog X.w H s.heap tp (.tup cs) from I.hok tp _ hT)
  have e3 := ClsV.all k rv
  subst e3
  obtain ⟨oc, od', dt, sl⟩ := o
  simp only at h2 h3
  subst h2 h3
  exact PySem.W.kia_tup (kit_err ec) I.kIn i h1 e (fun z => nomatch z) fun tk => ⟨.bl b, H, I.tok tk, rfl, q⟩
def tXO (K : PySem.W.Frag) (n : Str) (te : TE) : TE := fun σ H Q => te σ H fun x H1 => ∃ (a C dd : Addr) (fs : List (Str × V)) (v : V), x = .ref a ∧ H1 a = some (ErrO a (.ref C) (some dd)) ∧ XfC K C ∧ PySem.W.findIn K (.ref C) n = some none ∧ H1 dd = some (.xd fs) ∧ fs.lookup n = some v ∧ Q v H1
theorem pe_xO {K : PySem.W.Frag} {e : Expr} {te : TE} {pos : Pos} {n : Str} (hk : X.K = K) (he : PE X e te) (plain : attributeBase e n X.env (eval e X.env) = eval e X.env := by rfl) : PE X (.Attribute e n pos) (tXO K n te) := by
  subst hk
  refine ⟨fun pins s σ H Q I h => attr_of plain (thn (he.run pins s σ H _ I h) fun u s1 got => ?_)⟩
  obtain ⟨x, H1, I1, rx, a, C, dd, fs, v, rfl, hea, T, no_, there, l, q⟩ := got
  obtain rfl : u = Value.ref a := rx
  obtain ⟨oe, od, i, fields⟩ := inst_kept I1 hea there
  obtain ⟨u, ru, hu⟩ := fields n v l
  exact PySem.HandSPX.exc_get I1.kIn i T.ga T.gg T.exC (PySem.W.findObj_own T.hdC no_ rfl hu) (handed_of ru) ⟨v, H1, I1.tok _, ru, q⟩
end
end GS
/-! The head's facts with tables of code objects; defs that make lambdas; a def that calls what it got. -/
namespace GS
open PySem PySem.W PySem.Calls PyProof.Rows He
/-- what the head tells, the tables of the defs tf left out of the written part: empty -/
structure SaysL (fa : List He.Fa) (ex : List Chk) (fn : List He5.DefA) (tf : List Defn) (h : Heap) (K : PySem.W.Frag) : Prop where
  m : SaysM fa ex fn K
  hd : ∀ p ∈ tf, PySem.W.codeHdIn K (cT K p).1 (cT K p).2 = true
  out : ∀ p ∈ tf, K.lookup (cT K p).2 = none
  empty : ∀ p ∈ tf, h.get? (cT K p).2 = some { cls := .none, data := .fields #[] }
def obsLG (n : Nat) (fa : List He.Fa) (ex : List Chk) (fn : List He5.DefA) (tf : List Defn) (g : Addr → Option Obj) : He.AlD × Bool := (obsM fa ex fn (frT g (He5.asA g n)), tabsB g tf (frT g (He5.asA g n)))
theorem saysL_of {n : Nat} {fa : List He.Fa} {ex : List Chk} {fn : List He5.DefA} {tf : List Defn} {h : Heap} (e : obsLG n fa ex fn tf h.get? = (He5.valA fn, true)) : SaysL fa ex fn tf h (frT h.get? (He5.asA h.get? n)) := by
  have e1 : obsM fa ex fn (frT h.get? (He5.asA h.get? n)) = He5.valA fn := congrArg (fun z : He.AlD × Bool => z.1) e
  have h2 : tabsB h.get? tf (frT h.get? (He5.asA h.get? n)) = true := congrArg (fun z : He.AlD × Bool => z.2) e
  have key : ∀ p ∈ tf, PySem.W.codeHdIn (frT h.get? (He5.asA h.get? n)) (cT (frT h.get? (He5.asA h.get? n)) p).1 (cT (frT h.get? (He5.asA h.get? n)) p).2 = true ∧ ∃ o, h.get? (cT (frT h.get? (He5.asA h.get? n)) p).2 = some o ∧ emptyTab o = true := fun p hp => by
    obtain ⟨h3, h4⟩ := ba (List.all_eq_true.mp h2 p hp)
    refine ⟨h3, ?_⟩
    cases q : h.get? (cT (frT h.get? (He5.asA h.get? n)) p).2 with
    | none =>
      rw [q] at h4
      cases h4
    | some o =>
      rw [q] at h4
      exact ⟨o, rfl, h4⟩
  exact ⟨e1, fun p hp => (key p hp).1, fun p hp => by
    obtain ⟨_, o, q, z⟩ := key p hp
    exact frT_none q z, fun p hp => by
    obtain ⟨_, o, q, z⟩ := key p hp
    rw [q, emptyTab_eq z]⟩
def hookL (n : Nat) (fa : List He.Fa) (ex : List Chk) (fn : List He5.DefA) (tf : List Defn) : PySem.W.Hook where
  α := He.AlD × Bool
  obs s := obsLG n fa ex fn tf s.heap.get?
  val _ := (He5.valA fn, true)
  says _ h := ∃ K : PySem.W.Frag, K.In h ∧ SaysL fa ex fn tf h K
  of _ _ e := ⟨_, frT_in, saysL_of e⟩
  keeps := fun _ _ _ ⟨K, i, c⟩ k => ⟨K, Frag.In.keeps i k, ⟨c.m, c.hd, c.out, fun p hp => k _ _ (c.empty p hp)⟩⟩
theorem obsLG_eq {n : Nat} {fa : List He.Fa} {ex : List Chk} {fn : List He5.DefA} {tf : List Defn} {g : Addr → Option Obj} {s : Shared} (h : ∀ a, g a = s.heap.get? a) : obsLG n fa ex fn tf g = (hookL n fa ex fn tf).obs s := by
  obtain rfl : g = s.heap.get? := funext h
  rfl
theorem SaysL.code {fa : List He.Fa} {ex : List Chk} {fn : List He5.DefA} {tf : List Defn} {h : Heap} {K : PySem.W.Frag} (X : K.In h) (c : SaysL fa ex fn tf h K) : ∀ p ∈ tf, PySem.W.CodeHd h (cT K p).1 (cT K p).2 := fun p hp => codeHd_of_K X (c.hd p hp)
end GS
namespace GS
open PySem PySem.Spec PyProof.Rows L2 LamX
/-- a def whose code object is told -/
theorem okL {P : Program} {w : World} {K : PySem.W.Frag} {mg : PySem.Str → Option Value} {base : Heap} {CX : CXT} {k : Nat} {f : Addr} {fd : FuncData} {ps : List PySem.Str} {sp : Sp}
    {x qual : PySem.Str} {params : Arguments} {body : List Stmt} {scope : Scope} {dvs : List V} {kws : List (PySem.Str × V)} {N : List PySem.Str} {p : He.Defn} (hf : He.fAd K p = f) (F : FunD K x qual params body scope dvs kws f fd) (S : FnScope N ps scope) (wide : ∀ vs H Q E, sp vs H Q E → vs.length = ps.length)
    (text : ∀ (cdv : Value) (A : Around) (outer : List Env) (s : Shared) (H : Hp) (vs : List V) (Q : VK) (E : XK), cdv = .ref (He.cT K p).1 → A.guards = some [] → Room k (A.deeper (envOfC qual scope s.heap.objs.size f cdv)) → sp vs H Q E →
      ∃ t, PSs (cxOf CX P w K mg base N qual scope f cdv A outer s H E) body t ∧ t { nx := fun _ H' => Q .non H', rt := Q } (start N vs) H) : FnG P w K mg base CX (k + 1) f fd ps sp := by
  obtain ⟨oc, od, dV, kV, doc, pm, an, cdv, ct, osl, rfl, known, code, -, -⟩ := F.ex
  refine ⟨wide, fun A quiet room outer s H args us vs Q E e bind same want => ?_⟩
  have stays : ∀ b o, base.get? b = some o → s.heap.get? b = some o := fun b o z => (e.bs b o z).1
  have inK : K.In s.heap := e.mod.kin.keeps stays
  have free : s.heap.NoLimit := e.mod.nolimit.keeps stays
  have cd : cdv = .ref (He.cT K p).1 := by
    obtain ⟨c, hc⟩ := He.codeIn_ref code
    have lk := known
    rw [← hf] at lk
    have := He.codeOf_eq (c := c) lk hc
    rw [hc]
    show Value.ref c = Value.ref (He.codeOf K p)
    rw [this]
  refine codeAny_call_function room.depth (inK _ _ known) rfl S.co S.gen rfl (PySem.W.codeRec_of inK code) (bind _ _ _ _ ?_)
  refine wpAny_newFunctionEnv_cells S.kind ?slots fun env made s1 laid => ?run
  case slots =>
    intro y hy
    obtain ⟨n, v⟩ := y
    have hn := (List.of_mem_zip hy).1
    cases S.par n hn with
    | inl z => exact .inl z
    | inr z => exact .inr ⟨z, PySem.W.cellsFrom_some _ _ _ (.inl z)⟩
  case run =>
    subst made
    refine ⟨free.keeps laid.toInCall.keep, codeAny_func ?_⟩
    obtain ⟨t, reads, goal⟩ := text cdv A outer s H vs Q E cd quiet (room.deeper _) want
    have begun := inv_start (CX := CX) (E := E) S room.hd e (wide _ _ _ _ want) same laid
    refine wpAny_mono (reads.run [] s1 (start N vs) H _ begun goal) (fun way s' z => ?_) fun err s' z => z
    match way, z with
    | .ret u, ⟨v, σ', H', J, rv, q⟩ => exact end_of (A := A) (E := E) rfl rfl rfl rfl rfl rfl J rv q
    | .next, ⟨σ', H', J, q⟩ => exact end_of (A := A) (E := E) (v := V.non) (u := Value.none) rfl rfl rfl rfl rfl rfl J rfl q
    | .brk, ⟨_, _, _, q⟩ => exact False.elim q
    | .cont, ⟨_, _, _, q⟩ => exact False.elim q
end GS
namespace GS
open PySem PySem.Spec PyProof.Rows L2 LamX
def kiB (x y : Str) (b : Bool) : Chk := fun K => decide (PySem.W.kitOne K (.ref (He.ga K x)) (.ref (He.ga K y)) = some b)
theorem kiB_ok {K : PySem.W.Frag} {x y : Str} {b : Bool} (h : kiB x y b K = true) : PySem.W.kitOne K (.ref (He.ga K x)) (.ref (He.ga K y)) = some b := of_decide_eq_true h
theorem pe_two {X : Cx} {e : Expr} {t1 t2 : TE} (h1 : PE X e t1) (h2 : PE X e t2) : PE X e (fun σ H Q => t1 σ H Q ∨ t2 σ H Q) := ⟨fun pins s σ H Q I h => by
  rcases h with h | h
  · exact h1.run pins s σ H Q I h
  · exact h2.run pins s σ H Q I h⟩
end GS
/-! zip of a list and a tuple, in any mix. -/
namespace GS
open PySem PySem.Spec PyProof.Rows L2 TL
def SqX (K : PySem.W.Frag) (H : Hp) : Bool → Addr → List V → Prop
  | true, a, xs => SqT K H a xs
  | false, a, xs => SqL K H a xs
def itAt (h : Heap) : Bool → Addr → Addr → Nat → Prop
  | true, it, a, i => h.IsTupleIter it a i
  | false, it, a, i => h.IsListIter it a i
def isAt (h : Heap) : Bool → Addr → Array Value → Prop
  | true, a, its => h.IsTuple a its
  | false, a, its => h.IsList a its
def itObj : Bool → Addr → Obj
  | true, a => { cls := .type "tuple_iterator", data := .fields #[.ref a, .int 0 0] }
  | false, a => { cls := .type "list_iterator", data := .fields #[.ref a, .int 0 0] }
theorem dr_at {prog : Program} {w : World} {A : Around} (hh : A.handled = none) (t : Bool) (it a : Addr) (hne : a ≠ it) (items : Array Value) :
    Draws prog w A it [it, a] items.size (fun i v => items[i]? = some v) (fun i h => itAt h t it a i ∧ isAt h t a items) := by
  cases t with
  | true => exact Draws.tuple hh it a hne items
  | false => exact Draws.list hh it a hne items
theorem itAt_obj {h : Heap} {t : Bool} {it a : Addr} {i : Nat} (x : itAt h t it a i) : ∃ o, h.get? it = some o ∧ ∀ v, o.data ≠ .cell v := by
  cases t with
  | true => exact let ⟨o, e, _, d⟩ := x; ⟨o, e, fun v q => by rw [d] at q; cases q⟩
  | false => exact let ⟨o, e, _, d⟩ := x; ⟨o, e, fun v q => by rw [d] at q; cases q⟩
theorem itAt_keep {h h' : Heap} {t : Bool} {it a : Addr} {i : Nat} (x : itAt h t it a i) (k : ∀ o, h.get? it = some o → h'.get? it = some o) : itAt h' t it a i := by
  cases t with
  | true => exact Heap.IsTupleIter.at x k
  | false => exact Heap.IsListIter.at x k
theorem isAt_keep {h h' : Heap} {t : Bool} {a : Addr} {its : Array Value} (x : isAt h t a its) (k : ∀ o, h.get? a = some o → h'.get? a = some o) : isAt h' t a its := by
  cases t with
  | true => exact Heap.IsTuple.at x k
  | false => exact Heap.IsList.at x k
theorem isAt_lt {h : Heap} {t : Bool} {a : Addr} {its : Array Value} (x : isAt h t a its) : a < h.objs.size := by
  cases t with
  | true => exact let ⟨o, e, _⟩ := x; Heap.lt_size e
  | false => exact let ⟨o, e, _⟩ := x; Heap.lt_size e
theorem beg_at (t : Bool) (a : Addr) (items : Array Value) : Begins (.ref a) (itObj t a) fun h => isAt h t a items := by
  cases t with
  | true => exact begins_tuple a items
  | false => exact begins_list a items
theorem itAt_new {h : Heap} {t : Bool} {it a : Addr} (e : h.get? it = some (itObj t a)) : itAt h t it a 0 := by
  cases t with
  | true => exact ⟨_, e, rfl, rfl⟩
  | false => exact ⟨_, e, rfl, rfl⟩
section
variable {X : Cx} {pins : List (Addr × Obj)} {σ : L2.St} {H : Hp} {s : Shared} {t : Bool} {a : Addr} {xs : List V}
theorem sqX_get (I : Inv X pins σ H s) (h : SqX X.K H t a xs) : ∃ its, Vals xs its ∧ isAt s.heap t a its.toArray := by
  cases t with
  | true => obtain ⟨its, rv, p, _⟩ := I.tuple h; exact ⟨its, rv, p⟩
  | false => obtain ⟨its, rv, p, _⟩ := I.list h; exact ⟨its, rv, p.isList⟩
theorem sqX_inj (I : Inv X pins σ H s) {ys : List V} (h : SqX X.K H t a xs) (g : SqX X.K H t a ys) : xs = ys := by
  cases t with
  | true => exact I.tuple_inj h g
  | false => exact I.list_inj h g
end
def ItzX (K : PySem.W.Frag) (t1 t2 : Bool) (a b : Addr) : It :=
  ⟨fun i H => ∃ (xs ys : List V) (x y : V), SqX K H t1 a xs ∧ SqX K H t2 b ys ∧ xs[i]? = some x ∧ ys[i]? = some y,
    fun i H v H' => ∃ T x y, v = .ref T ∧ H T = none ∧ H' = upd H T (.tup [x, y]) ∧ (∀ xs, SqX K H t1 a xs → xs[i]? = some x) ∧ ∀ ys, SqX K H t2 b ys → ys[i]? = some y,
    fun i H => ∃ xs ys : List V, SqX K H t1 a xs ∧ SqX K H t2 b ys ∧ i ≤ xs.length ∧ i ≤ ys.length ∧ (i = xs.length ∨ i = ys.length)⟩
theorem turn_zipX {P : Program} {w : World} {K : PySem.W.Frag} {elts : List Expr} {kk : Nat} {tpos : Pos} {t1 t2 : Bool} {a b z TI TO i1 i2 : Addr} (D : ZipSep2 z TI TO i1 i2 [i1, a] [i2, b]) :
    Turn P w K (.Tuple elts kk tpos) (ItzX K t1 t2 a b) [z, TI, TO, i1, i2] z (fun i h => IsZip h z TI TO .none ∧ IsTupOf2 h TI (.ref i1) (.ref i2) ∧ (∃ x y, IsTupOf2 h TO x y) ∧ itAt h t1 i1 a i ∧ itAt h t2 i2 b i) where
  mem := by simp
  obj := fun i h st c hc => by
    obtain ⟨hz, hTI, ⟨x, y, hTO⟩, h1, h2⟩ := st
    have e' : c = z ∨ c = TI ∨ c = TO ∨ c = i1 ∨ c = i2 := by simpa using hc
    rcases e' with q | q | q | q | q
    · rw [q]; exact ⟨_, hz, fun v q => nomatch q⟩
    · rw [q]; exact ⟨_, hTI, fun v q => nomatch q⟩
    · rw [q]; exact ⟨_, hTO, fun v q => nomatch q⟩
    · rw [q]; exact itAt_obj h1
    · rw [q]; exact itAt_obj h2
  keep := fun i h h' st k => by
    obtain ⟨hz, hTI, ⟨x, y, hTO⟩, h1, h2⟩ := st
    exact ⟨k z (by simp) _ hz, k TI (by simp) _ hTI, ⟨x, y, k TO (by simp) _ hTO⟩, itAt_keep h1 fun o q => k i1 (by simp) o q, itAt_keep h2 fun o q => k i2 (by simp) o q⟩
  item := by
    intro X hP hw hK hc i pins s σ H E I hf st hg
    subst hP hw hK
    obtain ⟨hz, hTI, ⟨x0, y0, hTO⟩, h1, h2⟩ := st
    obtain ⟨xs, ys, x, y, hqx, hqy, hx, hy⟩ := hg
    obtain ⟨its, rv, p⟩ := sqX_get I hqx
    obtain ⟨its2, rv2, p2⟩ := sqX_get I hqy
    obtain ⟨u, hu, ru⟩ := rv.get hx
    obtain ⟨u2, hu2, ru2⟩ := rv2.get hy
    have hzl : z < s.heap.objs.size := Heap.lt_size hz
    have n1 : a ≠ i1 := fun e => by
      have := (hf i1 (by simp)).1
      have hh := itAt_obj h1
      rw [← e] at hh this
      obtain ⟨o, q, _⟩ := hh
      cases t1 with
      | true =>
        obtain ⟨o2, e2, c2, _⟩ := (show s.heap.IsTuple a its.toArray from p)
        obtain ⟨o3, e3, c3, _⟩ := (show s.heap.IsTupleIter i1 a i from h1)
        rw [← e, e2] at e3
        cases e3
        rw [c2] at c3
        exact absurd c3 (by decide)
      | false =>
        obtain ⟨o2, e2, c2, _⟩ := (show s.heap.IsList a its.toArray from p)
        obtain ⟨o3, e3, c3, _⟩ := (show s.heap.IsListIter i1 a i from h1)
        rw [← e, e2] at e3
        cases e3
        rw [c2] at c3
        exact absurd c3 (by decide)
    have n2 : b ≠ i2 := fun e => by
      cases t2 with
      | true =>
        obtain ⟨o2, e2, c2, _⟩ := (show s.heap.IsTuple b its2.toArray from p2)
        obtain ⟨o3, e3, c3, _⟩ := (show s.heap.IsTupleIter i2 b i from h2)
        rw [← e, e2] at e3
        cases e3
        rw [c2] at c3
        exact absurd c3 (by decide)
      | false =>
        obtain ⟨o2, e2, c2, _⟩ := (show s.heap.IsList b its2.toArray from p2)
        obtain ⟨o3, e3, c3, _⟩ := (show s.heap.IsListIter i2 b i from h2)
        rw [← e, e2] at e3
        cases e3
        rw [c2] at c3
        exact absurd c3 (by decide)
    have k1 : i < its.toArray.size := by have := (List.getElem?_eq_some_iff.mp hu).1; simpa using this
    have k2 : i < its2.toArray.size := by have := (List.getElem?_eq_some_iff.mp hu2).1; simpa using this
    refine wpAny_pyNext_zipD2_item D (dr_at (prog := X.prog) (w := X.w) (A := X.A.in1) (I.ok.hd hc) t1 i1 a n1 its.toArray) (dr_at (prog := X.prog) (w := X.w) (A := X.A.in1) (I.ok.hd hc) t2 i2 b n2 its2.toArray) hz hTI hTO ⟨h1, p⟩ ⟨h2, p2⟩ k1 k2 fun x1 x2 h' tk y1 y2 z' TO' st1' st2' hT hsz hk => ?_
    have e1 : x1 = u := by have : its[i]? = some x1 := by simpa using y1
                           rw [hu] at this; exact (Option.some.inj this).symm
    have e2 : x2 = u2 := by have : its2[i]? = some x2 := by simpa using y2
                            rw [hu2] at this; exact (Option.some.inj this).symm
    subst e1 e2
    refine ⟨_, rfl, wpAny_letOwnedTupleGo_zip (s := { s with heap := h', toks := tk }) z' fun h'' z'' sb => ?_⟩
    have hT2 : h''.get? s.heap.objs.size = some { cls := .type "tuple", data := .seq #[x1, x2] } := (sb.2 _ (Nat.ne_of_gt hzl)).trans hT
    have new : ObjOk X.prog X.w (upd H s.heap.objs.size (.tup [x, y])) h'' s.heap.objs.size (.tup [x, y]) :=
      ⟨by show 2 ≤ sizeLine; decide, [x1, x2], .cons ru (.cons ru2 .nil), ⟨_, hT2, rfl, _, rfl⟩⟩
    have I1 : Inv X pins σ (upd H s.heap.objs.size (.tup [x, y])) { s with heap := h'', toks := tk } :=
      I.turnedNew (t' := tk) (ch := [z, TI, TO, i1, i2]) (fun c o hb q => (sb.2 c (fun q' => hb (by simp [q']))).trans (hk c o (fun q' => hb (by simp [q'])) (fun q' => hb (by simp [q'])) (fun q' => hb (by simp [q'])) (fun q' => hb (by simp [q'])) q)) hf (Nat.le_refl _) new
    have TOi2 : TO ≠ i2 := D.Ti2
    refine ⟨.ref s.heap.objs.size, _, I1, rfl, ⟨_, x, y, rfl, I.hok.fresh (Nat.le_refl _), rfl, fun l hl => by rw [sqX_inj I hl hqx]; exact hx, fun l hl => by rw [sqX_inj I hl hqy]; exact hy⟩, ⟨z'', ?_, ⟨x1, x2, ?_⟩, ?_, ?_⟩, fun c hcm => ?_⟩
    · exact (sb.2 _ D.TIz).trans (hk _ _ D.TIz D.TITO D.TIi1 D.TIi2 hTI)
    · exact (sb.2 _ D.TOz).trans TO'
    · exact itAt_keep st1'.1 fun o q => (sb.2 _ (Ne.symm D.zi1)).trans q
    · exact itAt_keep st2'.1 fun o q => (sb.2 _ (Ne.symm D.zi2)).trans q
    · have hlt : c < s.heap.objs.size := by
        have e' : c = z ∨ c = TI ∨ c = TO ∨ c = i1 ∨ c = i2 := by simpa using hcm
        rcases e' with q | q | q | q | q
        · rw [q]; exact hzl
        · rw [q]; exact Heap.lt_size hTI
        · rw [q]; exact Heap.lt_size hTO
        · rw [q]; obtain ⟨_, e1, _⟩ := itAt_obj h1; exact Heap.lt_size e1
        · rw [q]; obtain ⟨_, e2, _⟩ := itAt_obj h2; exact Heap.lt_size e2
      rw [upd_ne (Nat.ne_of_lt hlt)]
      exact (hf c hcm).1
  done := by
    intro X hP hw hK hc i pins s σ H E I hf st hg
    subst hP hw hK
    obtain ⟨hz, hTI, ⟨x0, y0, hTO⟩, h1, h2⟩ := st
    obtain ⟨xs, ys, hqx, hqy, l1, l2, hend⟩ := hg
    obtain ⟨its, rv, p⟩ := sqX_get I hqx
    obtain ⟨its2, rv2, p2⟩ := sqX_get I hqy
    have m1 := rv.length
    have m2 := rv2.length
    have n1 : a ≠ i1 := fun e => by
      cases t1 with
      | true =>
        obtain ⟨o2, e2, c2, _⟩ := (show s.heap.IsTuple a its.toArray from p)
        obtain ⟨o3, e3, c3, _⟩ := (show s.heap.IsTupleIter i1 a i from h1)
        rw [← e, e2] at e3
        cases e3
        rw [c2] at c3
        exact absurd c3 (by decide)
      | false =>
        obtain ⟨o2, e2, c2, _⟩ := (show s.heap.IsList a its.toArray from p)
        obtain ⟨o3, e3, c3, _⟩ := (show s.heap.IsListIter i1 a i from h1)
        rw [← e, e2] at e3
        cases e3
        rw [c2] at c3
        exact absurd c3 (by decide)
    have n2 : b ≠ i2 := fun e => by
      cases t2 with
      | true =>
        obtain ⟨o2, e2, c2, _⟩ := (show s.heap.IsTuple b its2.toArray from p2)
        obtain ⟨o3, e3, c3, _⟩ := (show s.heap.IsTupleIter i2 b i from h2)
        rw [← e, e2] at e3
        cases e3
        rw [c2] at c3
        exact absurd c3 (by decide)
      | false =>
        obtain ⟨o2, e2, c2, _⟩ := (show s.heap.IsList b its2.toArray from p2)
        obtain ⟨o3, e3, c3, _⟩ := (show s.heap.IsListIter i2 b i from h2)
        rw [← e, e2] at e3
        cases e3
        rw [c2] at c3
        exact absurd c3 (by decide)
    refine wpAny_pyNext_zipD2_end D (dr_at (prog := X.prog) (w := X.w) (A := X.A.in1) (I.ok.hd hc) t1 i1 a n1 its.toArray) (dr_at (prog := X.prog) (w := X.w) (A := X.A.in1) (I.ok.hd hc) t2 i2 b n2 its2.toArray) hz hTI hTO ⟨h1, p⟩ ⟨h2, p2⟩ (by rw [List.size_toArray]; omega) (by rw [List.size_toArray]; omega) (by rw [List.size_toArray, List.size_toArray]; omega) fun h' tk hk => ⟨rfl, ?_⟩
    exact I.turnedL (t' := tk) (ch := [z, TI, TO, i1, i2]) (fun c o hb q => hk c o (fun q' => hb (by simp [q'])) (fun q' => hb (by simp [q'])) (fun q' => hb (by simp [q'])) (fun q' => hb (by simp [q'])) q) hf
  self := fun A i s Q E st h => wpAny_pyIter_zip st.1 h
def iZipX (K : PySem.W.Frag) (ta : TA) : TI := fun σ H R => ta σ H fun vs H1 => ∃ t1 t2 a b xs ys, vs = [.ref a, .ref b] ∧ SqX K H1 t1 a xs ∧ SqX K H1 t2 b ys ∧ R (ItzX K t1 t2 a b) H1
theorem pi_zipX {X : Cx} {e e2 : Expr} {ta : TA} {p pos tpos : Pos} {elts : List Expr} {kk : Nat} (hg : Gl X "zip") (hm : X.mg "zip" = none) (ha : PA X [e, e2] ta)
    (hs : starEach [e, e2] X.env = (false, eval e X.env) :: starEach [e2] X.env := by rfl) (hpl : (backTo pos (starEach [e2] X.env)).any (·.1) = false := by rfl) :
    PI X (.Tuple elts kk tpos) (.Call (.Name "zip" p) [e, e2] [] pos) (iZipX X.K ta) := by
  refine ⟨fun pins s σ H R I h => ?_⟩
  refine Call_ (ld_blt I hg hm PyProof.Rows.boot_zip (PyProof.Rows.callWith_type1 (thn (ha.run pos pins s σ H _ I h) fun us s1 ⟨vs, H1, I1, r1, q1⟩ => ?_) hs hpl))
  obtain ⟨t1, t2, a, b, xs, ys, ex, hqx, hqy, q⟩ := q1
  subst ex
  cases r1 with
  | cons r rr =>
    cases rr with
    | cons r' rr =>
      cases rr
      cases r
      cases r'
      have fresh5 : ∀ c, c ∈ [s1.heap.objs.size + 4, s1.heap.objs.size + 2, s1.heap.objs.size + 3, s1.heap.objs.size, s1.heap.objs.size + 1] → FpOk X pins H1 c := fun c hcm => by
        have e' : c = s1.heap.objs.size + 4 ∨ c = s1.heap.objs.size + 2 ∨ c = s1.heap.objs.size + 3 ∨ c = s1.heap.objs.size ∨ c = s1.heap.objs.size + 1 := by simpa using hcm
        have hle : s1.heap.objs.size ≤ c := by
          rcases e' with z | z | z | z | z
          · rw [z]; exact Nat.le_add_right _ _
          · rw [z]; exact Nat.le_add_right _ _
          · rw [z]; exact Nat.le_add_right _ _
          · rw [z]; exact Nat.le_refl _
          · rw [z]; exact Nat.le_add_right _ _
        exact I1.fpOk hle (I1.hok.fresh hle)
      obtain ⟨its, rv, p1⟩ := sqX_get I1 hqx
      obtain ⟨its2, rv2, p2⟩ := sqX_get I1 hqy
      refine zip_begins2 (beg_at t1 a its.toArray) (beg_at t2 b its2.toArray) p1 p2 fun h' hz hTI hTO h1 h2 hsz hk => wpAny_pyIter_zip hz ?_
      have I2 : Inv X pins σ H1 { s1 with heap := h' } := I1.kept (t' := s1.toks) hk
      have sep : ZipSep2 (s1.heap.objs.size + 4) (s1.heap.objs.size + 2) (s1.heap.objs.size + 3) s1.heap.objs.size (s1.heap.objs.size + 1) [s1.heap.objs.size, a] [s1.heap.objs.size + 1, b] :=
        zip_sep2 (fun c hc => by rw [List.mem_singleton.mp hc]; exact isAt_lt p1) (fun c hc => by rw [List.mem_singleton.mp hc]; exact isAt_lt p2)
      exact ⟨s1.heap.objs.size + 4, [s1.heap.objs.size + 4, s1.heap.objs.size + 2, s1.heap.objs.size + 3, s1.heap.objs.size, s1.heap.objs.size + 1], _, _, H1, rfl, I2, turn_zipX sep, ⟨hz, hTI, ⟨_, _, hTO⟩, itAt_new h1, itAt_new h2⟩, fresh5, q⟩
theorem sqX_ex {K : PySem.W.Frag} {H H' : Hp} {t : Bool} {a : Addr} {xs : List V} (e : Ex H H') (h : SqX K H t a xs) : SqX K H' t a xs := by
  cases t with
  | true => exact e.sqt h
  | false => exact e.sql h
theorem walk_zipX {K : PySem.W.Frag} {t1 t2 : Bool} {a b : Addr} {xs ys : List V} {n : Nat} (hn : n = min xs.length ys.length) : Walk (ItzX K t1 t2 a b) n (fun H => SqX K H t1 a xs ∧ SqX K H t2 b ys) (YPair (fun i => xs[i]?) (fun i => ys[i]?)) := by
  subst hn
  refine ⟨fun i _ hi q => ?_, fun _ q => ⟨xs, ys, q.1, q.2, by omega, by omega, by omega⟩, fun i H v H' _ q y => ?_⟩
  · have h1 : i < xs.length := by omega
    have h2 : i < ys.length := by omega
    exact ⟨xs, ys, xs[i], ys[i], q.1, q.2, by simp [h1], by simp [h2]⟩
  · obtain ⟨T, x, z, h1, h2, h3, h4, h5⟩ := y
    exact ⟨T, x, z, h1, h2, h3, h4 xs q.1, h5 ys q.2⟩
theorem r_zipX {K : PySem.W.Frag} {ta : TA} {σ : L2.St} {H : Hp} {R : It → Hp → Prop} (q : ta σ H fun vs H1 => ∃ t1 t2 a b xs ys, vs = [.ref a, .ref b] ∧ SqX K H1 t1 a xs ∧ SqX K H1 t2 b ys ∧ R (ItzX K t1 t2 a b) H1) : iZipX K ta σ H R := q
end GS
/-! A lambda handed to a def that calls it in a try: what is raised is wished for at the slots of that def. -/
namespace GS
open PySem PySem.Spec PyProof.Rows L2 LamX
section
variable {X : Cx} {pins : List (Addr × Obj)} {σ : L2.St} {H : Hp} {s : Shared}
theorem act_at {CXg : CXT} {Eg : XK} {Ng : List Str} {qg : Str} {sg : Scope} {g f c' : Addr} {cdg pm ctv : Value} {params : Arguments} {body : Expr} {scope : Scope} {k i : Nat} {a : Str} {pn : List (Addr × Obj)} {xe : Value → Shared → Prop} {W : WX} {E : L2.St → XK} {t : XK → TE} {p1 p2 : Pos}
    (I : Inv X pins σ H s) (L : LamS X.env.scope scope) (hf : s.heap.get? f = some (PySem.W.kla_obj "<lambda>" (X.env.qual ++ "<lambda>") params body scope (cloFrom X.env.cells scope.names []) pm c' ctv)) (hfn : H f = none) (hfr : f ∉ frs X.stack)
    (hbind : bindArgs (PySem.W.kla_fn "<lambda>" (X.env.qual ++ "<lambda>") params body scope (cloFrom X.env.cells scope.names []) pm (.ref c') ctv) ⟨[], []⟩ = pure [])
    (tk : Takes ((cxOf CXg X.prog X.w X.K X.mg X.base Ng qg sg g cdg X.A X.stack s H Eg).tr pn xe) W) (hW : ∀ σ' cls d H', E σ' cls d H' → W cls d σ' H') (hr : Room (k + 1) (X.A.deeper (envOfC qg sg s.heap.objs.size g cdg)))
    (hbody : ∀ (A : Around) (outer : List Env) (s : Shared) (H : Hp) (E : XK), Room k (A.deeper (lamEnv X scope s.heap.objs.size f c')) → PE (lamCx X A outer s H E scope f c') body (t E))
    (hN : Ng[i]? = some a) (hv : Vis sg a) (hd : (a == ("__debug__" : Str)) = false) (hcd : (a == ("__classdict__" : Str)) = false) :
    PE ((cxOf CXg X.prog X.w X.K X.mg X.base Ng qg sg g cdg X.A X.stack s H Eg).tr pn xe) (.Call (.Name a p1) [] [] p2)
      (fun σZ HZ Q => σZ[i]? = some (some (.ref f)) ∧ HZ c' = some (CodeO c' (X.env.qual ++ "<lambda>")) ∧ t (E σZ) σ HZ Q) := by
  refine ⟨fun pinsZ sZ σZ HZ Q IZ want => ?_⟩
  obtain ⟨slot, code, goal⟩ := want
  refine wpAny_Call_Name_kw (thn ((pe_var (pos := p1) (i := i) hN hv hd hcd).run pinsZ sZ σZ HZ (fun v H1 => v = .ref f ∧ H1 = HZ) IZ ⟨.ref f, slot, rfl, rfl⟩) fun u s1 ⟨v, H1, I1, r1, q1⟩ => ?_)
  obtain ⟨ev, eH⟩ := q1
  subst ev
  rw [eH] at I1
  obtain rfl : u = Value.ref f := r1
  have here : s1.heap.get? f = some (PySem.W.kla_obj "<lambda>" (X.env.qual ++ "<lambda>") params body scope (cloFrom X.env.cells scope.names []) pm c' ctv) := I1.base.keep f _ hf hfn hfr (fun z => nomatch (show f ∈ ([] : List Addr) from z))
  refine PySem.W.callWith_F0 ⟨_, _, _, _, here⟩ ?_
  have un : Un (frs X.stack) [] H HZ s.heap s1.heap := I1.base
  obtain ⟨⟨oc, vs, tk1, hoc, hdc, hvc⟩, _, _⟩ := I1.hok c' _ code
  have ran : codeAny (model X.prog X.w) (X.A.deeper (envOfC qg sg s.heap.objs.size g cdg)) (.call (.ref f) ⟨[], []⟩) (CR (L2.CX X.prog X.w) (envOfC qg sg s.heap.objs.size g cdg :: X.stack) X.prog X.w HZ s1 Q (E σZ)) s1 := by
    refine PySem.W.kla_callFunE hr.depth here rfl L.co L.gen rfl ⟨c', oc, vs, tk1, rfl, hoc, hdc, hvc⟩ ?_
    rw [hbind]
    refine wpAny_pure (wpAny_newFunctionEnv (fun y hy => (L.own y hy).2) (fun y hy => absurd hy (by simp)) (fun h₁ hns hsb => ⟨I1.nolimit.fresh _ hsb, ?_⟩) L.kind)
    show codeAny _ _ (.expr body (lamEnv X scope s1.heap.objs.size f c')) _ _
    have kp : ∀ b o, s1.heap.get? b = some o → h₁.get? b = some o := fun b o e => hsb.extBut b o (Nat.ne_of_lt (Heap.lt_size e)) (Heap.get?_push_of_some _ e)
    have J := lam_start2 (E := E σZ) (f := f) (c' := c') (tk := s1.toks + ([] : List (Str × Value)).length) I L I1.env0 hr.hd un hns kp
    refine PySem.W.kla_codeExpr (wpAny_mono ((hbody _ _ s1 HZ (E σZ) (hr.deeper _)).run [] _ _ HZ Q J goal) (fun v s' hq => ?_) fun e s' hq => hq)
    obtain ⟨w', H', J', rv, q⟩ := hq
    exact ⟨w', H', J'.os, J'.bare, J'.base, J'.hok, rv, q⟩
  refine wpAny_call (codeAny_mono ran fun r s' hq => ?_)
  match r, hq with
  | .error e, hq => exact tk e s' (XE.of_call I1 (fun cls d H' h => hW σZ cls d H' h) hq)
  | .ok (.ret u), hq => exact I1.after hq
  | .ok .next, hq => exact False.elim hq
  | .ok .brk, hq => exact False.elim hq
  | .ok .cont, hq => exact False.elim hq
end
/-- the def that calls what it got, in a try -/
def GivesS (X : Cx) (Ng : List Str) (x : Str) (sg : Scope) (g : Addr) (cdg : Value) (bg : List Stmt) (a : Str) (q : Str) (TT : (XK → Hp → VK → Prop) → Hp → VK → Prop) : Prop :=
  ∀ (f c' : Addr) (s : Shared) (H : Hp) (Q : VK) (tl : XK → Hp → VK → Prop),
    (∀ (W : WX) (pn : List (Addr × Obj)) (xe : Value → Shared → Prop) (E : L2.St → XK) (p1 p2 : Pos), Takes ((cxOf C8.CX0 X.prog X.w X.K X.mg X.base Ng x sg g cdg X.A X.stack s H C8.E0).tr pn xe) W → (∀ σ' cls d H', E σ' cls d H' → W cls d σ' H') →
      PE ((cxOf C8.CX0 X.prog X.w X.K X.mg X.base Ng x sg g cdg X.A X.stack s H C8.E0).tr pn xe) (.Call (.Name a p1) [] [] p2) (fun σZ HZ Q => σZ[0]? = some (some (.ref f)) ∧ HZ c' = some (CodeO c' q) ∧ tl (E σZ) HZ Q)) →
    H c' = some (CodeO c' q) → TT tl H Q →
    ∃ t, PSs (cxOf C8.CX0 X.prog X.w X.K X.mg X.base Ng x sg g cdg X.A X.stack s H C8.E0).nox bg t ∧ t { nx := fun _ H' => Q .non H', rt := Q } (L2.start Ng [.ref f]) H
theorem pe_lam {X : Cx} {TT : (XK → Hp → VK → Prop) → Hp → VK → Prop} {x a : Str} {g c P : Addr} {k : Nat} {pg : Arguments} {bg : List Stmt} {sg : Scope} {fd : FuncData} {Ng : List Str}
    {params : Arguments} {body : Expr} {scope : Scope} {t : XK → TE} {p lpos pos : Pos} (hg : Gl X x) (hm : X.mg x = some (.ref g)) (hk : PySem.W.keepIn X.K (.ref g) = true)
    (F : FunD X.K x x pg bg sg [] [] g fd) (hb : L2.Binds X.K fd [a] []) (Sg : FnScope Ng [a] sg) (hNg : Ng[0]? = some a) (hva : Vis sg a)
    (hG : ∀ cdg, GivesS X Ng x sg g cdg bg a (X.env.qual ++ "<lambda>") TT)
    (TB : TabB X.base X.mg c P) (hcode : X.env.code = .ref c) (hr : Room (k + 2) X.A) (L : LamS X.env.scope scope) (hdef : defaultsOf params X.env = ([], []))
    (hbind : ∀ (q : Str) (cl : List (Str × Addr)) (pm cv ctv : Value), bindArgs (PySem.W.kla_fn "<lambda>" q params body scope cl pm cv ctv) ⟨[], []⟩ = pure [])
    (hbody : ∀ (A : Around) (outer : List Env) (s : Shared) (H : Hp) (E : XK) (f c' : Addr), Room k (A.deeper (lamEnv X scope s.heap.objs.size f c')) → PE (lamCx X A outer s H E scope f c') body (t E))
    (hdb : (x == ("__debug__" : Str)) = false := by decide) (hd : (a == ("__debug__" : Str)) = false := by decide) (hcd : (a == ("__classdict__" : Str)) = false := by decide) :
    PE X (.Call (.Name x p) [.Lambda params body scope lpos] [] pos) (tLam [(P, X.env.qual ++ "<lambda>")] TT t) := by
  obtain ⟨oc, od, dV, kV, doc, pm, an, cdv, ct, osl, rfl, known, hcg, -, -⟩ := F.ex
  refine ⟨fun pins s σ H Q I want => ?_⟩
  obtain ⟨tabs, goal⟩ := want
  refine wpAny_Call_Name_kw (ld_glob I hg hm ?_ hdb)
  refine PySem.W.callWith_K (h₀ := X.base) I.ok.mod.kin hk ?_ (by rfl) (by rfl)
  show wpAny _ _ (spliced ((false, eval (.Lambda params body scope lpos) X.env) :: backTo pos (starEach [] X.env))) _ _ s
  refine Calls.spliced_cons (lam_make2 I TB hcode List.mem_cons_self (fun p hp _ => by rw [List.mem_singleton.mp hp]) tabs hdef (L.has I.ok) fun f c' pm' ctv H1 s' I1 eN T1 hf hfn hfr hco => ?_)
  refine Calls.spliced_nil ⟨I1.kIn, ?_⟩
  have ran : codeAny (model X.prog X.w) X.A (.call (.ref g) ⟨[.ref f], []⟩) (CR C8.CX0 X.stack X.prog X.w H1 s' Q C8.E0) s' := by
    refine run_ofS (N := Ng) (ps := [a]) (us := [.ref f]) (vs := [.ref f]) known hcg Sg hr I1.env0 (hb s' [.ref f] I1.kIn rfl) (.cons rfl .nil) rfl fun hr' => ?_
    obtain ⟨t', reads, wants⟩ := hG cdv f c' s' H1 Q (fun E H' Q' => t E σ H' Q') (fun W pn xe E p1 p2 tk hW => act_at (i := 0) I1 L hf hfn hfr (hbind _ _ _ _ _) tk hW hr' (fun A outer s H E hr2 => hbody A outer s H E f c' hr2) hNg hva hd hcd) hco (goal H1 eN T1)
    exact ⟨t', reads.nox, wants⟩
  refine wpAny_call (codeAny_mono ran fun r s2 hq => ?_)
  match r, hq with
  | .error e, hq => exact (show False from hq).elim
  | .ok (.ret u), hq => exact I1.after hq
  | .ok .next, hq => exact False.elim hq
  | .ok .brk, hq => exact False.elim hq
  | .ok .cont, hq => exact False.elim hq
/-- a() within try, a what was got -/
def tAsk (f c' : Addr) (q : Str) (tl : XK → Hp → VK → Prop) (W : WX) : TS := fun D σ H => ∃ E : XK, (∀ cls d H', E cls d H' → W cls d σ H') ∧ σ[0]? = some (some (.ref f)) ∧ H c' = some (CodeO c' q) ∧ tl E H (fun _ H' => D.nx σ H')
theorem ps_ask {Y : Cx} {W : WX} {a : Str} {f c' : Addr} {q : Str} {tl : XK → Hp → VK → Prop} {p1 p2 p3 : Pos}
    (act : ∀ (E : L2.St → XK) (p1 p2 : Pos), Takes Y W → (∀ σ' cls d H', E σ' cls d H' → W cls d σ' H') → PE Y (.Call (.Name a p1) [] [] p2) (fun σZ HZ Q => σZ[0]? = some (some (.ref f)) ∧ HZ c' = some (CodeO c' q) ∧ tl (E σZ) HZ Q)) (tk : Takes Y W) :
    PS Y (.Expr (.Call (.Name a p1) [] [] p2) p3) (tAsk f c' q tl W) := by
  refine ⟨fun pins s σ H D I h => ?_⟩
  obtain ⟨E, hW, h1, h2, h3⟩ := h
  have e : (fun cls d H' => σ = σ ∧ E cls d H') = E := by
    funext cls d H'
    exact propext ⟨fun z => z.2, fun z => ⟨rfl, z⟩⟩
  refine (ps_expr (pos := p3) (act (fun σ' cls d H' => σ' = σ ∧ E cls d H') p1 p2 tk (fun σ' cls d H' z => by rw [z.1]; exact hW cls d H' z.2))).run pins s σ H D I ⟨h1, h2, ?_⟩
  show tl (fun cls d H' => σ = σ ∧ E cls d H') H _
  rw [e]
  exact h3
/-! a field's reading -/
def fldK (K : PySem.W.Frag) (f : Str) (Q : VK) : VK := fun x H1 => ∃ a C dx fs v, x = .ref a ∧ H1 a = some (.ins C dx fs) ∧ Cls K C ∧ NoAttr K C f ∧ fs.lookup f = some v ∧ Q v H1
theorem r_F {K : PySem.W.Frag} {f : Str} {te : TE} {σ : L2.St} {H : Hp} {Q : VK} (q : te σ H (fldK K f Q)) : tFld K te f σ H Q := q
theorem r_gUnl {K : PySem.W.Frag} {n : Nat} {gs : TGs} {p : Addr} {xs : List V} {σ : L2.St} {H : Hp} {N : L2.St → Hp → Prop} (h : H p = some (.lst xs)) (l : xs.length = n) (q : gs xs σ H N) : gUnl K n gs (.ref p) σ H N := ⟨p, xs, rfl, SqL.of h, l, q⟩
end GS
/-! A list comprehension whose element may raise, out of a call. -/
namespace GS
open PySem PySem.Spec PySem.Calls PyProof.Rows L2
/-- frames over a smaller ground -/
theorem ff_less {h B B' : Heap} (n : ∀ b, B.get? b = none → B'.get? b = none) : ∀ {l : List Env}, h.FunFrames B l → h.FunFrames B' l
  | [], _ => trivial
  | _ :: _, ⟨k, ⟨L, o, f, b, r⟩, t⟩ => ⟨k, ⟨L, o, f, n L b, r⟩, ff_less n t⟩
theorem hid_none {h : Heap} {C b : Addr} (e : h.get? b = none) : (PySem.W.hideAll h [C]).get? b = none := by
  cases q : (PySem.W.hideAll h [C]).get? b with
  | none => rfl
  | some o =>
    have z := PySem.W.of_hideAll _ q
    rw [e] at z
    cases z
theorem hid_ne {h : Heap} {C b : Addr} {o : Obj} (e : (PySem.W.hideAll h [C]).get? b = some o) : b ≠ C := by
  rintro rfl
  rw [PySem.W.hideAll_none [b] (List.mem_singleton.mpr rfl)] at e
  cases e
theorem held_hid {B h1 h2 : Heap} {l : List Env} {a C L : Addr} {Z : Obj → Prop} {m1 m2 : Str → Option Value} (n1 : h1.Ns C m1) (n2 : h2.Ns C m2) (sb : Heap.SameBut C h1 h2) (hh : HandSPX.HeldZ B l a Z L h1) : HandSPX.HeldZ (PySem.W.hideAll B [C]) l a Z L h2 := by
  obtain ⟨st, an, ff, oe, vs, T, oT, ts, e1, e2, e3, e4, e5, e6, e7, e8, e9⟩ := hh
  have noF : ∀ b o vs, h1.get? b = some o → o.data = .fields vs → b ≠ C := fun b o vs e z q => by
    obtain ⟨oc, _, _, hc, hd, _⟩ := n1
    rw [q, hc] at e
    cases e
    rw [hd] at z
    cases z
  refine ⟨fun b o e => ?_, hid_none an, ff_less (fun b e => hid_none e) (Heap.FunFrames.sameBut sb n2 ff), oe, vs, T, oT, ts, ?_, e2, e3, e4, hid_none e5, e6, ?_, e8, e9⟩
  · rw [sb.2 b (hid_ne e)]
    exact st b o (PySem.W.of_hideAll _ e)
  · rw [sb.2 a (noF _ _ _ e1 e3)]
    exact e1
  · rw [sb.2 T (noF _ _ _ e7 e8)]
    exact e7
section
variable {X : Cx} {pins : List (Addr × Obj)} {σ : L2.St} {H : Hp} {s : Shared}
theorem comp_fails {s3 : Shared} (I3 : Inv X pins σ H s3) {W : WX} {E : XK} (tk : Takes X W) (hW : ∀ cls d σ H, E cls d H → W cls d σ H) (hst : X.stack = X.env :: X.outer) (hf : X.env.frame = some X.env.locals) {scope : Scope} {ce : Env} {fp : List Addr}
    (cL : ce.locals = s3.heap.objs.size) (cF : ce.frame = X.env.frame) (f3 : ∀ b ∈ fp, FpOk X pins H b) {pn pins' : List (Addr × Obj)} {xe : Value → Shared → Prop} {σ' : L2.St} {H' : Hp} {s s' : Shared} {e : Value}
    (J : Inv ((X.blk s3 H scope ce fp).tr pn xe) pins' σ' H' s) (c : L2.CX X.prog X.w X.stack H' s E e s') : notedBy (model X.prog X.w) X.A ce (CompFails (model X.prog X.w) X.A X.xe ce) e s' := by
  obtain ⟨a, B, sI, pins1, σ1, H1, cls, d, rfl, J1, nb, up, sky, na, os, ag, w⟩ := XE.of_call (W := fun cls d _ H => E cls d H) J (fun _ _ _ h => h) c
  have fl : HandSPX.FlyingZ B X.stack a (Zc cls d) s'.heap := by
    obtain ⟨a', B', H'', cls', d', ea, fl', _⟩ := c
    cases ea
    obtain ⟨_, _, _, oe', vs', T', oT', ts', g1, g2, g3, g4, g5, g6, g7, g8, g9⟩ := fl'
    rcases sky with ⟨_, _, _, oe, vs, k1, k2, k3, k4⟩ | f | ⟨_, _, _, oe, vs, T, oT, ts, k1, k2, k3, k4, k5, k6, k7, k8, k9⟩
    · exfalso
      rw [g1] at k1
      cases k1
      rw [g3] at k3
      cases k3
      rw [g4] at k4
      cases k4
    · exact f
    · exfalso
      rw [g1] at k1
      cases k1
      rw [g3] at k3
      cases k3
      rw [g4] at k4
      cases k4
      rw [g7] at k7
      cases k7
      rw [g8] at k8
      cases k8
      rw [g9] at k9
      exact absurd (Option.some.inj k9) (by simp [rawInt])
  have IX : Inv X pins σ H1 sI := I3.call' (ch := fp) J1.os J1.base J1.hok J1.bare fun b hb => ⟨(f3 b hb).2.2.2.1, (f3 b hb).2.1, (f3 b hb).2.2.2.2.1, (f3 b hb).2.2.2.2.2⟩
  have nC : H1 ce.locals = none := J1.free
  have fC : FpOk X pins H1 ce.locals := by
    have z := nC
    rw [cL] at z ⊢
    exact I3.fpOk (Nat.le_refl _) z
  have IX2 : Inv X pins σ H1 { sI with heap := PySem.W.hideAll sI.heap [ce.locals], toks := sI.toks } := IX.turned (fun b o n e => PySem.W.hideAll_get _ e (by simpa using n)) fC.1 fC.2.1 fC.2.2.2.1 fC.2.2.2.2.1 fC.2.2.2.2.2
  have hfr : X.A.frames = some (X.env :: X.outer) := by rw [I3.ok.frames, hst]
  show wpAny (model X.prog X.w) X.A (noteFrame (.ref a) ce) _ _ s'
  rw [noteFrame_env _ cF]
  refine HandSPX.looks_onZ Zc.steady hfr hf (by rw [← hst]; exact fl) fun h1 hh1 up1 => ?_
  obtain ⟨m, hn, _⟩ := J1.loc
  have hn1 := Heap.UpToSlots.ns up1 (Heap.UpToSlots.ns up hn)
  refine ⟨m, hn1, fun h2 m2 hn2 hs2 => ?_⟩
  have hh2 := held_hid hn1 hn2 hs2 hh1
  obtain ⟨_, _, _, oe, vs, T, _, _, t1, _, t3, t4, _⟩ := id hh2
  unfold PySem.passOn
  refine wpAny_bind (wpAny_field t1 t3 t4 ?_)
  rw [if_neg (show ¬ ((Value.ref T == Value.none) = true) from by simp)]
  have fin : wpAny (model X.prog X.w) X.A (setFlight (.ref a) ce.frame) (fun _ s4 => wpAny (model X.prog X.w) X.A (throw (.ref a) : Sem Value) (fun _ _ => False) X.xe s4) X.xe { s' with heap := h2 } := by
    rw [cF, hf]
    refine HandSPX.setFlight_onZ hh2 fun h3 hh3 up3 => wpAny_throw (tk _ _ ?_)
    refine ⟨a, PySem.W.hideAll B [ce.locals], _, pins, σ, H1, cls, d, rfl, IX2, fun b o z hb => PySem.W.hideAll_get [ce.locals] (nb b o (PySem.W.of_hideAll _ z) hb) (by simpa using hid_ne z), fun b o z nf => ?_, .inr (.inr (by rw [hst]; exact hh3)), na, os, ag, hW _ _ _ _ w⟩
    obtain ⟨l1, q1⟩ := up b o (PySem.W.of_hideAll _ z) nf
    obtain ⟨l2, q2⟩ := up1 b _ q1 nf
    have q3 : h2.get? b = _ := (hs2.2 b (hid_ne z)).trans q2
    obtain ⟨l3, q4⟩ := up3 b _ q3 nf
    exact ⟨l3, q4⟩
  first
    | exact wpAny_bind (wpAny_pure (wpAny_bind fin))
    | exact wpAny_bind fin
/-- THE RULE: [elt for tg in iter if ..], elt may let out what a call in it lets out -/
theorem pe_lcE {W : WX} {E : XK} {elt tg iter : Expr} {ifs : List Expr} {scope : Scope} {own : List (Str × Nat)} {pos : Pos} {wi : TI} {g : TG} {tt : TT} {te : TE} (tk : Takes X W) (hW : ∀ cls d σ H, E cls d H → W cls d σ H) (hst : X.stack = X.env :: X.outer) (hf : X.env.frame = some X.env.locals)
    (hc : X.calm = true) (hN : X.N.Nodup) (hi : PI X tg iter wi) (ok : BlkOk X.N X.env.scope scope own) (hg : ∀ (s : Shared) (H : Hp) (C : Addr) (cl : List (Str × Addr)) (fp : List Addr), PG (X.blk s H scope (compEnvC scope cl C X.env) fp) tg g)
    (ht : ∀ (s : Shared) (H : Hp) (C : Addr) (cl : List (Str × Addr)) (fp : List Addr), PTs (X.blk s H scope (compEnvC scope cl C X.env) fp) ifs tt)
    (he : ∀ (s : Shared) (H : Hp) (C : Addr) (cl : List (Str × Addr)) (fp : List Addr) (pn : List (Addr × Obj)) (xe : Value → Shared → Prop), Passes (L2.CX X.prog X.w) ((X.blk s H scope (compEnvC scope cl C X.env) fp).tr pn xe) E → PE ((X.blk s H scope (compEnvC scope cl C X.env) fp).tr pn xe) elt te)
    (hs : ∀ x, foldedSetIterable iter X.env x = pure x := by intro _; rfl) : PE X (.ListComp elt [⟨tg, iter, ifs, 0⟩] scope pos) (tLc wi g tt te (own.map (·.2))) := by
  refine ⟨fun pins s σ H Q I h => ?_⟩
  rw [eval_ListComp]
  have free : ∀ y ∈ scope.names, y.2 = .free → ∃ c, X.env.cells.lookup y.1 = some c := fun y hy e => (ok.free y hy e).elim (fun k => I.ok.has _ (.inl k)) fun k => I.ok.has _ (.inr k)
  refine comprehension_at (use := none) rfl hs (closure_ok free) ok.kind (fun y hy e => by rw [ok.uniq y hy, e]) (thn (hi.run pins s σ H _ I h) fun _ _ hx => thn hx fun _ s2 h2 => ?_)
  obtain ⟨it, fp, tn, J, H2, rfl, I2, T, st2, f2, q⟩ := h2
  refine wpAny_newObj_type (newEnv_comp ?_) (by show 0 ≤ sizeLine; decide)
  generalize hL : s2.heap.objs.size = L
  have nL : H2 L = none := I2.hok.fresh (Nat.le_of_eq hL)
  obtain ⟨V, ⟨m0, v0⟩, turn⟩ := q L nL
  generalize hs3 : ({ s2 with heap := s2.heap.push { cls := .type "list", data := .seq ([] : List Value).toArray } } : Shared) = s3
  have h3 : s3.heap = s2.heap.push { cls := .type "list", data := .seq ([] : List Value).toArray } := by rw [← hs3]
  have grow : ∀ b o, s2.heap.get? b = some o → s3.heap.get? b = some o := fun b o e => by rw [h3]; exact Heap.get?_push_of_some _ e
  have I3 : Inv X pins σ (upd H2 L (.lst [])) s3 := by
    rw [← hs3]
    refine I2.laid (t' := s2.toks) (fun b o e => Heap.get?_push_of_some _ e) (Nat.le_of_eq hL) ⟨Nat.zero_le _, [], 0, .nil, ?_⟩
    rw [← hL]; exact Heap.get?_push_size _ rfl
  have lt2 : ∀ b ∈ fp, b < s2.heap.objs.size := fun b hb => let ⟨_, e, _⟩ := T.obj _ _ st2 b hb; Heap.lt_size e
  have f3 : ∀ b ∈ fp, FpOk X pins (upd H2 L (.lst [])) b ∧ b < s3.heap.objs.size := fun b hb => by
    refine ⟨⟨?_, (f2 b hb).2⟩, by rw [h3, Heap.size_push]; exact Nat.lt_succ_of_lt (lt2 b hb)⟩
    rw [upd_ne (by rw [← hL]; exact Nat.ne_of_lt (lt2 b hb))]; exact (f2 b hb).1
  have st3 : tn 0 s3.heap := T.keep _ _ _ st2 fun b _ o e => grow b o e
  have I4 := block_start I3 ok hN f3
  have pg := hg s3 (upd H2 L (.lst [])) s3.heap.objs.size (cellsFrom (s3.heap.objs.size + 1) scope.names (cloFrom X.env.cells scope.names [])) fp
  have pt := ht s3 (upd H2 L (.lst [])) s3.heap.objs.size (cellsFrom (s3.heap.objs.size + 1) scope.names (cloFrom X.env.cells scope.names [])) fp
  have pe := he s3 (upd H2 L (.lst [])) s3.heap.objs.size (cellsFrom (s3.heap.objs.size + 1) scope.names (cloFrom X.env.cells scope.names [])) fp
  show codeAny _ _ (.compStart (.ListComp elt [⟨tg, iter, ifs, 0⟩] scope pos) 0 (.ref it) (.ref L) (compEnvC scope (cellsFrom (s3.heap.objs.size + 1) scope.names (cloFrom X.env.cells scope.names [])) s3.heap.objs.size X.env)) (compEnds (model X.prog X.w) X.A X.xe none (EP X pins σ Q) (.ref L) (compEnvC scope (cellsFrom (s3.heap.objs.size + 1) scope.names (cloFrom X.env.cells scope.names [])) s3.heap.objs.size X.env)) { s3 with heap := pushCells (s3.heap.push { cls := .type "dict", data := .dict #[] }) scope.names }
  generalize hce : compEnvC scope (cellsFrom (s3.heap.objs.size + 1) scope.names (cloFrom X.env.cells scope.names [])) s3.heap.objs.size X.env = ce at I4 pg pt pe ⊢
  have cL : ce.locals = s3.heap.objs.size := by subst hce; rfl
  have cF : ce.frame = X.env.frame := by subst hce; rfl
  have no0 : ∀ b ∈ fp, (upd H2 L (.lst [])) b = none := fun b hb => (f3 b hb).1.1
  generalize hH3 : upd H2 L (.lst []) = H3 at I3 I4 pg pt pe v0 no0 f3
  generalize hs4 : ({ s3 with heap := pushCells (s3.heap.push { cls := .type "dict", data := .dict #[] }) scope.names } : Shared) = s4 at I4 ⊢
  have st4 : tn 0 s4.heap := T.keep _ _ _ st3 fun b _ o e => by rw [← hs4]; exact pushCells_keeps _ _ _ _ (Heap.get?_push_of_some _ e)
  have quiet : ∀ {σ' : L2.St} {H' : Hp} {s' : Shared}, Inv (X.blk s3 H3 scope ce fp) [] σ' H' s' → (∀ b ∈ fp, H' b = none) → ∀ b ∈ fp, FpOk (X.blk s3 H3 scope ce fp) [] H' b := fun {σ' H' s'} I' n b hb =>
    ⟨n b hb, (I'.ok.exf b hb).1, I'.ok.exfs b hb, .inl hb, fun x c e => (I'.ok.exf b hb).2 x c e, fun p hp => nomatch hp⟩
  have loop : codeAny (model X.prog X.w) X.A (.compLoop (.ListComp elt [⟨tg, iter, ifs, 0⟩] scope pos) 0 (.ref it) (.ref L) ce) (compEnds (model X.prog X.w) X.A X.xe none (EP X pins σ Q) (.ref L) ce) s4 := by
    refine compLoop_any (fun n s' => ∃ i H', Inv (X.blk s3 H3 scope ce fp) [] (wipe σ (own.map (·.2))) H' s' ∧ tn i s'.heap ∧ (∀ b ∈ fp, H' b = none) ∧ V i n H') ?_ m0 ⟨0, H3, I4, st4, no0, v0⟩
    rintro n s5 ⟨i, H5, I5, st5, n5, v5⟩
    rcases turn i n H5 v5 with ⟨stop, done⟩ | ⟨go, Nx, hNx, step⟩
    · refine thnF (T.done (X.blk s3 H3 scope ce fp) rfl rfl rfl hc i [] s5 _ H5 (fun _ _ => False) I5 (quiet I5 n5) st5 stop) fun r s6 ⟨hr, I6⟩ => ?_
      subst hr
      have I7 : Inv X pins σ H5 s6 := I3.call' (ch := fp) I6.os I6.base I6.hok I6.bare fun b hb => let z := (f3 b hb).1; ⟨z.2.2.2.1, z.2.1, z.2.2.2.2.1, z.2.2.2.2.2⟩
      have z : H5 ce.locals = none := I6.free
      obtain ⟨m, hn, _⟩ := I6.loc
      refine ⟨m, hn, fun h'' sb => ?_⟩
      rw [cL] at z sb
      obtain ⟨k0, k1, k2, k3, k4, k5⟩ := I3.fpOk (Nat.le_refl _) z
      exact ⟨.ref L, H5, I7.turned (t' := s6.toks) (fun b o hb e => (sb.2 b hb).trans e) k0 k1 k3 k4 k5, rfl, done⟩
    · refine thnF (T.item (X.blk s3 H3 scope ce fp) rfl rfl rfl hc i [] s5 _ H5 (fun _ _ => False) I5 (quiet I5 n5) st5 go) fun r s6 ⟨u, hr, h6⟩ => ?_
      subst hr
      refine thnF h6 fun _ s7 ⟨x, H7, I7, r7, y7, st7, n7⟩ => ?_
      have I7p := I7.pinned (quiet I7 n7) (T.obj _ _ st7)
      refine thnF (pg.run _ s7 _ H7 x u _ I7p r7 (step x H7 y7)) fun _ s8 ⟨σ8, H8, I8, w8, q8⟩ => ?_
      refine thnF (pt.run _ s8 σ8 H8 _ I8 q8) fun b s9 ⟨H9, I9, q9⟩ => ?_
      have fin : ∀ {s' : Shared} {H' : Hp}, Inv (X.blk s3 H3 scope ce fp) ([] ++ pinsAt fp s7.heap) σ8 H' s' → Nx H' → ∃ m, m < n ∧ ∃ i H', Inv (X.blk s3 H3 scope ce fp) [] (wipe σ (own.map (·.2))) H' s' ∧ tn i s'.heap ∧ (∀ b ∈ fp, H' b = none) ∧ V i m H' := fun {s' H'} I' nx => by
        obtain ⟨m', hm, v'⟩ := hNx H' nx
        have at_ : ∀ b ∈ fp, ∀ o, s7.heap.get? b = some o → s'.heap.get? b = some o ∧ H' b = none := fun b hb o e => let z := I'.pin (b, o) (List.mem_append_right _ (List.mem_append_right _ (mem_pinsAt hb e))); ⟨z.1, z.2.1⟩
        refine ⟨m', hm, i + 1, H', (I'.unpinned (pins := [])).weak (by rw [← w8, wipe_length]) (fun j v e => ?_), T.keep _ _ _ st7 fun b hb o e => (at_ b hb o e).1, fun b hb => ?_, v'⟩
        · rw [← w8] at e; exact (wipe_some e).1
        · obtain ⟨o, e, _⟩ := T.obj _ _ st7 b hb
          exact (at_ b hb o e).2
      cases b with
      | false => simp only [Bool.false_eq_true, if_false] at q9 ⊢; exact fin I9 q9
      | true =>
        simp only [if_true] at q9 ⊢
        have okB := I9.ok
        have pass : Passes (L2.CX X.prog X.w) ((X.blk s3 H3 scope ce fp).tr ((X.blk s3 H3 scope ce fp).pn ++ ([] ++ pinsAt fp s7.heap)) (fun e s' => notedBy (model X.prog X.w) X.A ce (CompFails (model X.prog X.w) X.A X.xe ce) e s')) E := fun _ _ _ _ _ _ Jb c => comp_fails I3 tk hW hst hf cL cF (fun b hb => (f3 b hb).1) Jb c
        refine wpAny_mono ((pe _ _ pass).run [] s9 σ8 H9 _ (I9.toTry _) q9) (fun z s10 ⟨yv, H10, I10, r10, acc, hD10, hz10, nx⟩ => ?_) fun _ _ f => f
        have I10' := I10.ofTry okB
        exact app_ok (X := X.blk s3 H3 scope ce fp) I10' hD10 hz10 r10 fun s11 I11 => fin I11 nx
  exact codeAny_compStart_list loop (T.self X.A 0 _ _ _ st4 loop)
end
end GS
/-! Rules whose K is told by an equation, for comprehensions. -/
namespace GS
open PySem PySem.Spec PyProof.Rows L2
theorem kx_ixs {X : Cx} {K : PySem.W.Frag} (h : X.K = K) : IxR X (rIx K) := by
  subst h
  exact ix_seq
theorem kx_sll {X : Cx} {K : PySem.W.Frag} (h : X.K = K) : SlR X (rSlL K) := by
  subst h
  exact sl_list
theorem kx_listOf {X : Cx} {K : PySem.W.Frag} (h : X.K = K) : CallR X (.type "list") (fun xs H Q => ∃ p ys, xs = [V.ref p] ∧ (SqL K H p ys ∨ SqT K H p ys) ∧ ∀ l, H l = none → Q (.ref l) (upd H l (.lst ys))) := by
  subst h
  exact call_list_of
theorem kx_slt {X : Cx} {K : PySem.W.Frag} (h : X.K = K) : SlR X (rSlT K) := by
  subst h
  exact sl_tup
end GS
namespace GS
open PySem PySem.Spec PyProof.Rows L2
section
variable {X : Cx}
/-- C.m(k = v, ..), m a staticmethod -/
def tSMethN (C : Addr) (nk : Nat) (sp : Sp) (gV : List V → List V → List V) (E : XK) (ta : TE) (tk : TA) : TE := fun σ H Q => ta σ H fun x H1 => x = .ref C ∧ tk σ H1 fun zs H2 => zs.length = nk ∧ sp (gV [] zs) H2 Q E
theorem pe_smethK0 {CX : CXT} {k : Nat} {C p g : Addr} {mc : Value} {fd : FuncData} {ps ks : List PySem.Str} {sp : Sp} {E : XK} {o : Expr} {m : PySem.Str} {pos apos : Pos} {ta : TE} {tk : TA} {kws : List Keyword} {gg : List Value → List Value → List Value} {gV : List V → List V → List V} {pl : Sem Bool}
    (he : PE X o ta) (r : ClX.CRead X.K C mc) (c : SMet X.K C mc m p g) (F : FnOk X.prog X.w X.K X.mg X.base CX k g fd ps sp) (hk : PySem.W.keepIn X.K (.ref g) = true) (hr : Room k X.A) (kb : KBn X.K fd ps 0 ks gg gV) (hx : Passes CX X E) (hw : PK X kws tk)
    (named : (backToKw pos (keywordEach kws X.env)).all (·.1.isSome) = true := by rfl) (names : (backToKw pos (keywordEach kws X.env)).filterMap (·.1) = ks := by rfl)
    (plain : ((backTo pos (starEach [] X.env)).any (·.1) || (backToKw pos (keywordEach kws X.env)).any (·.1.isNone)) = false := by rfl)
    (ht : eval (.Call (.Attribute o m apos) [] kws pos) X.env = (do let ov ← eval o X.env; standAt apos.atName; let (f, first) ← holding [ov] (getMethod ov m pl); callWith pos f first (backTo pos (starEach [] X.env)) (backToKw pos (keywordEach kws X.env))) := by rfl) :
    PE X (.Call (.Attribute o m apos) [] kws pos) (tSMethN C ks.length sp gV E ta tk) := by
  refine ⟨fun pins s σ H Q I h => PySem.W.methodCall_KW (pl := pl) (thn (he.run pins s σ H _ I h) fun u s1 ⟨x, H1, I1, rx, ex, q⟩ => ?_) ht⟩
  subst ex
  obtain rfl : u = Value.ref C := rx
  obtain ⟨rest, hp⟩ := c.rc
  refine PySem.W.method_cls I1.kIn r.ga (PySem.W.cls_bind I1.kIn r.rd c.at_ (wpAny_call (PySem.W.sm_get (s := { s1 with toks := s1.toks + 1 }) I1.kIn hp (PySem.W.handed_on rfl ?_))))
  have I2 := I1.tok (s1.toks + 1)
  refine PySem.W.callWith_KW0 (h₀ := X.base) I2.ok.mod.kin hk named (thn (hw.run pos pins _ σ H1 _ I2 q) fun ws s3 ⟨zs, H2, I3, rz, m2, q2⟩ => ⟨I3.kIn, ?_⟩) plain
  rw [names]
  exact run_fnN (us := []) (vs := []) F hr kb hx I3 .nil rz rfl m2 q2
/-- C.m(e, ..), m a staticmethod, inside try -/
def tSMethS (C : Addr) (sp : Sp) (E : L2.St → XK) (ta : TE) (t : TA) : TE := fun σ H Q => ta σ H fun x H1 => x = .ref C ∧ t σ H1 fun vs H2 => sp vs H2 Q (E σ)
theorem pe_smethS {CX : CXT} {k : Nat} {C p g : Addr} {mc : Value} {fd : FuncData} {ps : List PySem.Str} {sp : Sp} {E : L2.St → XK} {o e : Expr} {es : List Expr} {m : PySem.Str} {pos apos : Pos} {ta : TE} {t : TA} {pl : Sem Bool}
    (he : PE X o ta) (r : ClX.CRead X.K C mc) (c : SMet X.K C mc m p g) (F : FnOk X.prog X.w X.K X.mg X.base CX k g fd ps sp) (hk : PySem.W.keepIn X.K (.ref g) = true) (hr : Room k X.A) (hb : Binds X.K fd ps []) (hx : ∀ σ, PassesAt CX X σ (E σ)) (ha : PA X (e :: es) t)
    (hst : starEach (e :: es) X.env = (false, eval e X.env) :: starEach es X.env := by rfl) (hpl : (backTo pos (starEach es X.env)).any (·.1) = false := by rfl)
    (ht : eval (.Call (.Attribute o m apos) (e :: es) [] pos) X.env = (do let ov ← eval o X.env; standAt apos.atName; let (f, first) ← holding [ov] (getMethod ov m pl); callWith pos f first (backTo pos (starEach (e :: es) X.env)) (backToKw pos (keywordEach [] X.env))) := by rfl) :
    PE X (.Call (.Attribute o m apos) (e :: es) [] pos) (tSMethS C sp E ta t) := by
  refine ⟨fun pins s σ H Q I h => PySem.W.methodCall_KW (pl := pl) (thn (he.run pins s σ H _ I h) fun u s1 ⟨x, H1, I1, rx, ex, q⟩ => ?_) ht⟩
  subst ex
  obtain rfl : u = Value.ref C := rx
  obtain ⟨rest, hp⟩ := c.rc
  refine PySem.W.method_cls I1.kIn r.ga (PySem.W.cls_bind I1.kIn r.rd c.at_ (wpAny_call (PySem.W.sm_get (s := { s1 with toks := s1.toks + 1 }) I1.kIn hp (PySem.W.handed_on rfl ?_))))
  have I2 := I1.tok (s1.toks + 1)
  refine PySem.W.callWith_K (h₀ := X.base) I2.ok.mod.kin hk (thn (ha.run pos pins _ σ H1 _ I2 q) fun us s3 ⟨vs, H2, I3, rv, q2⟩ => ⟨I3.kIn, ?_⟩) hst hpl
  exact run_fnS F hr hb (hx σ) I3 rv q2
end
end GS
namespace GS
open PySem PySem.Spec PyProof.Rows L2
theorem kx_neD {X : Cx} {K : PySem.W.Frag} (h : X.K = K) (hu : X.A.units + 64 < cLine) : OpR X (compareOp .NotEq) (rNeD K) := by
  subst h
  exact op_neD hu
theorem kx_eqD {X : Cx} {K : PySem.W.Frag} (h : X.K = K) (hu : X.A.units + 64 < cLine) : OpR X (compareOp .Eq) (rEqD K) := by
  subst h
  exact op_eqD hu
/-- (a if t else b) as a test -/
def tIfT (t ta tb : TT) : TT := fun σ H Q => t σ H fun c H1 => if c = true then ta σ H1 Q else tb σ H1 Q
theorem pt_ifExp {X : Cx} {c a b : Expr} {pos : Pos} {t ta tb : TT} (hc : PT X c t) (ha : PT X a ta) (hb : PT X b tb) : PT X (.IfExp c a b pos) (tIfT t ta tb) := by
  refine ⟨fun pins s σ H Q I h => ?_⟩
  rw [arm_isTrue_IfExp]
  refine wpAny_bind (thn (hc.run pins s σ H _ I h) fun d s1 ⟨H1, I1, q1⟩ => ?_)
  cases d with
  | true => exact ha.run pins s1 σ H1 Q I1 q1
  | false => exact hb.run pins s1 σ H1 Q I1 q1
end GS
/-! Comprehensions whose elements are new lists. -/
namespace GS
open PySem PySem.Spec PyProof.Rows L2
/-- lists that were just laid, one a turn, none of them another's -/
theorem r_lcLs {J : It} {n : Nat} {G : Hp → Prop} {Y : Nat → Hp → V → Hp → Prop} {k : Nat} {te : TE} {σ : L2.St} {H1 : Hp} {Q : VK} (w : Walk J n G Y) (o : Nat → List V) (hn : n ≤ 50000) (hG : ∀ H' : Hp, Ex H1 H' → G H')
    (hw : ∀ x, wipe ((wipe σ [k]).set k (some x)) [k] = wipe σ [k])
    (he : ∀ i x H H', i < n → Ex H1 H → Y i H x H' → Ex H H' ∧ ∀ R : VK, (∀ t H4, Ex H' H4 → H' t = none → H4 t = some (.lst (o i)) → R (.ref t) H4) → te ((wipe σ [k]).set k (some x)) H' R)
    (q : ∀ p ts H', H1 p = none → Ex H1 H' → H' p = some (.lst (ts.map V.ref)) → ts.length = n → (p :: ts).Nodup → (∀ t ∈ ts, H1 t = none) → (∀ (j : Nat) (t : Addr), ts[j]? = some t → H' t = some (.lst (o j))) → Q (.ref p) H') : lcB J (gName k) tYes te [k] σ Q H1 := by
  refine r_lcP w (fun D i ys H => ∃ ts : List Addr, ys = ts.map V.ref ∧ ts.length = i ∧ (D :: ts).Nodup ∧ (∀ t ∈ ts, H1 t = none) ∧ ∀ (j : Nat) (t : Addr), ts[j]? = some t → H t = some (.lst (o j))) hn hG
    (fun D H e => ⟨[], rfl, rfl, by simp, (fun t h => nomatch h), fun j t h => by simp at h⟩) (fun D i ys H H' ⟨ts, h1, h2, h3, h4, h5⟩ b => ⟨ts, h1, h2, h3, h4, fun j t h => b _ _ (fun z => (List.nodup_cons.mp h3).1 (by rw [← z]; exact List.mem_of_getElem? h)) (h5 j t h)⟩) ?_ ?_
  · rintro D i x ys H H' hi hD e hd ⟨ts, rfl, h2, h3, h4, h5⟩ y N hN
    obtain ⟨e1, go⟩ := he i x H H' hi e y
    refine ⟨hw x, go N fun t H4 e4 ht ho => hN _ H4 (e1.trans e4) ⟨ts ++ [t], by simp, by simp [h2], ?_, fun u hu => ?_, fun j u hu => ?_⟩⟩
    · obtain ⟨n1, n2⟩ := List.nodup_cons.mp h3
      have tD : t ≠ D := fun z => by rw [z, e1 _ _ hd] at ht; cases ht
      have tts : t ∉ ts := fun z => by
        obtain ⟨j, hj⟩ := List.getElem?_of_mem z
        rw [e1 _ _ (h5 j t hj)] at ht
        cases ht
      refine List.nodup_cons.mpr ⟨fun z => ?_, List.nodup_append.mpr ⟨n2, by simp, fun a ha b hb => ?_⟩⟩
      · rcases List.mem_append.mp z with z | z
        · exact n1 z
        · exact tD (List.mem_singleton.mp z).symm
      · rw [List.mem_singleton.mp hb]
        rintro rfl
        exact tts ha
    · rcases List.mem_append.mp hu with z | z
      · exact h4 u z
      · rw [List.mem_singleton.mp z]
        exact (e.trans e1).free ht
    · rcases Nat.lt_or_ge j ts.length with c | c
      · rw [List.getElem?_append_left c] at hu
        exact e4 _ _ (e1 _ _ (h5 j u hu))
      · rw [List.getElem?_append_right c] at hu
        cases z : j - ts.length with
        | zero =>
          rw [z] at hu
          cases hu
          have : j = i := by omega
          rw [this]
          exact ho
        | succ m => rw [z] at hu; simp at hu
  · rintro D ys H' h1 h2 h3 h4 ⟨ts, rfl, g2, g3, g4, g5⟩
    exact q D ts H' h1 h2 h3 g2 g3 g4 g5
end GS
/-! Comprehensions with two for. -/
namespace GS
open PySem PySem.Spec PyProof.Rows L2
def flatV (F : Nat → List V) (i : Nat) : List V := ((List.range i).map F).flatten
theorem flatV_succ (F : Nat → List V) (i : Nat) : flatV F (i + 1) = flatV F i ++ F i := by
  unfold flatV
  rw [List.range_succ, List.map_append, List.flatten_append]
  simp
theorem flatV_len {F : Nat → List V} : ∀ i, (∀ j, j < i → (F j).length ≤ 200) → (flatV F i).length ≤ 200 * i
  | 0, _ => by simp [flatV]
  | i + 1, h => by
    rw [flatV_succ, List.length_append]
    have := flatV_len i fun j hj => h j (by omega)
    have := h i (by omega)
    omega
/-- tLc2 behind its outer walk -/
def lc2B (J : It) (g : TG) (tt : TT) (wi1 : TI) (g1 : TG) (tt1 : TT) (te : TE) (vs vs1 : List Nat) (σ : L2.St) (Q : VK) : Hp → Prop := fun H1 => tLc2 (fun _ H R => R J H) g tt wi1 g1 tt1 te vs vs1 σ H1 Q
theorem r_lc2 {wi wi1 : TI} {g g1 : TG} {tt tt1 : TT} {te : TE} {vs vs1 : List Nat} {σ : L2.St} {H : Hp} {Q : VK} (q : wi σ H fun J H1 => lc2B J g tt wi1 g1 tt1 te vs vs1 σ Q H1) : tLc2 wi g tt wi1 g1 tt1 te vs vs1 σ H Q := q
theorem if_go {A B : Prop} (h : A) : if true = true then A else B := by
  rw [if_pos rfl]
  exact h
/-- what an inner walk is to give -/
def inB2 (H1 : Hp) (f : List V) (k1 : Nat) (te : TE) (σ2 : L2.St) (J1 : It) : Prop := ∃ (G1 : Hp → Prop) (Y1 : Nat → Hp → V → Hp → Prop), Walk J1 f.length G1 Y1 ∧ (∀ H5, Ex H1 H5 → G1 H5) ∧
  ∀ j y H5 H6, j < f.length → Ex H1 H5 → Y1 j H5 y H6 → Ex H5 H6 ∧ ∀ N : VK, (∀ H7, Ex H6 H7 → N (f.getD j .non) H7) → te ((wipe σ2 [k1]).set k1 (some y)) H6 N
theorem r_lc2P {J : It} {n : Nat} {G : Hp → Prop} {Y : Nat → Hp → V → Hp → Prop} {k k1 : Nat} {wi1 : TI} {te : TE} {σ : L2.St} {H1 : Hp} {Q : VK} (w : Walk J n G Y) (F : Nat → List V) (hn : n ≤ 200) (hF : ∀ i, i < n → (F i).length ≤ 200) (hG : ∀ H' : Hp, Ex H1 H' → G H')
    (hw : ∀ x, wipe ((wipe σ [k, k1]).set k (some x)) [k, k1] = wipe σ [k, k1]) (hw1 : ∀ x y, wipe ((wipe ((wipe σ [k, k1]).set k (some x)) [k1]).set k1 (some y)) [k1] = wipe ((wipe σ [k, k1]).set k (some x)) [k1])
    (he : ∀ i x H H', i < n → Ex H1 H → Y i H x H' → Ex H H' ∧ ∀ R : It → Hp → Prop, (∀ J1, inB2 H1 (F i) k1 te ((wipe σ [k, k1]).set k (some x)) J1 → R J1 H') → wi1 ((wipe σ [k, k1]).set k (some x)) H' R)
    (q : ∀ p H', H1 p = none → Ex H1 H' → H' p = some (.lst (flatV F n)) → Q (.ref p) H') : lc2B J (gName k) tYes wi1 (gName k1) tYes te [k, k1] [k1] σ Q H1 := by
  intro D hD
  have mu : ∀ {H : Hp} {o : HO}, Ex H1 H → Ex H1 (upd H D o) := fun e => Ex.mut e hD
  have len : ∀ i, i ≤ n → (flatV F i).length ≤ 200 * i := fun i hi => flatV_len i fun j hj => hF j (by omega)
  refine ⟨fun i m H => i ≤ n ∧ m = n - i ∧ Ex H1 H ∧ H D = some (.lst (flatV F i)), ⟨n, Nat.zero_le _, by simp, mu (Ex.refl _), upd_same⟩, ?_⟩
  rintro i m H ⟨hi, rfl, e, hd⟩
  rcases Nat.lt_or_eq_of_le hi with c | rfl
  · refine .inr ⟨w.goes i H c (hG H e), fun H' => Ex H1 H' ∧ H' D = some (.lst (flatV F (i + 1))), fun H' h => ⟨n - (i + 1), by omega, by omega, rfl, h⟩, fun x H' y => ?_⟩
    obtain ⟨e1, go⟩ := he i x H H' c e (w.yields i H x H' c (hG H e) y)
    refine r_gName ⟨hw x, ?_⟩
    show wi1 _ _ _
    refine go _ fun J1 ⟨G1, Y1, w1, hG1, st⟩ => ?_
    have l1 := hF i c
    have l2 := len i hi
    refine ⟨fun j k H => j ≤ (F i).length ∧ k = (F i).length - j ∧ Ex H1 H ∧ H D = some (.lst (flatV F i ++ (F i).take j)), ⟨(F i).length, Nat.zero_le _, by simp, e.trans e1, by simpa using e1 _ _ hd⟩, ?_⟩
    rintro j kk H5 ⟨hj, rfl, e5, hd5⟩
    rcases Nat.lt_or_eq_of_le hj with cj | rfl
    · refine .inr ⟨w1.goes j H5 cj (hG1 H5 e5), fun H' => Ex H1 H' ∧ H' D = some (.lst (flatV F i ++ (F i).take (j + 1))), fun H' h => ⟨(F i).length - (j + 1), by omega, by omega, rfl, h⟩, fun z H6 y1 => ?_⟩
      obtain ⟨e6, go1⟩ := st j z H5 H6 cj e5 (w1.yields j H5 z H6 cj (hG1 H5 e5) y1)
      refine r_gName ⟨hw1 x z, ?_⟩
      show te _ _ _
      refine go1 _ fun H7 e7 => ⟨_, e7 _ _ (e6 _ _ hd5), ?_, mu ((e5.trans e6).trans e7), ?_⟩
      · refine sz_lt ?_
        rw [List.length_append, List.length_take]
        omega
      · rw [upd_same, List.append_assoc, List.take_add_one, List.getElem?_eq_getElem cj, List.getD_eq_getElem?_getD, List.getElem?_eq_getElem cj]
        rfl
    · refine .inl ⟨w1.stops H5 (hG1 H5 e5), e5, ?_⟩
      rw [hd5, List.take_length, flatV_succ]
  · exact .inl ⟨w.stops H (hG H e), q D H hD e hd⟩
end GS
/-! A field stored: the value is read first. -/
namespace GS
open PySem PySem.Spec PyProof.Rows L2
/-- sFld behind its value -/
def fldS (K : PySem.W.Frag) (ta : TE) (f : PySem.Str) (D : Ends) (σ : L2.St) : VK := fun y H1 => sFld K ta (fun _ H Q => Q y H) f D σ H1
theorem r_fldS {K : PySem.W.Frag} {ta tv : TE} {f : PySem.Str} {D : Ends} {σ : L2.St} {H : Hp} (q : tv σ H (fldS K ta f D σ)) : sFld K ta tv f D σ H := q
end GS
namespace K31
open PySem PySem.Spec PyProof.Rows L2 GS
def topS (i : Nat) : Stmt := PySem.Challenge.pw_goodsigns_k31_vectors_read_and_refused.main.body.getD i (.Pass ⟨0, 0, 0, 0⟩)
abbrev s_BadVectors_init : Stmt := inClass (topS 2) 0
abbrev s_Misfit_init : Stmt := inClass (topS 3) 0
abbrev s_BadText_init : Stmt := inClass (topS 4) 0
abbrev s_is_integer : Stmt := topS 7
abbrev s_is_within : Stmt := topS 8
abbrev s_is_row : Stmt := topS 9
abbrev s_are_integers : Stmt := topS 10
abbrev s_product_sum : Stmt := topS 12
abbrev s_items_of : Stmt := topS 15
abbrev s_is_integer_text : Stmt := topS 16
abbrev s_integer_at : Stmt := topS 17
abbrev s_need_item : Stmt := topS 18
abbrev s_need_end : Stmt := topS 19
abbrev s_integer_text : Stmt := topS 20
abbrev s_Vectors_init : Stmt := inClass (topS 24) 0
abbrev s_Vectors_eq : Stmt := inClass (topS 24) 1
abbrev s_Vectors_str : Stmt := inClass (topS 24) 2
abbrev s_Vectors_read : Stmt := inClass (topS 24) 3
abbrev s_are_rows : Stmt := topS 25
abbrev s_columns_of : Stmt := topS 26
abbrev s_add_up : Stmt := topS 27
abbrev s_read_rows : Stmt := topS 28
abbrev s__law_loom : Stmt := topS 30
abbrev s__law_weft : Stmt := topS 31
abbrev s__law_thread : Stmt := topS 32
abbrev s__law_number : Stmt := topS 33
abbrev s__law_strip : Stmt := topS 34
abbrev s__law_cloth : Stmt := topS 35
abbrev s__law_total : Stmt := topS 36
abbrev s__law_text : Stmt := topS 37
abbrev s__law_written : Stmt := topS 38
abbrev s__law_stop : Stmt := topS 39
abbrev s__law_made : Stmt := topS 40
abbrev s__law_read : Stmt := topS 41
abbrev s__law_is : Stmt := topS 42
abbrev s__law_bent : Stmt := topS 43
abbrev s__law_rows_right : Stmt := topS 44
abbrev s__law_texts_right : Stmt := topS 45
abbrev s__law_odd_right : Stmt := topS 46
abbrev s_law : Stmt := topS 47
theorem sc_BadVectors_init : FnScope ["self", "part"] ["self", "part"] (defScope s_BadVectors_init) := ⟨rfl, rfl, rfl, by decide +kernel, rfl, by decide +kernel, by decide +kernel⟩
theorem sc_Misfit_init : FnScope ["self", "part"] ["self", "part"] (defScope s_Misfit_init) := ⟨rfl, rfl, rfl, by decide +kernel, rfl, by decide +kernel, by decide +kernel⟩
theorem sc_BadText_init : FnScope ["self", "line", "item"] ["self", "line", "item"] (defScope s_BadText_init) := ⟨rfl, rfl, rfl, by decide +kernel, rfl, by decide +kernel, by decide +kernel⟩
theorem sc_is_integer : FnScope ["value"] ["value"] (defScope s_is_integer) := ⟨rfl, rfl, rfl, by decide +kernel, rfl, by decide +kernel, by decide +kernel⟩
theorem sc_is_within : FnScope ["value", "least", "most"] ["value", "least", "most"] (defScope s_is_within) := ⟨rfl, rfl, rfl, by decide +kernel, rfl, by decide +kernel, by decide +kernel⟩
theorem sc_is_row : FnScope ["value"] ["value"] (defScope s_is_row) := ⟨rfl, rfl, rfl, by decide +kernel, rfl, by decide +kernel, by decide +kernel⟩
theorem sc_are_integers : FnScope ["value", "each"] ["value"] (defScope s_are_integers) := ⟨rfl, rfl, rfl, by decide +kernel, rfl, by decide +kernel, by decide +kernel⟩
theorem sc_product_sum : FnScope ["one", "other", "mine", "its"] ["one", "other"] (defScope s_product_sum) := ⟨rfl, rfl, rfl, by decide +kernel, rfl, by decide +kernel, by decide +kernel⟩
theorem sc_items_of : FnScope ["text"] ["text"] (defScope s_items_of) := ⟨rfl, rfl, rfl, by decide +kernel, rfl, by decide +kernel, by decide +kernel⟩
theorem sc_is_integer_text : FnScope ["item", "digits", "each"] ["item"] (defScope s_is_integer_text) := ⟨rfl, rfl, rfl, by decide +kernel, rfl, by decide +kernel, by decide +kernel⟩
theorem sc_integer_at : FnScope ["items", "at", "least", "most", "number"] ["items", "at", "least", "most"] (defScope s_integer_at) := ⟨rfl, rfl, rfl, by decide +kernel, rfl, by decide +kernel, by decide +kernel⟩
theorem sc_need_item : FnScope ["items", "at", "word"] ["items", "at", "word"] (defScope s_need_item) := ⟨rfl, rfl, rfl, by decide +kernel, rfl, by decide +kernel, by decide +kernel⟩
theorem sc_need_end : FnScope ["items", "many"] ["items", "many"] (defScope s_need_end) := ⟨rfl, rfl, rfl, by decide +kernel, rfl, by decide +kernel, by decide +kernel⟩
theorem sc_integer_text : FnScope ["number", "chunk", "left", "parts", "sign"] ["number"] (defScope s_integer_text) := ⟨rfl, rfl, rfl, by decide +kernel, rfl, by decide +kernel, by decide +kernel⟩
theorem sc_Vectors_init : FnScope ["self", "rows", "row"] ["self", "rows"] (defScope s_Vectors_init) := ⟨rfl, rfl, rfl, by decide +kernel, rfl, by decide +kernel, by decide +kernel⟩
theorem sc_Vectors_eq : FnScope ["self", "other"] ["self", "other"] (defScope s_Vectors_eq) := ⟨rfl, rfl, rfl, by decide +kernel, rfl, by decide +kernel, by decide +kernel⟩
theorem sc_Vectors_str : FnScope ["self", "row", "number"] ["self"] (defScope s_Vectors_str) := ⟨rfl, rfl, rfl, by decide +kernel, rfl, by decide +kernel, by decide +kernel⟩
theorem sc_Vectors_read : FnScope ["text", "items", "length", "rows"] ["text"] (defScope s_Vectors_read) := ⟨rfl, rfl, rfl, by decide +kernel, rfl, by decide +kernel, by decide +kernel⟩
theorem sc_are_rows : FnScope ["value", "row"] ["value"] (defScope s_are_rows) := ⟨rfl, rfl, rfl, by decide +kernel, rfl, by decide +kernel, by decide +kernel⟩
theorem sc_columns_of : FnScope ["rows", "length", "row", "at"] ["rows", "length"] (defScope s_columns_of) := ⟨rfl, rfl, rfl, by decide +kernel, rfl, by decide +kernel, by decide +kernel⟩
theorem sc_add_up : FnScope ["rows", "columns", "total", "column", "i", "j"] ["rows"] (defScope s_add_up) := ⟨rfl, rfl, rfl, by decide +kernel, rfl, by decide +kernel, by decide +kernel⟩
theorem sc_read_rows : FnScope ["items", "length", "rows", "at", "place"] ["items", "length"] (defScope s_read_rows) := ⟨rfl, rfl, rfl, by decide +kernel, rfl, by decide +kernel, by decide +kernel⟩
theorem sc__law_loom : FnScope ["script", "cell"] ["script"] (defScope s__law_loom) := ⟨rfl, rfl, rfl, by decide +kernel, rfl, by decide +kernel, by decide +kernel⟩
theorem sc__law_weft : FnScope ["loom", "many", "rest", "turn", "cell", "mixed"] ["loom", "many"] (defScope s__law_weft) := ⟨rfl, rfl, rfl, by decide +kernel, rfl, by decide +kernel, by decide +kernel⟩
theorem sc__law_thread : FnScope ["loom", "some"] ["loom", "some"] (defScope s__law_thread) := ⟨rfl, rfl, rfl, by decide +kernel, rfl, by decide +kernel, by decide +kernel⟩
theorem sc__law_number : FnScope ["loom", "size"] ["loom", "size"] (defScope s__law_number) := ⟨rfl, rfl, rfl, by decide +kernel, rfl, by decide +kernel, by decide +kernel⟩
theorem sc__law_strip : FnScope ["loom", "length", "size", "way", "a", "b", "spot", "at", "c", "d", "many", "u", "whole", "each"] ["loom", "length", "size"] (defScope s__law_strip) := ⟨rfl, rfl, rfl, by decide +kernel, rfl, by decide +kernel, by decide +kernel⟩
theorem sc__law_cloth : FnScope ["loom", "most", "length", "size", "rows", "turn", "more", "spot", "at", "found"] ["loom", "most"] (defScope s__law_cloth) := ⟨rfl, rfl, rfl, by decide +kernel, rfl, by decide +kernel, by decide +kernel⟩
theorem sc__law_total : FnScope ["rows", "length", "table", "row", "two", "one", "due", "even"] ["rows"] (defScope s__law_total) := ⟨rfl, rfl, rfl, by decide +kernel, rfl, by decide +kernel, by decide +kernel⟩
theorem sc__law_text : FnScope ["rows", "items", "row", "each"] ["rows"] (defScope s__law_text) := ⟨rfl, rfl, rfl, by decide +kernel, rfl, by decide +kernel, by decide +kernel⟩
theorem sc__law_written : FnScope ["item", "digits", "sign"] ["item"] (defScope s__law_written) := ⟨rfl, rfl, rfl, by decide +kernel, rfl, by decide +kernel, by decide +kernel⟩
theorem sc__law_stop : FnScope ["items", "length", "at", "told", "item", "rows"] ["items"] (defScope s__law_stop) := ⟨rfl, rfl, rfl, by decide +kernel, rfl, by decide +kernel, by decide +kernel⟩
theorem sc__law_made : FnScope ["rows", "error"] ["rows"] (defScope s__law_made) := ⟨rfl, rfl, rfl, by decide +kernel, rfl, by decide +kernel, by decide +kernel⟩
theorem sc__law_read : FnScope ["text", "error"] ["text"] (defScope s__law_read) := ⟨rfl, rfl, rfl, by decide +kernel, rfl, by decide +kernel, by decide +kernel⟩
theorem sc__law_is : FnScope ["value", "rows", "row", "each", "longest", "back"] ["value", "rows"] (defScope s__law_is) := ⟨rfl, rfl, rfl, by decide +kernel, rfl, by decide +kernel, by decide +kernel⟩
theorem sc__law_bent : FnScope ["loom", "items", "at", "way", "odd"] ["loom", "items"] (defScope s__law_bent) := ⟨rfl, rfl, rfl, by decide +kernel, rfl, by decide +kernel, by decide +kernel⟩
theorem sc__law_rows_right : FnScope ["loom", "rows", "passed", "row", "made", "other", "at", "spot", "old", "new", "bent", "told"] ["loom", "rows"] (defScope s__law_rows_right) := ⟨rfl, rfl, rfl, by decide +kernel, rfl, by decide +kernel, by decide +kernel⟩
theorem sc__law_texts_right : FnScope ["loom", "rows", "items", "turn", "bent", "stop", "told", "numbers", "length", "item", "at"] ["loom", "rows"] (defScope s__law_texts_right) := ⟨rfl, rfl, rfl, by decide +kernel, rfl, by decide +kernel, by decide +kernel⟩
theorem sc__law_odd_right : FnScope ["loom", "rows", "row", "one", "bad", "turn", "spoilt", "each", "value", "zero", "spot"] ["loom", "rows"] (defScope s__law_odd_right) := ⟨rfl, rfl, rfl, by decide +kernel, rfl, by decide +kernel, by decide +kernel⟩
theorem sc_law : FnScope ["script", "loom", "turn", "rows", "wild", "spot", "told"] ["script"] (defScope s_law) := ⟨rfl, rfl, rfl, by decide +kernel, rfl, by decide +kernel, by decide +kernel⟩
abbrev tys : List String := ["int", "bool", "str", "NoneType", "list", "tuple", "dict"]
def fa_0 : List He.Fa := [.glo "is_integer",
  .glo "is_within",
  .glo "is_row",
  .glo "are_integers",
  .glo "product_sum",
  .glo "items_of",
  .glo "is_integer_text",
  .glo "integer_at",
  .glo "need_item",
  .glo "need_end",
  .glo "integer_text",
  .glo "are_rows",
  .glo "columns_of",
  .glo "add_up",
  .glo "read_rows",
  .glo "_law_loom",
  .glo "_law_weft",
  .glo "_law_thread",
  .glo "_law_number",
  .glo "_law_strip",
  .glo "_law_cloth",
  .glo "_law_total",
  .glo "_law_text",
  .glo "_law_written",
  .glo "_law_stop",
  .glo "_law_made",
  .glo "_law_read",
  .glo "_law_is",
  .glo "_law_bent",
  .glo "_law_rows_right"]
def fa_1 : List He.Fa := [.glo "_law_texts_right",
  .glo "_law_odd_right",
  .glo "law",
  .glo "SignsError",
  .glo "BadVectors",
  .glo "Misfit",
  .glo "BadText",
  .glo "Vectors",
  .keep "is_integer",
  .keep "is_within",
  .keep "is_row",
  .keep "are_integers",
  .keep "product_sum",
  .keep "items_of",
  .keep "is_integer_text",
  .keep "integer_at",
  .keep "need_item",
  .keep "need_end",
  .keep "integer_text",
  .keep "are_rows",
  .keep "columns_of",
  .keep "add_up",
  .keep "read_rows",
  .keep "_law_loom",
  .keep "_law_weft",
  .keep "_law_thread",
  .keep "_law_number",
  .keep "_law_strip",
  .keep "_law_cloth",
  .keep "_law_total"]
def fa_2 : List He.Fa := [.keep "_law_text",
  .keep "_law_written",
  .keep "_law_stop",
  .keep "_law_made",
  .keep "_law_read",
  .keep "_law_is",
  .keep "_law_bent",
  .keep "_law_rows_right",
  .keep "_law_texts_right",
  .keep "_law_odd_right",
  .keep "law",
  .free "isinstance",
  .free "int",
  .free "bool",
  .free "str",
  .free "list",
  .free "tuple",
  .free "len",
  .free "abs",
  .free "range",
  .free "all",
  .free "any",
  .free "zip",
  .free "sum",
  .free "max",
  .free "min",
  .str "DIGITS" "0123456789",
  .int "MOST_DIGITS" 60,
  .int "MOST_VECTORS" 9,
  .int "LONGEST_ROW" 3]
def fa_3 : List He.Fa := [.cls "Vectors",
  .noat "Vectors" "rows",
  .noat "Vectors" "total",
  .noat "Vectors" "longest",
  .mkr "Vectors",
  .meth "Vectors" "__eq__",
  .meth "Vectors" "__str__"]
def fa_all : List He.Fa := fa_0 ++ fa_1 ++ fa_2 ++ fa_3
def ex_0 : List Chk := [clsB "Vectors" tys,
  neB "Vectors",
  smB "Vectors" "read",
  topB,
  errB "BadVectors" ["part"] ["BadVectors", "SignsError"] ["Misfit", "BadText"],
  errB "Misfit" ["part"] ["Misfit", "SignsError"] ["BadVectors", "BadText"],
  errB "BadText" ["line", "item"] ["BadText", "SignsError"] ["BadVectors", "Misfit"],
  excB "BadVectors",
  excB "Misfit",
  excB "BadText"]
def ex_all : List Chk := ex_0
def fn_0 : List He5.DefA := [⟨fun K => He.ma K (He.ga K "BadVectors") "__init__", "__init__", "BadVectors.__init__", defArgs s_BadVectors_init, defBody s_BadVectors_init, defScope s_BadVectors_init, [], []⟩,
  ⟨fun K => He.ma K (He.ga K "Misfit") "__init__", "__init__", "Misfit.__init__", defArgs s_Misfit_init, defBody s_Misfit_init, defScope s_Misfit_init, [], []⟩,
  ⟨fun K => He.ma K (He.ga K "BadText") "__init__", "__init__", "BadText.__init__", defArgs s_BadText_init, defBody s_BadText_init, defScope s_BadText_init, [], []⟩,
  ⟨fun K => He.ga K "is_integer", "is_integer", "is_integer", defArgs s_is_integer, defBody s_is_integer, defScope s_is_integer, [], []⟩,
  ⟨fun K => He.ga K "is_within", "is_within", "is_within", defArgs s_is_within, defBody s_is_within, defScope s_is_within, [], []⟩,
  ⟨fun K => He.ga K "is_row", "is_row", "is_row", defArgs s_is_row, defBody s_is_row, defScope s_is_row, [], []⟩,
  ⟨fun K => He.ga K "are_integers", "are_integers", "are_integers", defArgs s_are_integers, defBody s_are_integers, defScope s_are_integers, [], []⟩,
  ⟨fun K => He.ga K "product_sum", "product_sum", "product_sum", defArgs s_product_sum, defBody s_product_sum, defScope s_product_sum, [], []⟩,
  ⟨fun K => He.ga K "items_of", "items_of", "items_of", defArgs s_items_of, defBody s_items_of, defScope s_items_of, [], []⟩,
  ⟨fun K => He.ga K "is_integer_text", "is_integer_text", "is_integer_text", defArgs s_is_integer_text, defBody s_is_integer_text, defScope s_is_integer_text, [], []⟩,
  ⟨fun K => He.ga K "integer_at", "integer_at", "integer_at", defArgs s_integer_at, defBody s_integer_at, defScope s_integer_at, [], []⟩,
  ⟨fun K => He.ga K "need_item", "need_item", "need_item", defArgs s_need_item, defBody s_need_item, defScope s_need_item, [], []⟩,
  ⟨fun K => He.ga K "need_end", "need_end", "need_end", defArgs s_need_end, defBody s_need_end, defScope s_need_end, [], []⟩,
  ⟨fun K => He.ga K "integer_text", "integer_text", "integer_text", defArgs s_integer_text, defBody s_integer_text, defScope s_integer_text, [], []⟩,
  ⟨fun K => He.ma K (He.ga K "Vectors") "__init__", "__init__", "Vectors.__init__", defArgs s_Vectors_init, defBody s_Vectors_init, defScope s_Vectors_init, [], []⟩,
  ⟨fun K => He.ma K (He.ga K "Vectors") "__eq__", "__eq__", "Vectors.__eq__", defArgs s_Vectors_eq, defBody s_Vectors_eq, defScope s_Vectors_eq, [], []⟩,
  ⟨fun K => He.ma K (He.ga K "Vectors") "__str__", "__str__", "Vectors.__str__", defArgs s_Vectors_str, defBody s_Vectors_str, defScope s_Vectors_str, [], []⟩,
  ⟨fun K => He5.wf K (He.ga K "Vectors") "staticmethod" "read", "read", "Vectors.read", defArgs s_Vectors_read, defBody s_Vectors_read, defScope s_Vectors_read, [], []⟩,
  ⟨fun K => He.ga K "are_rows", "are_rows", "are_rows", defArgs s_are_rows, defBody s_are_rows, defScope s_are_rows, [], []⟩,
  ⟨fun K => He.ga K "columns_of", "columns_of", "columns_of", defArgs s_columns_of, defBody s_columns_of, defScope s_columns_of, [], []⟩,
  ⟨fun K => He.ga K "add_up", "add_up", "add_up", defArgs s_add_up, defBody s_add_up, defScope s_add_up, [], []⟩,
  ⟨fun K => He.ga K "read_rows", "read_rows", "read_rows", defArgs s_read_rows, defBody s_read_rows, defScope s_read_rows, [], []⟩,
  ⟨fun K => He.ga K "_law_loom", "_law_loom", "_law_loom", defArgs s__law_loom, defBody s__law_loom, defScope s__law_loom, [], []⟩,
  ⟨fun K => He.ga K "_law_weft", "_law_weft", "_law_weft", defArgs s__law_weft, defBody s__law_weft, defScope s__law_weft, [], []⟩,
  ⟨fun K => He.ga K "_law_thread", "_law_thread", "_law_thread", defArgs s__law_thread, defBody s__law_thread, defScope s__law_thread, [], []⟩,
  ⟨fun K => He.ga K "_law_number", "_law_number", "_law_number", defArgs s__law_number, defBody s__law_number, defScope s__law_number, [], []⟩,
  ⟨fun K => He.ga K "_law_strip", "_law_strip", "_law_strip", defArgs s__law_strip, defBody s__law_strip, defScope s__law_strip, [], []⟩,
  ⟨fun K => He.ga K "_law_cloth", "_law_cloth", "_law_cloth", defArgs s__law_cloth, defBody s__law_cloth, defScope s__law_cloth, [], []⟩,
  ⟨fun K => He.ga K "_law_total", "_law_total", "_law_total", defArgs s__law_total, defBody s__law_total, defScope s__law_total, [], []⟩,
  ⟨fun K => He.ga K "_law_text", "_law_text", "_law_text", defArgs s__law_text, defBody s__law_text, defScope s__law_text, [], []⟩]
def fn_1 : List He5.DefA := [⟨fun K => He.ga K "_law_written", "_law_written", "_law_written", defArgs s__law_written, defBody s__law_written, defScope s__law_written, [], []⟩,
  ⟨fun K => He.ga K "_law_stop", "_law_stop", "_law_stop", defArgs s__law_stop, defBody s__law_stop, defScope s__law_stop, [], []⟩,
  ⟨fun K => He.ga K "_law_made", "_law_made", "_law_made", defArgs s__law_made, defBody s__law_made, defScope s__law_made, [], []⟩,
  ⟨fun K => He.ga K "_law_read", "_law_read", "_law_read", defArgs s__law_read, defBody s__law_read, defScope s__law_read, [], []⟩,
  ⟨fun K => He.ga K "_law_is", "_law_is", "_law_is", defArgs s__law_is, defBody s__law_is, defScope s__law_is, [], []⟩,
  ⟨fun K => He.ga K "_law_bent", "_law_bent", "_law_bent", defArgs s__law_bent, defBody s__law_bent, defScope s__law_bent, [], []⟩,
  ⟨fun K => He.ga K "_law_rows_right", "_law_rows_right", "_law_rows_right", defArgs s__law_rows_right, defBody s__law_rows_right, defScope s__law_rows_right, [], []⟩,
  ⟨fun K => He.ga K "_law_texts_right", "_law_texts_right", "_law_texts_right", defArgs s__law_texts_right, defBody s__law_texts_right, defScope s__law_texts_right, [], []⟩,
  ⟨fun K => He.ga K "_law_odd_right", "_law_odd_right", "_law_odd_right", defArgs s__law_odd_right, defBody s__law_odd_right, defScope s__law_odd_right, [], []⟩,
  ⟨fun K => He.ga K "law", "law", "law", defArgs s_law, defBody s_law, defScope s_law, [], []⟩]
def fn_all : List He5.DefA := fn_0 ++ fn_1
structure Txt (K : PySem.W.Frag) (mg : Str → Option Value) : Prop where
  g_is_integer : mg "is_integer" = some (.ref (He.ga K "is_integer"))
  g_is_within : mg "is_within" = some (.ref (He.ga K "is_within"))
  g_is_row : mg "is_row" = some (.ref (He.ga K "is_row"))
  g_are_integers : mg "are_integers" = some (.ref (He.ga K "are_integers"))
  g_product_sum : mg "product_sum" = some (.ref (He.ga K "product_sum"))
  g_items_of : mg "items_of" = some (.ref (He.ga K "items_of"))
  g_is_integer_text : mg "is_integer_text" = some (.ref (He.ga K "is_integer_text"))
  g_integer_at : mg "integer_at" = some (.ref (He.ga K "integer_at"))
  g_need_item : mg "need_item" = some (.ref (He.ga K "need_item"))
  g_need_end : mg "need_end" = some (.ref (He.ga K "need_end"))
  g_integer_text : mg "integer_text" = some (.ref (He.ga K "integer_text"))
  g_are_rows : mg "are_rows" = some (.ref (He.ga K "are_rows"))
  g_columns_of : mg "columns_of" = some (.ref (He.ga K "columns_of"))
  g_add_up : mg "add_up" = some (.ref (He.ga K "add_up"))
  g_read_rows : mg "read_rows" = some (.ref (He.ga K "read_rows"))
  g__law_loom : mg "_law_loom" = some (.ref (He.ga K "_law_loom"))
  g__law_weft : mg "_law_weft" = some (.ref (He.ga K "_law_weft"))
  g__law_thread : mg "_law_thread" = some (.ref (He.ga K "_law_thread"))
  g__law_number : mg "_law_number" = some (.ref (He.ga K "_law_number"))
  g__law_strip : mg "_law_strip" = some (.ref (He.ga K "_law_strip"))
  g__law_cloth : mg "_law_cloth" = some (.ref (He.ga K "_law_cloth"))
  g__law_total : mg "_law_total" = some (.ref (He.ga K "_law_total"))
  g__law_text : mg "_law_text" = some (.ref (He.ga K "_law_text"))
  g__law_written : mg "_law_written" = some (.ref (He.ga K "_law_written"))
  g__law_stop : mg "_law_stop" = some (.ref (He.ga K "_law_stop"))
  g__law_made : mg "_law_made" = some (.ref (He.ga K "_law_made"))
  g__law_read : mg "_law_read" = some (.ref (He.ga K "_law_read"))
  g__law_is : mg "_law_is" = some (.ref (He.ga K "_law_is"))
  g__law_bent : mg "_law_bent" = some (.ref (He.ga K "_law_bent"))
  g__law_rows_right : mg "_law_rows_right" = some (.ref (He.ga K "_law_rows_right"))
  g__law_texts_right : mg "_law_texts_right" = some (.ref (He.ga K "_law_texts_right"))
  g__law_odd_right : mg "_law_odd_right" = some (.ref (He.ga K "_law_odd_right"))
  g_law : mg "law" = some (.ref (He.ga K "law"))
  g_SignsError : mg "SignsError" = some (.ref (He.ga K "SignsError"))
  g_BadVectors : mg "BadVectors" = some (.ref (He.ga K "BadVectors"))
  g_Misfit : mg "Misfit" = some (.ref (He.ga K "Misfit"))
  g_BadText : mg "BadText" = some (.ref (He.ga K "BadText"))
  g_Vectors : mg "Vectors" = some (.ref (He.ga K "Vectors"))
  k_is_integer : PySem.W.keepIn K (.ref (He.ga K "is_integer")) = true
  k_is_within : PySem.W.keepIn K (.ref (He.ga K "is_within")) = true
  k_is_row : PySem.W.keepIn K (.ref (He.ga K "is_row")) = true
  k_are_integers : PySem.W.keepIn K (.ref (He.ga K "are_integers")) = true
  k_product_sum : PySem.W.keepIn K (.ref (He.ga K "product_sum")) = true
  k_items_of : PySem.W.keepIn K (.ref (He.ga K "items_of")) = true
  k_is_integer_text : PySem.W.keepIn K (.ref (He.ga K "is_integer_text")) = true
  k_integer_at : PySem.W.keepIn K (.ref (He.ga K "integer_at")) = true
  k_need_item : PySem.W.keepIn K (.ref (He.ga K "need_item")) = true
  k_need_end : PySem.W.keepIn K (.ref (He.ga K "need_end")) = true
  k_integer_text : PySem.W.keepIn K (.ref (He.ga K "integer_text")) = true
  k_are_rows : PySem.W.keepIn K (.ref (He.ga K "are_rows")) = true
  k_columns_of : PySem.W.keepIn K (.ref (He.ga K "columns_of")) = true
  k_add_up : PySem.W.keepIn K (.ref (He.ga K "add_up")) = true
  k_read_rows : PySem.W.keepIn K (.ref (He.ga K "read_rows")) = true
  k__law_loom : PySem.W.keepIn K (.ref (He.ga K "_law_loom")) = true
  k__law_weft : PySem.W.keepIn K (.ref (He.ga K "_law_weft")) = true
  k__law_thread : PySem.W.keepIn K (.ref (He.ga K "_law_thread")) = true
  k__law_number : PySem.W.keepIn K (.ref (He.ga K "_law_number")) = true
  k__law_strip : PySem.W.keepIn K (.ref (He.ga K "_law_strip")) = true
  k__law_cloth : PySem.W.keepIn K (.ref (He.ga K "_law_cloth")) = true
  k__law_total : PySem.W.keepIn K (.ref (He.ga K "_law_total")) = true
  k__law_text : PySem.W.keepIn K (.ref (He.ga K "_law_text")) = true
  k__law_written : PySem.W.keepIn K (.ref (He.ga K "_law_written")) = true
  k__law_stop : PySem.W.keepIn K (.ref (He.ga K "_law_stop")) = true
  k__law_made : PySem.W.keepIn K (.ref (He.ga K "_law_made")) = true
  k__law_read : PySem.W.keepIn K (.ref (He.ga K "_law_read")) = true
  k__law_is : PySem.W.keepIn K (.ref (He.ga K "_law_is")) = true
  k__law_bent : PySem.W.keepIn K (.ref (He.ga K "_law_bent")) = true
  k__law_rows_right : PySem.W.keepIn K (.ref (He.ga K "_law_rows_right")) = true
  k__law_texts_right : PySem.W.keepIn K (.ref (He.ga K "_law_texts_right")) = true
  k__law_odd_right : PySem.W.keepIn K (.ref (He.ga K "_law_odd_right")) = true
  k_law : PySem.W.keepIn K (.ref (He.ga K "law")) = true
  b_isinstance : mg "isinstance" = none
  b_int : mg "int" = none
  b_bool : mg "bool" = none
  b_str : mg "str" = none
  b_list : mg "list" = none
  b_tuple : mg "tuple" = none
  b_len : mg "len" = none
  b_abs : mg "abs" = none
  b_range : mg "range" = none
  b_all : mg "all" = none
  b_any : mg "any" = none
  b_zip : mg "zip" = none
  b_sum : mg "sum" = none
  b_max : mg "max" = none
  b_min : mg "min" = none
  c_DIGITS : ∃ t, mg "DIGITS" = some (.str "0123456789" t)
  c_MOST_DIGITS : ∃ t, mg "MOST_DIGITS" = some (.int 60 t)
  c_MOST_VECTORS : ∃ t, mg "MOST_VECTORS" = some (.int 9 t)
  c_LONGEST_ROW : ∃ t, mg "LONGEST_ROW" = some (.int 3 t)
  cl_Vectors : Cls K (He.ga K "Vectors")
  na_Vectors_rows : NoAttr K (He.ga K "Vectors") "rows"
  na_Vectors_total : NoAttr K (He.ga K "Vectors") "total"
  na_Vectors_longest : NoAttr K (He.ga K "Vectors") "longest"
  mk_Vectors : Mk K (He.ga K "Vectors") (He.ma K (He.ga K "Vectors") "__init__")
  me_Vectors_eq : Meth K (He.ga K "Vectors") "__eq__" (He.ma K (He.ga K "Vectors") "__eq__")
  me_Vectors_str : Meth K (He.ga K "Vectors") "__str__" (He.ma K (He.ga K "Vectors") "__str__")
  cc_Vectors : ClsC K "Vectors" tys
  ne_Vectors : PySem.W.findIn K (.ref (He.ga K "Vectors")) "__ne__" = some (some (.builtin "object.__ne__"))
  sm_Vectors_read : SMet K (He.ga K "Vectors") (.type "type") "read" (He.ma K (He.ga K "Vectors") "read") (He5.wf K (He.ga K "Vectors") "staticmethod" "read") ∧ ClX.CRead K (He.ga K "Vectors") (.type "type") ∧ PySem.W.keepIn K (.ref (He5.wf K (He.ga K "Vectors") "staticmethod" "read")) = true
  top : topB K = true
  e_BadVectors : ErrC K "BadVectors" ["part"] ["BadVectors", "SignsError"] ["Misfit", "BadText"]
  e_Misfit : ErrC K "Misfit" ["part"] ["Misfit", "SignsError"] ["BadVectors", "BadText"]
  e_BadText : ErrC K "BadText" ["line", "item"] ["BadText", "SignsError"] ["BadVectors", "Misfit"]
  x_BadVectors : ExcC K (He.ga K "BadVectors")
  x_Misfit : ExcC K (He.ga K "Misfit")
  x_BadText : ExcC K (He.ga K "BadText")
  d_BadVectors_init : ∃ fd, FunD K "__init__" "BadVectors.__init__" (defArgs s_BadVectors_init) (defBody s_BadVectors_init) (defScope s_BadVectors_init) [] [] (He.ma K (He.ga K "BadVectors") "__init__") fd
  d_Misfit_init : ∃ fd, FunD K "__init__" "Misfit.__init__" (defArgs s_Misfit_init) (defBody s_Misfit_init) (defScope s_Misfit_init) [] [] (He.ma K (He.ga K "Misfit") "__init__") fd
  d_BadText_init : ∃ fd, FunD K "__init__" "BadText.__init__" (defArgs s_BadText_init) (defBody s_BadText_init) (defScope s_BadText_init) [] [] (He.ma K (He.ga K "BadText") "__init__") fd
  d_is_integer : ∃ fd, FunD K "is_integer" "is_integer" (defArgs s_is_integer) (defBody s_is_integer) (defScope s_is_integer) [] [] (He.ga K "is_integer") fd
  d_is_within : ∃ fd, FunD K "is_within" "is_within" (defArgs s_is_within) (defBody s_is_within) (defScope s_is_within) [] [] (He.ga K "is_within") fd
  d_is_row : ∃ fd, FunD K "is_row" "is_row" (defArgs s_is_row) (defBody s_is_row) (defScope s_is_row) [] [] (He.ga K "is_row") fd
  d_are_integers : ∃ fd, FunD K "are_integers" "are_integers" (defArgs s_are_integers) (defBody s_are_integers) (defScope s_are_integers) [] [] (He.ga K "are_integers") fd
  d_product_sum : ∃ fd, FunD K "product_sum" "product_sum" (defArgs s_product_sum) (defBody s_product_sum) (defScope s_product_sum) [] [] (He.ga K "product_sum") fd
  d_items_of : ∃ fd, FunD K "items_of" "items_of" (defArgs s_items_of) (defBody s_items_of) (defScope s_items_of) [] [] (He.ga K "items_of") fd
  d_is_integer_text : ∃ fd, FunD K "is_integer_text" "is_integer_text" (defArgs s_is_integer_text) (defBody s_is_integer_text) (defScope s_is_integer_text) [] [] (He.ga K "is_integer_text") fd
  d_integer_at : ∃ fd, FunD K "integer_at" "integer_at" (defArgs s_integer_at) (defBody s_integer_at) (defScope s_integer_at) [] [] (He.ga K "integer_at") fd
  d_need_item : ∃ fd, FunD K "need_item" "need_item" (defArgs s_need_item) (defBody s_need_item) (defScope s_need_item) [] [] (He.ga K "need_item") fd
  d_need_end : ∃ fd, FunD K "need_end" "need_end" (defArgs s_need_end) (defBody s_need_end) (defScope s_need_end) [] [] (He.ga K "need_end") fd
  d_integer_text : ∃ fd, FunD K "integer_text" "integer_text" (defArgs s_integer_text) (defBody s_integer_text) (defScope s_integer_text) [] [] (He.ga K "integer_text") fd
  d_Vectors_init : ∃ fd, FunD K "__init__" "Vectors.__init__" (defArgs s_Vectors_init) (defBody s_Vectors_init) (defScope s_Vectors_init) [] [] (He.ma K (He.ga K "Vectors") "__init__") fd
  d_Vectors_eq : ∃ fd, FunD K "__eq__" "Vectors.__eq__" (defArgs s_Vectors_eq) (defBody s_Vectors_eq) (defScope s_Vectors_eq) [] [] (He.ma K (He.ga K "Vectors") "__eq__") fd
  d_Vectors_str : ∃ fd, FunD K "__str__" "Vectors.__str__" (defArgs s_Vectors_str) (defBody s_Vectors_str) (defScope s_Vectors_str) [] [] (He.ma K (He.ga K "Vectors") "__str__") fd
  d_Vectors_read : ∃ fd, FunD K "read" "Vectors.read" (defArgs s_Vectors_read) (defBody s_Vectors_read) (defScope s_Vectors_read) [] [] (He5.wf K (He.ga K "Vectors") "staticmethod" "read") fd
  d_are_rows : ∃ fd, FunD K "are_rows" "are_rows" (defArgs s_are_rows) (defBody s_are_rows) (defScope s_are_rows) [] [] (He.ga K "are_rows") fd
  d_columns_of : ∃ fd, FunD K "columns_of" "columns_of" (defArgs s_columns_of) (defBody s_columns_of) (defScope s_columns_of) [] [] (He.ga K "columns_of") fd
  d_add_up : ∃ fd, FunD K "add_up" "add_up" (defArgs s_add_up) (defBody s_add_up) (defScope s_add_up) [] [] (He.ga K "add_up") fd
  d_read_rows : ∃ fd, FunD K "read_rows" "read_rows" (defArgs s_read_rows) (defBody s_read_rows) (defScope s_read_rows) [] [] (He.ga K "read_rows") fd
  d__law_loom : ∃ fd, FunD K "_law_loom" "_law_loom" (defArgs s__law_loom) (defBody s__law_loom) (defScope s__law_loom) [] [] (He.ga K "_law_loom") fd
  d__law_weft : ∃ fd, FunD K "_law_weft" "_law_weft" (defArgs s__law_weft) (defBody s__law_weft) (defScope s__law_weft) [] [] (He.ga K "_law_weft") fd
  d__law_thread : ∃ fd, FunD K "_law_thread" "_law_thread" (defArgs s__law_thread) (defBody s__law_thread) (defScope s__law_thread) [] [] (He.ga K "_law_thread") fd
  d__law_number : ∃ fd, FunD K "_law_number" "_law_number" (defArgs s__law_number) (defBody s__law_number) (defScope s__law_number) [] [] (He.ga K "_law_number") fd
  d__law_strip : ∃ fd, FunD K "_law_strip" "_law_strip" (defArgs s__law_strip) (defBody s__law_strip) (defScope s__law_strip) [] [] (He.ga K "_law_strip") fd
  d__law_cloth : ∃ fd, FunD K "_law_cloth" "_law_cloth" (defArgs s__law_cloth) (defBody s__law_cloth) (defScope s__law_cloth) [] [] (He.ga K "_law_cloth") fd
  d__law_total : ∃ fd, FunD K "_law_total" "_law_total" (defArgs s__law_total) (defBody s__law_total) (defScope s__law_total) [] [] (He.ga K "_law_total") fd
  d__law_text : ∃ fd, FunD K "_law_text" "_law_text" (defArgs s__law_text) (defBody s__law_text) (defScope s__law_text) [] [] (He.ga K "_law_text") fd
  d__law_written : ∃ fd, FunD K "_law_written" "_law_written" (defArgs s__law_written) (defBody s__law_written) (defScope s__law_written) [] [] (He.ga K "_law_written") fd
  d__law_stop : ∃ fd, FunD K "_law_stop" "_law_stop" (defArgs s__law_stop) (defBody s__law_stop) (defScope s__law_stop) [] [] (He.ga K "_law_stop") fd
  d__law_made : ∃ fd, FunD K "_law_made" "_law_made" (defArgs s__law_made) (defBody s__law_made) (defScope s__law_made) [] [] (He.ga K "_law_made") fd
  d__law_read : ∃ fd, FunD K "_law_read" "_law_read" (defArgs s__law_read) (defBody s__law_read) (defScope s__law_read) [] [] (He.ga K "_law_read") fd
  d__law_is : ∃ fd, FunD K "_law_is" "_law_is" (defArgs s__law_is) (defBody s__law_is) (defScope s__law_is) [] [] (He.ga K "_law_is") fd
  d__law_bent : ∃ fd, FunD K "_law_bent" "_law_bent" (defArgs s__law_bent) (defBody s__law_bent) (defScope s__law_bent) [] [] (He.ga K "_law_bent") fd
  d__law_rows_right : ∃ fd, FunD K "_law_rows_right" "_law_rows_right" (defArgs s__law_rows_right) (defBody s__law_rows_right) (defScope s__law_rows_right) [] [] (He.ga K "_law_rows_right") fd
  d__law_texts_right : ∃ fd, FunD K "_law_texts_right" "_law_texts_right" (defArgs s__law_texts_right) (defBody s__law_texts_right) (defScope s__law_texts_right) [] [] (He.ga K "_law_texts_right") fd
  d__law_odd_right : ∃ fd, FunD K "_law_odd_right" "_law_odd_right" (defArgs s__law_odd_right) (defBody s__law_odd_right) (defScope s__law_odd_right) [] [] (He.ga K "_law_odd_right") fd
  d_law : ∃ fd, FunD K "law" "law" (defArgs s_law) (defBody s_law) (defScope s_law) [] [] (He.ga K "law") fd
theorem txt_of {K : PySem.W.Frag} {mg : Str → Option Value} {h : Heap} (X : K.In h) (G : h.Ns mainGlobals mg) (c : SaysM fa_all ex_all fn_all K) : Txt K mg where
  g_is_integer := He.glo_ok X G (c.fact 0)
  g_is_within := He.glo_ok X G (c.fact 1)
  g_is_row := He.glo_ok X G (c.fact 2)
  g_are_integers := He.glo_ok X G (c.fact 3)
  g_product_sum := He.glo_ok X G (c.fact 4)
  g_items_of := He.glo_ok X G (c.fact 5)
  g_is_integer_text := He.glo_ok X G (c.fact 6)
  g_integer_at := He.glo_ok X G (c.fact 7)
  g_need_item := He.glo_ok X G (c.fact 8)
  g_need_end := He.glo_ok X G (c.fact 9)
  g_integer_text := He.glo_ok X G (c.fact 10)
  g_are_rows := He.glo_ok X G (c.fact 11)
  g_columns_of := He.glo_ok X G (c.fact 12)
  g_add_up := He.glo_ok X G (c.fact 13)
  g_read_rows := He.glo_ok X G (c.fact 14)
  g__law_loom := He.glo_ok X G (c.fact 15)
  g__law_weft := He.glo_ok X G (c.fact 16)
  g__law_thread := He.glo_ok X G (c.fact 17)
  g__law_number := He.glo_ok X G (c.fact 18)
  g__law_strip := He.glo_ok X G (c.fact 19)
  g__law_cloth := He.glo_ok X G (c.fact 20)
  g__law_total := He.glo_ok X G (c.fact 21)
  g__law_text := He.glo_ok X G (c.fact 22)
  g__law_written := He.glo_ok X G (c.fact 23)
  g__law_stop := He.glo_ok X G (c.fact 24)
  g__law_made := He.glo_ok X G (c.fact 25)
  g__law_read := He.glo_ok X G (c.fact 26)
  g__law_is := He.glo_ok X G (c.fact 27)
  g__law_bent := He.glo_ok X G (c.fact 28)
  g__law_rows_right := He.glo_ok X G (c.fact 29)
  g__law_texts_right := He.glo_ok X G (c.fact 30)
  g__law_odd_right := He.glo_ok X G (c.fact 31)
  g_law := He.glo_ok X G (c.fact 32)
  g_SignsError := He.glo_ok X G (c.fact 33)
  g_BadVectors := He.glo_ok X G (c.fact 34)
  g_Misfit := He.glo_ok X G (c.fact 35)
  g_BadText := He.glo_ok X G (c.fact 36)
  g_Vectors := He.glo_ok X G (c.fact 37)
  k_is_integer := He.keep_ok (c.fact 38)
  k_is_within := He.keep_ok (c.fact 39)
  k_is_row := He.keep_ok (c.fact 40)
  k_are_integers := He.keep_ok (c.fact 41)
  k_product_sum := He.keep_ok (c.fact 42)
  k_items_of := He.keep_ok (c.fact 43)
  k_is_integer_text := He.keep_ok (c.fact 44)
  k_integer_at := He.keep_ok (c.fact 45)
  k_need_item := He.keep_ok (c.fact 46)
  k_need_end := He.keep_ok (c.fact 47)
  k_integer_text := He.keep_ok (c.fact 48)
  k_are_rows := He.keep_ok (c.fact 49)
  k_columns_of := He.keep_ok (c.fact 50)
  k_add_up := He.keep_ok (c.fact 51)
  k_read_rows := He.keep_ok (c.fact 52)
  k__law_loom := He.keep_ok (c.fact 53)
  k__law_weft := He.keep_ok (c.fact 54)
  k__law_thread := He.keep_ok (c.fact 55)
  k__law_number := He.keep_ok (c.fact 56)
  k__law_strip := He.keep_ok (c.fact 57)
  k__law_cloth := He.keep_ok (c.fact 58)
  k__law_total := He.keep_ok (c.fact 59)
  k__law_text := He.keep_ok (c.fact 60)
  k__law_written := He.keep_ok (c.fact 61)
  k__law_stop := He.keep_ok (c.fact 62)
  k__law_made := He.keep_ok (c.fact 63)
  k__law_read := He.keep_ok (c.fact 64)
  k__law_is := He.keep_ok (c.fact 65)
  k__law_bent := He.keep_ok (c.fact 66)
  k__law_rows_right := He.keep_ok (c.fact 67)
  k__law_texts_right := He.keep_ok (c.fact 68)
  k__law_odd_right := He.keep_ok (c.fact 69)
  k_law := He.keep_ok (c.fact 70)
  b_isinstance := He.free_ok X G (c.fact 71)
  b_int := He.free_ok X G (c.fact 72)
  b_bool := He.free_ok X G (c.fact 73)
  b_str := He.free_ok X G (c.fact 74)
  b_list := He.free_ok X G (c.fact 75)
  b_tuple := He.free_ok X G (c.fact 76)
  b_len := He.free_ok X G (c.fact 77)
  b_abs := He.free_ok X G (c.fact 78)
  b_range := He.free_ok X G (c.fact 79)
  b_all := He.free_ok X G (c.fact 80)
  b_any := He.free_ok X G (c.fact 81)
  b_zip := He.free_ok X G (c.fact 82)
  b_sum := He.free_ok X G (c.fact 83)
  b_max := He.free_ok X G (c.fact 84)
  b_min := He.free_ok X G (c.fact 85)
  c_DIGITS := He.str_ok X G (c.fact 86)
  c_MOST_DIGITS := He.int_ok X G (c.fact 87)
  c_MOST_VECTORS := He.int_ok X G (c.fact 88)
  c_LONGEST_ROW := He.int_ok X G (c.fact 89)
  cl_Vectors := He.cls_ok (c.fact 90)
  na_Vectors_rows := He.noat_ok (c.fact 91)
  na_Vectors_total := He.noat_ok (c.fact 92)
  na_Vectors_longest := He.noat_ok (c.fact 93)
  mk_Vectors := He.mkr_ok (c.fact 94)
  me_Vectors_eq := He.meth_ok (c.fact 95)
  me_Vectors_str := He.meth_ok (c.fact 96)
  cc_Vectors := clsB_ok (c.chk 0)
  ne_Vectors := He.eqO_ok (c.chk 1)
  sm_Vectors_read := smB_ok (c.chk 2)
  top := c.chk 3
  e_BadVectors := errB_ok (c.chk 4)
  e_Misfit := errB_ok (c.chk 5)
  e_BadText := errB_ok (c.chk 6)
  x_BadVectors := excB_ok (c.chk 3) (errB_ok (c.chk 4)).xf (c.chk 7)
  x_Misfit := excB_ok (c.chk 3) (errB_ok (c.chk 5)).xf (c.chk 8)
  x_BadText := excB_ok (c.chk 3) (errB_ok (c.chk 6)).xf (c.chk 9)
  d_BadVectors_init := c.def_ 0
  d_Misfit_init := c.def_ 1
  d_BadText_init := c.def_ 2
  d_is_integer := c.def_ 3
  d_is_within := c.def_ 4
  d_is_row := c.def_ 5
  d_are_integers := c.def_ 6
  d_product_sum := c.def_ 7
  d_items_of := c.def_ 8
  d_is_integer_text := c.def_ 9
  d_integer_at := c.def_ 10
  d_need_item := c.def_ 11
  d_need_end := c.def_ 12
  d_integer_text := c.def_ 13
  d_Vectors_init := c.def_ 14
  d_Vectors_eq := c.def_ 15
  d_Vectors_str := c.def_ 16
  d_Vectors_read := c.def_ 17
  d_are_rows := c.def_ 18
  d_columns_of := c.def_ 19
  d_add_up := c.def_ 20
  d_read_rows := c.def_ 21
  d__law_loom := c.def_ 22
  d__law_weft := c.def_ 23
  d__law_thread := c.def_ 24
  d__law_number := c.def_ 25
  d__law_strip := c.def_ 26
  d__law_cloth := c.def_ 27
  d__law_total := c.def_ 28
  d__law_text := c.def_ 29
  d__law_written := c.def_ 30
  d__law_stop := c.def_ 31
  d__law_made := c.def_ 32
  d__law_read := c.def_ 33
  d__law_is := c.def_ 34
  d__law_bent := c.def_ 35
  d__law_rows_right := c.def_ 36
  d__law_texts_right := c.def_ 37
  d__law_odd_right := c.def_ 38
  d_law := c.def_ 39
end K31
set_option maxHeartbeats 0
namespace K31
open PySem PySem.W PySem.Spec PyProof.Rows L2 GS
abbrev R : PySem.W.OpenRow := PySem.W.OpenLaw.row PySem.Challenge.rw_goodsigns_k31_vectors_read_and_refused
abbrev hk : PySem.W.Hook := hookM 5 fa_all ex_all fn_all
def ob (s : PySem.W.SharedT) : He.AlD := obsMG 5 fa_all ex_all fn_all (HandSHeadRun.getT s)
theorem ob_eq (s : PySem.W.SharedT) : ob s = hk.obs s.abs := obsMG_eq (HandSHeadRun.getT_eq s)
def loose : List PySem.Str := (["SignsError", "BadVectors", "Misfit", "BadText", "DIGITS", "is_integer", "is_within", "is_row", "are_integers", "product_sum"] : List PySem.Str) ++ (["MOST_DIGITS", "items_of", "is_integer_text", "integer_at", "need_item", "need_end", "integer_text", "MOST_VECTORS", "LONGEST_ROW", "Vectors"] : List PySem.Str) ++ (["are_rows", "columns_of", "add_up", "read_rows", "_law_loom", "_law_weft", "_law_thread", "_law_number", "_law_strip", "_law_cloth"] : List PySem.Str) ++ (["_law_total", "_law_text", "_law_written", "_law_stop", "_law_made", "_law_read", "_law_is", "_law_bent", "_law_rows_right", "_law_texts_right"] : List PySem.Str) ++ (["_law_odd_right"] : List PySem.Str)
theorem run (w : World) : HandSHeadRun.RunEq R (PySem.W.view R.prog [47]) hk ob 4000 loose w := by
  intro os
  kernel_rfl
end K31
namespace K31
open PySem PySem.Spec PyProof.Rows L2 GS TL
local macro_rules | `(tactic| walk_at "rd") => `(tactic| (repeat (first
  | with_reducible refine r_next ?_
  | with_reducible refine r_seq ?_
  | with_reducible refine r_ret ?_
  | with_reducible refine r_ifS ?_
  | with_reducible refine r_asg ?_
  | with_reducible refine r_drop ?_
  | with_reducible refine r_op ?_
  | with_reducible refine r_un ?_
  | with_reducible refine r_cbInt ?_
  | with_reducible refine r_cbAbs ?_
  | with_reducible refine r_cbLen ?_
  | with_reducible refine r_cbList ?_
  | with_reducible refine r_cbTup ?_
  | with_reducible refine r_iEnT ?_
  | with_reducible refine r_iEnL ?_
  | with_reducible refine r_zipA ?_
  | with_reducible refine r_zipX ?_
  | with_reducible refine r_augS ?_
  | with_reducible refine r_cb ?_
  | with_reducible refine r_call ?_
  | with_reducible refine r_make ?_
  | with_reducible refine r_callN0 ?_
  | with_reducible refine r_makeK0 ?_
  | with_reducible refine r_makeS ?_
  | with_reducible refine r_callS ?_
  | with_reducible refine r_cons ?_
  | with_reducible refine r_nil ?_
  | with_reducible refine r_test ?_
  | with_reducible refine r_B ?_
  | with_reducible refine r_and ?_
  | with_reducible refine r_or ?_
  | with_reducible refine r_not ?_
  | with_reducible refine r_andV ?_
  | with_reducible refine r_orV ?_
  | with_reducible refine r_notV ?_
  | with_reducible refine r_if ?_
  | with_reducible refine r_tup ?_
  | with_reducible refine r_lst ?_
  | with_reducible refine r_c ?_
  | with_reducible refine r_lc ?_
  | with_reducible refine r_chain ?_
  | with_reducible refine r_iT ?_
  | with_reducible refine r_iL ?_
  | with_reducible refine r_iR1 ?_
  | with_reducible refine r_iR2 ?_
  | with_reducible refine r_iR3 ?_
  | with_reducible refine r_asgG ?_
  | with_reducible refine r_gSub ?_
  | with_reducible refine r_for ?_
  | with_reducible refine r_smeth ?_
  | with_reducible refine r_par ?_
  | with_reducible refine r_parK ?_
  | with_reducible refine r_gCons ?_
  | with_reducible refine r_gNil ?_
  | with_reducible refine r_gName ?_
  | with_reducible refine r_intI ?_
  | with_reducible refine r_intB ?_
  | with_reducible refine r_absI ?_
  | with_reducible refine r_k ?_
  | with_reducible refine r_kV ?_
  | ((with_reducible show tVar _ _ _ _); refine r_var3 ?_ (by rfl))
  | with_reducible refine r_I0 ?_
  | with_reducible refine r_U ?_
  | with_reducible refine r_eqI ?_
  | with_reducible refine r_neI ?_
  | dsimp only)))
local macro_rules | `(tactic| walk_at "rx") => `(tactic| (repeat (first
  | with_reducible refine r_next ?_
  | with_reducible refine r_ret ?_
  | with_reducible refine r_ifS ?_
  | with_reducible refine r_asg ?_
  | with_reducible refine r_drop ?_
  | with_reducible refine r_op ?_
  | with_reducible refine r_un ?_
  | with_reducible refine r_cbInt ?_
  | with_reducible refine r_cbAbs ?_
  | with_reducible refine r_cbLen ?_
  | with_reducible refine r_cbList ?_
  | with_reducible refine r_cbTup ?_
  | with_reducible refine r_iEnT ?_
  | with_reducible refine r_iEnL ?_
  | with_reducible refine r_zipA ?_
  | with_reducible refine r_zipX ?_
  | with_reducible refine r_augS ?_
  | with_reducible refine r_cb ?_
  | with_reducible refine r_call ?_
  | with_reducible refine r_make ?_
  | with_reducible refine r_callN0 ?_
  | with_reducible refine r_makeK0 ?_
  | with_reducible refine r_makeS ?_
  | with_reducible refine r_callS ?_
  | with_reducible refine r_cons ?_
  | with_reducible refine r_nil ?_
  | with_reducible refine r_test ?_
  | with_reducible refine r_B ?_
  | with_reducible refine r_and ?_
  | with_reducible refine r_or ?_
  | with_reducible refine r_not ?_
  | with_reducible refine r_andV ?_
  | with_reducible refine r_orV ?_
  | with_reducible refine r_notV ?_
  | with_reducible refine r_if ?_
  | with_reducible refine r_tup ?_
  | with_reducible refine r_lst ?_
  | with_reducible refine r_c ?_
  | with_reducible refine r_lc ?_
  | with_reducible refine r_chain ?_
  | with_reducible refine r_iT ?_
  | with_reducible refine r_iL ?_
  | with_reducible refine r_iR1 ?_
  | with_reducible refine r_iR2 ?_
  | with_reducible refine r_iR3 ?_
  | with_reducible refine r_asgG ?_
  | with_reducible refine r_gSub ?_
  | with_reducible refine r_for ?_
  | with_reducible refine r_smeth ?_
  | with_reducible refine r_par ?_
  | with_reducible refine r_parK ?_
  | with_reducible refine r_gCons ?_
  | with_reducible refine r_gNil ?_
  | with_reducible refine r_gName ?_
  | with_reducible refine r_intI ?_
  | with_reducible refine r_intB ?_
  | with_reducible refine r_absI ?_
  | with_reducible refine r_k ?_
  | with_reducible refine r_kV ?_
  | ((with_reducible show tVar _ _ _ _); refine r_var3 ?_ (by rfl))
  | with_reducible refine r_I0 ?_
  | with_reducible refine r_U ?_
  | with_reducible refine r_eqI ?_
  | with_reducible refine r_neI ?_
  | dsimp only)))
/-! ### values -/
/-- vectors: rows in tuples in a tuple -/
def vf (t : Addr) (n m : Int) : List (Str × V) := [("rows", .ref t), ("total", .int n), ("longest", .int m)]
/-- rows that stand in tuples -/
def TRw (H : Hp) : List Addr → List (List Int) → Prop
  | [], [] => True
  | t :: ts, r :: rs => H t = some (.tup (r.map V.int)) ∧ TRw H ts rs
  | _, _ => False
theorem TRw.to {H H' : Hp} (e : ∀ t xs, H t = some (.tup xs) → H' t = some (.tup xs)) : ∀ {ts : List Addr} {rs : List (List Int)}, TRw H ts rs → TRw H' ts rs
  | [], [], _ => trivial
  | _ :: _, _ :: _, h => ⟨e _ _ h.1, TRw.to e h.2⟩
  | [], _ :: _, h => h.elim
  | _ :: _, [], h => h.elim
def Vec (K : PySem.W.Frag) (H : Hp) (a : Addr) (rs : List (List Int)) : Prop := GV.okR rs ∧ ∃ dx t ts, H a = some (.ins (He.ga K "Vectors") dx (vf t (GV.tot rs) (GV.lon rs))) ∧ H t = some (.tup (ts.map V.ref)) ∧ TRw H ts rs
theorem Vec.ex {K : PySem.W.Frag} {H H' : Hp} {a : Addr} {rs : List (List Int)} (h : Vec K H a rs) (e : Ex H H') : Vec K H' a rs := let ⟨h1, dx, t, ts, h2, h3, h4⟩ := h; ⟨h1, dx, t, ts, e _ _ h2, e _ _ h3, h4.to fun t xs z => e _ _ z⟩
/-- an instance of a class of the program's -/
abbrev owns : List Str := ["Vectors"]
def Own (K : PySem.W.Frag) (H : Hp) (v : V) : Prop := ∃ a C dx fs, v = .ref a ∧ C ∈ owns ∧ H a = some (.ins (He.ga K C) dx fs)
theorem Vec.own {K : PySem.W.Frag} {H : Hp} {a : Addr} {rs : List (List Int)} (h : Vec K H a rs) : Own K H (.ref a) := let ⟨_, dx, _, _, h, _, _⟩ := h; ⟨a, "Vectors", dx, _, rfl, by decide, h⟩
/-- a value whose kind is known -/
def Kn (K : PySem.W.Frag) (H : Hp) (v : V) : Prop := (∃ T ∈ tys, TyOf K H v (.type T)) ∨ Own K H v
theorem TyOf.ex' {K : PySem.W.Frag} {H H' : Hp} {v : V} {T : String} (b : TyOf K H v (.type T)) (e : ∀ a, v = .ref a → ∀ o, H a = some o → H' a = some o) : TyOf K H' v (.type T) := by
  cases b with
  | non => exact .non
  | bl b => exact .bl b
  | int i => exact .int i
  | str i => exact .str i
  | flt i => exact .flt i
  | lst q => exact .lst (e _ rfl _ q)
  | frz q => exact .frz (e _ rfl _ q)
  | tup q => exact .tup (e _ rfl _ q)
  | dK q => exact .dK (e _ rfl _ q)
  | dT q => exact .dT (e _ rfl _ q)
theorem TyOf.there {K : PySem.W.Frag} {H : Hp} {a : Addr} {T : String} (b : TyOf K H (.ref a) (.type T)) : ∃ o, H a = some o ∧ ∀ C dx fs, o ≠ .ins C dx fs := by
  cases b with
  | lst q => exact ⟨_, q, fun _ _ _ z => by cases z⟩
  | frz q => exact ⟨_, q, fun _ _ _ z => by cases z⟩
  | tup q => exact ⟨_, q, fun _ _ _ z => by cases z⟩
  | dK q => exact ⟨_, q, fun _ _ _ z => by cases z⟩
  | dT q => exact ⟨_, q, fun _ _ _ z => by cases z⟩
theorem Kn.ex {K : PySem.W.Frag} {H H' : Hp} {v : V} (h : Kn K H v) (e : Ex H H') : Kn K H' v := by
  rcases h with ⟨T, hT, h⟩ | ⟨a, C, dx, fs, h, hC, b⟩
  · exact .inl ⟨T, hT, TyOf.ex' h fun a _ o q => e a o q⟩
  · exact .inr ⟨a, C, dx, fs, h, hC, e _ _ b⟩
theorem kn_int {K : PySem.W.Frag} {H : Hp} (i : Int) : Kn K H (.int i) := .inl ⟨"int", by decide, .int i⟩
def isI : V → Bool
  | .int _ => true
  | _ => false
/-- an own class, for isinstance -/
theorem own_facts {K : PySem.W.Frag} {mg : Str → Option Value} (T : Txt K mg) {C : Str} (h : C ∈ owns) : Cls K (He.ga K C) ∧ ClsC K C tys := by
  rw [List.mem_singleton.mp h]
  exact ⟨T.cl_Vectors, T.cc_Vectors⟩
theorem ty_own {K : PySem.W.Frag} {mg : Str → Option Value} {H : Hp} {a dx : Addr} {C : Str} {fs : List (Str × V)} (T : Txt K mg) (h : C ∈ owns) (e : H a = some (.ins (He.ga K C) dx fs)) : TyX K H (.ref a) (.ref (He.ga K C)) := by
  obtain ⟨h1, h2⟩ := He.ba T.top
  obtain ⟨c1, c2⟩ := own_facts T h
  exact .base (.ins e c1 c2.ha (He.eqO_ok h1) (of_decide_eq_true h2) c2.hm)
def kitR (T1 T0 : String) : Bool := decide (T1 = T0) || (decide (T1 = "bool") && decide (T0 = "int"))
theorem kit_all : ∀ T1 ∈ tys, ∀ T0 ∈ tys, kitB T1 T0 = some (kitR T1 T0) := by decide +kernel
/-- isinstance(v, T0), T0 built-in -/
theorem kn_kit {K : PySem.W.Frag} {mg : Str → Option Value} {H : Hp} {v : V} (T : Txt K mg) (h : Kn K H v) {T0 : String} (h0 : T0 ∈ tys) : ∃ t b, TyX K H v t ∧ PySem.W.kitOne K t (.type T0) = some b ∧ ((∃ T1 ∈ tys, t = .type T1 ∧ kitR T1 T0 = b) ∨ (b = false ∧ (∃ C, t = .ref (He.ga K C)) ∧ ∃ a, v = .ref a)) := by
  rcases h with ⟨T1, hT, h⟩ | ⟨a, C, dx, fs, rfl, hC, b⟩
  · exact ⟨_, _, .base h, kit_ty (kit_all T1 hT T0 h0), .inl ⟨T1, hT, rfl, rfl⟩⟩
  · exact ⟨_, false, ty_own T hC b, ((own_facts T hC).2.ty T0 h0).2.1, .inr ⟨rfl, ⟨C, rfl⟩, a, rfl⟩⟩
/-- the type of an int is int; what has the type int is one -/
theorem ty_int {K : PySem.W.Frag} {H : Hp} {v : V} {T : String} (h : TyX K H v (.type T)) : (T = "int") ↔ isI v = true := by
  cases h with
  | base b => cases b <;> simp [isI]
  | _ => simp [isI]
def isBl : V → Bool
  | .bl _ => true
  | _ => false
theorem ty_bool {K : PySem.W.Frag} {H : Hp} {v : V} {T : String} (h : TyX K H v (.type T)) : (T = "bool") ↔ isBl v = true := by
  cases h with
  | base b => cases b <;> simp [isBl]
  | _ => simp [isBl]
/-! ### errors -/
def spErr (K : PySem.W.Frag) (x f : Str) : Sp := sp2 fun a v H Q _ => ∃ e, a = .ref e ∧ H e = some (exo e (He.ga K x) none) ∧ ∀ dx, H dx = none → dx ≠ e → Q .non (upd (upd H dx (exd dx [(f, v)])) e (exo e (He.ga K x) (some dx)))
/-- an error of the class x with its field -/
def Raised (K : PySem.W.Frag) (x f : Str) (v : V) (H : Hp) (E : XK) : Prop := ∀ d H', Ex H H' → H' d = some (.xd [(f, v)]) → E (.ref (He.ga K x)) (some d) H'
theorem r_err {K : PySem.W.Frag} {x f : Str} {v : V} {H : Hp} {E : XK} {vs : List V} (hv : vs = [v]) (q : Raised K x f v H E) : vs.length ≤ 1000 ∧ ∀ a, H a = none → spErr K x f (.ref a :: (vs ++ [])) (upd H a (exo a (He.ga K x) none))
    (fun v H2 => v = .non ∧ ∃ (d : Addr) (fs : List (Str × V)), H2 a = some (exo a (He.ga K x) (some d)) ∧ H2 d = some (exd d fs) ∧ H d = none ∧ E (.ref (He.ga K x)) (some d) (upd (del H2 a) d (.xd fs))) (fun _ _ _ => False) := by
  subst hv
  refine ⟨by simp, fun a ha => ⟨a, rfl, upd_same, fun dx hd hne => ⟨rfl, dx, [(f, v)], upd_same, ?_, ?_, ?_⟩⟩⟩
  · rw [upd_ne hne, upd_same]
  · rw [upd_ne hne] at hd
    exact hd
  · rw [upd_ne hne] at hd
    refine q dx _ (fun b o hb => ?_) upd_same
    have n1 : b ≠ dx := ne_of_none hb hd
    have n2 : b ≠ a := ne_of_none hb ha
    rw [upd_ne n1, del_ne n2, upd_ne n2, upd_ne n1, upd_ne n2]
    exact hb
theorem ok_BadVectors_init {P : Program} {w : World} {K : PySem.W.Frag} {mg : Str → Option Value} {base : Heap} (T : Txt K mg) : ∃ fd, FnOk P w K mg base (L2.CX P w) 1 (He.ma K (He.ga K "BadVectors") "__init__") fd ["self", "part"] (spErr K "BadVectors" "part") ∧ Binds K fd ["self", "part"] [] := by
  obtain ⟨fd, F⟩ := T.d_BadVectors_init
  refine ⟨fd, F.ok sc_BadVectors_init sp2_len (fun cdv A outer s H vs Q E hr h => ?_), F.bindsN fun _ _ _ _ _ _ us hl => match us, hl with | [_, _], _ => rfl⟩
  obtain ⟨a, v, rfl, e, rfl, he, k⟩ := sp2_is h
  refine ⟨_, (pss_one (ps_ost (pv 0) (pv 1))), ?_⟩
  exact ⟨_, rfl, _, rfl, e, _, rfl, T.e_BadVectors.o, T.e_BadVectors.no_ _ (by simp), .inl ⟨he, fun dx h1 h2 => k dx h1 h2⟩⟩
theorem ok_Misfit_init {P : Program} {w : World} {K : PySem.W.Frag} {mg : Str → Option Value} {base : Heap} (T : Txt K mg) : ∃ fd, FnOk P w K mg base (L2.CX P w) 1 (He.ma K (He.ga K "Misfit") "__init__") fd ["self", "part"] (spErr K "Misfit" "part") ∧ Binds K fd ["self", "part"] [] := by
  obtain ⟨fd, F⟩ := T.d_Misfit_init
  refine ⟨fd, F.ok sc_Misfit_init sp2_len (fun cdv A outer s H vs Q E hr h => ?_), F.bindsN fun _ _ _ _ _ _ us hl => match us, hl with | [_, _], _ => rfl⟩
  obtain ⟨a, v, rfl, e, rfl, he, k⟩ := sp2_is h
  refine ⟨_, (pss_one (ps_ost (pv 0) (pv 1))), ?_⟩
  exact ⟨_, rfl, _, rfl, e, _, rfl, T.e_Misfit.o, T.e_Misfit.no_ _ (by simp), .inl ⟨he, fun dx h1 h2 => k dx h1 h2⟩⟩
def spErrB (K : PySem.W.Frag) : Sp := sp3 fun a v w H Q _ => ∃ e, a = .ref e ∧ H e = some (exo e (He.ga K "BadText") none) ∧ ∀ dx, H dx = none → dx ≠ e → Q .non (upd (upd (upd H dx (exd dx [("line", v)])) e (exo e (He.ga K "BadText") (some dx))) dx (exd dx [("item", w), ("line", v)]))
/-- a text that stops at an item -/
def Stop (K : PySem.W.Frag) (n : Nat) (H : Hp) (E : XK) : Prop := ∀ d H', Ex H H' → H' d = some (.xd [("item", .int n), ("line", .int 0)]) → E (.ref (He.ga K "BadText")) (some d) H'
theorem Stop.ex {K : PySem.W.Frag} {n : Nat} {H H' : Hp} {E : XK} (h : Stop K n H E) (e : Ex H H') : Stop K n H' E := fun d H'' e' hd => h d H'' (e.trans e') hd
theorem r_errB {K : PySem.W.Frag} {n : Nat} {v : V} {H : Hp} {E : XK} {vs : List V} (hv : vs = [.int 0, v]) (hn : v = .int n) (q : Stop K n H E) : vs.length ≤ 1000 ∧ ∀ a, H a = none → spErrB K (.ref a :: (vs ++ [])) (upd H a (exo a (He.ga K "BadText") none))
    (fun v H2 => v = .non ∧ ∃ (d : Addr) (fs : List (Str × V)), H2 a = some (exo a (He.ga K "BadText") (some d)) ∧ H2 d = some (exd d fs) ∧ H d = none ∧ E (.ref (He.ga K "BadText")) (some d) (upd (del H2 a) d (.xd fs))) (fun _ _ _ => False) := by
  subst hv hn
  refine ⟨by simp, fun a ha => ⟨a, rfl, upd_same, fun dx hd hne => ⟨rfl, dx, [("item", .int n), ("line", .int 0)], ?_, upd_same, ?_, ?_⟩⟩⟩
  · rw [upd_ne hne.symm, upd_same]
  · rw [upd_ne hne] at hd
    exact hd
  · rw [upd_ne hne] at hd
    refine q dx _ (fun b o hb => ?_) upd_same
    have n1 : b ≠ dx := ne_of_none hb hd
    have n2 : b ≠ a := ne_of_none hb ha
    rw [upd_ne n1, del_ne n2, upd_ne n1, upd_ne n2, upd_ne n1, upd_ne n2]
    exact hb
theorem ok_BadText_init {P : Program} {w : World} {K : PySem.W.Frag} {mg : Str → Option Value} {base : Heap} (T : Txt K mg) : ∃ fd, FnOk P w K mg base (L2.CX P w) 1 (He.ma K (He.ga K "BadText") "__init__") fd ["self", "line", "item"] (spErrB K) ∧ Binds K fd ["self", "line", "item"] [] := by
  obtain ⟨fd, F⟩ := T.d_BadText_init
  refine ⟨fd, F.ok sc_BadText_init sp3_len (fun cdv A outer s H vs Q E hr h => ?_), F.bindsN fun _ _ _ _ _ _ us hl => match us, hl with | [_, _, _], _ => rfl⟩
  obtain ⟨a, v, w, rfl, e, rfl, he, k⟩ := sp3_is h
  refine ⟨_, (pss_cons (ps_ost (pv 0) (pv 1))
      (pss_one (ps_ost (pv 0) (pv 2)))), ?_⟩
  refine ⟨_, rfl, _, rfl, e, _, rfl, T.e_BadText.o, T.e_BadText.no_ _ (by simp), .inl ⟨he, fun dx h1 h2 => ?_⟩⟩
  exact ⟨_, rfl, _, rfl, e, _, rfl, T.e_BadText.o, T.e_BadText.no_ _ (by simp), .inr ⟨dx, _, upd_same, by rw [upd_ne h2, upd_same], by simp, k dx h1 h2⟩⟩
/-! ### checks -/
def spIsInt (K : PySem.W.Frag) : Sp := sp1 fun v H Q _ => Kn K H v ∧ Q (.bl (isI v)) H
theorem ok_is_integer {P : Program} {w : World} {K : PySem.W.Frag} {mg : Str → Option Value} {base : Heap} (T : Txt K mg) : ∃ fd, FnOk P w K mg base (L2.CX P w) 1 (He.ga K "is_integer") fd ["value"] (spIsInt K) ∧ Binds K fd ["value"] [] := by
  obtain ⟨fd, F⟩ := T.d_is_integer
  refine ⟨fd, F.ok sc_is_integer sp1_len (fun cdv A outer s H vs Q E hr h => ?_), F.bindsN fun _ _ _ _ _ _ us hl => match us, hl with | [_], _ => rfl⟩
  obtain ⟨v, rfl, kv, q⟩ := sp1_is h
  refine ⟨_, (pss_one (ps_ret (pe_and (pe_callB (cr_isi rfl) (by rfl) T.b_isinstance (by decide +kernel) (pa_cons (pv 0) (pa_cons (pe_bltn (v := .ty "int") (by rfl) T.b_int (by decide +kernel) rfl) pa_nil))) (pe_one (pe_not (pe_callB (cr_isi rfl) (by rfl) T.b_isinstance (by decide +kernel) (pa_cons (pv 0) (pa_cons (pe_bltn (v := .ty "bool") (by rfl) T.b_bool (by decide +kernel) rfl) pa_nil)))))))), ?_⟩
  obtain ⟨t, b, ht, hb, hc⟩ := kn_kit T kv (T0 := "int") (by decide)
  obtain ⟨t', b', ht', hb', hc'⟩ := kn_kit T kv (T0 := "bool") (by decide)
  have e : (b && !b') = isI v := by
    rcases hc with ⟨T1, m1, rfl, rfl⟩ | ⟨rfl, ⟨C, rfl⟩, a, rfl⟩
    · have c1 := ty_int ht
      rcases hc' with ⟨T2, m2, rfl, rfl⟩ | ⟨rfl, ⟨C, rfl⟩, a, rfl⟩
      · have c2 := ty_int ht'
        cases hv : isI v with
        | true =>
          obtain rfl := c1.mpr hv
          obtain rfl := c2.mpr hv
          decide
        | false =>
          have n1 : T1 ≠ "int" := fun z => by have := c1.mp z; rw [hv] at this; cases this
          have n2 : T1 = "bool" → T2 = "bool" := fun z => (ty_bool ht').mpr ((ty_bool ht).mp z)
          by_cases z : T1 = "bool"
          · obtain rfl := n2 z
            subst z
            decide
          · simp [kitR, n1, z]
      · cases hv : isI (V.ref a) with
        | true => cases hv
        | false =>
          have n1 : T1 ≠ "int" := fun z => by have := c1.mp z; rw [hv] at this; cases this
          have n2 : T1 ≠ "bool" := fun z => by have := (ty_bool ht).mp z; cases this
          simp [kitR, n1, n2]
    · simp [isI]
  refine ⟨_, rfl, v, .ty "int", t, _, b, rfl, .ty "int", ht, hb, b, rfl, ?_⟩
  cases b with
  | false =>
    rw [if_neg Bool.false_ne_true]
    rw [← e] at q
    exact q
  | true =>
    rw [if_pos rfl]
    rw [← e] at q
    exact ⟨_, rfl, v, .ty "bool", t', _, b', rfl, .ty "bool", ht', hb', b', rfl, q⟩
/-- least, most: none or a bound -/
def bnd : V → Option (Option Int)
  | .non => some none
  | .int i => some (some i)
  | _ => none
def loB (i : Int) : Option Int → Bool
  | none => true
  | some l => decide (l ≤ i)
def upB (i : Int) : Option Int → Bool
  | none => true
  | some m => decide (i ≤ m)
def inB (v : V) (l m : Option Int) : Bool := match v with
  | .int i => loB i l && upB i m
  | _ => false
def spWithin (K : PySem.W.Frag) : Sp := sp3 fun v l m H Q _ => Kn K H v ∧ ∃ l' m', bnd l = some l' ∧ bnd m = some m' ∧ Q (.bl (inB v l' m')) H
theorem bnd_is {v : V} {l : Option Int} (h : bnd v = some l) : (v = .non ∧ l = none) ∨ ∃ i, v = .int i ∧ l = some i := by
  cases v <;> simp [bnd] at h <;> subst h <;> simp
theorem ok_is_within {P : Program} {w : World} {K : PySem.W.Frag} {mg : Str → Option Value} {base : Heap} (T : Txt K mg) : ∃ fd, FnOk P w K mg base (L2.CX P w) 2 (He.ga K "is_within") fd ["value", "least", "most"] (spWithin K) ∧ Binds K fd ["value", "least", "most"] [] := by
  obtain ⟨fd, F⟩ := T.d_is_within
  obtain ⟨fd_is_integer, F_is_integer, B_is_integer⟩ := ok_is_integer (P := P) (w := w) (base := base) T
  refine ⟨fd, F.ok sc_is_within sp3_len (fun cdv A outer s H vs Q E hr h => ?_), F.bindsN fun _ _ _ _ _ _ us hl => match us, hl with | [_, _, _], _ => rfl⟩
  have hr_is_integer : Room 1 _ := hr.mono (by decide)
  obtain ⟨v, l, m, rfl, kv, l', m', hl, hm, q⟩ := sp3_is h
  refine ⟨_, (pss_cons (ps_if (PW.pt (pw_or (pt_not (pt_val (pe_call F_is_integer hr_is_integer (by rfl) T.g_is_integer T.k_is_integer B_is_integer .nil passL (pa_cons (pv 0) pa_nil)))) (pw_or1 (PW.pt (pw_and (pt_cmpR op_notN (pv 1) pe_non (nomark _)) (pw_and1 (pt_cmpR op_lt (pv 0) (pv 1) (nomark _)))))))) (pss_one (ps_ret pe_bl)) pss_nil)
      (pss_one (ps_ret (pe_or (pe_cmpR op_isN (pv 2) pe_non (nomark _)) (pe_one (pe_cmpR op_le (pv 0) (pv 2) (nomark _))))))), ?_⟩
  refine ⟨_, rfl, kv, ⟨_, rfl, ?_⟩⟩
  cases hv : isI v with
  | false =>
    have e : inB v l' m' = false := by cases v <;> first | rfl | cases hv
    rw [e] at q
    exact ite_t rfl (ite_t rfl q)
  | true =>
    obtain ⟨i, rfl⟩ : ∃ i, v = .int i := by cases v <;> first | exact ⟨_, rfl⟩ | cases hv
    refine ite_f rfl ?_
    have last : ∀ {Q' : VK}, Q' (.bl (upB i m')) H → (tOrV (tOp (fun x y H Q => y = .non ∧ Q (.bl (decide (x = .non))) H) (tVar 2) (tC .non)) (tOp (rI0 fun i j => .bl (decide (i ≤ j))) (tVar 0) (tVar 2))) [some (.int i), some l, some m] H Q' := fun {Q'} q' => by
      refine ⟨_, rfl, rfl, _, rfl, ?_⟩
      rcases bnd_is hm with ⟨rfl, rfl⟩ | ⟨j, rfl, rfl⟩
      · exact ite_t (by simp) q'
      · exact ite_f (by simp) ⟨_, rfl, _, rfl, i, j, rfl, rfl, q'⟩
    rcases bnd_is hl with ⟨rfl, rfl⟩ | ⟨j, rfl, rfl⟩
    · refine ⟨_, rfl, rfl, _, rfl, ite_f (by simp) (ite_f rfl (last ?_))⟩
      simpa [inB, loB] using q
    · refine ⟨_, rfl, rfl, _, rfl, ite_t (by simp) ⟨_, rfl, _, rfl, i, j, rfl, rfl, _, rfl, ?_⟩⟩
      by_cases c : i < j
      · refine ite_t (by simp [c]) ?_
        have e : inB (.int i) (some j) m' = false := by simp [inB, loB, show ¬ j ≤ i by omega]
        rw [e] at q
        exact q
      · refine ite_f (by simp [c]) (last ?_)
        have e : inB (.int i) (some j) m' = upB i m' := by simp [inB, loB, show j ≤ i by omega]
        rw [← e]
        exact q

end K31
namespace K31
open PySem PySem.Spec PyProof.Rows L2 GS TL
local macro_rules | `(tactic| walk_at "rd") => `(tactic| (repeat (first
  | with_reducible refine r_next ?_
  | with_reducible refine r_seq ?_
  | with_reducible refine r_ret ?_
  | with_reducible refine r_ifS ?_
  | with_reducible refine r_asg ?_
  | with_reducible refine r_drop ?_
  | with_reducible refine r_op ?_
  | with_reducible refine r_un ?_
  | with_reducible refine r_cbInt ?_
  | with_reducible refine r_cbAbs ?_
  | with_reducible refine r_cbLen ?_
  | with_reducible refine r_cbList ?_
  | with_reducible refine r_cbTup ?_
  | with_reducible refine r_iEnT ?_
  | with_reducible refine r_iEnL ?_
  | with_reducible refine r_zipA ?_
  | with_reducible refine r_zipX ?_
  | with_reducible refine r_augS ?_
  | with_reducible refine r_cb ?_
  | with_reducible refine r_call ?_
  | with_reducible refine r_make ?_
  | with_reducible refine r_callN0 ?_
  | with_reducible refine r_makeK0 ?_
  | with_reducible refine r_makeS ?_
  | with_reducible refine r_callS ?_
  | with_reducible refine r_cons ?_
  | with_reducible refine r_nil ?_
  | with_reducible refine r_test ?_
  | with_reducible refine r_B ?_
  | with_reducible refine r_and ?_
  | with_reducible refine r_or ?_
  | with_reducible refine r_not ?_
  | with_reducible refine r_andV ?_
  | with_reducible refine r_orV ?_
  | with_reducible refine r_notV ?_
  | with_reducible refine r_if ?_
  | with_reducible refine r_tup ?_
  | with_reducible refine r_lst ?_
  | with_reducible refine r_c ?_
  | with_reducible refine r_lc ?_
  | with_reducible refine r_chain ?_
  | with_reducible refine r_iT ?_
  | with_reducible refine r_iL ?_
  | with_reducible refine r_iR1 ?_
  | with_reducible refine r_iR2 ?_
  | with_reducible refine r_iR3 ?_
  | with_reducible refine r_asgG ?_
  | with_reducible refine r_gSub ?_
  | with_reducible refine r_for ?_
  | with_reducible refine r_smeth ?_
  | with_reducible refine r_par ?_
  | with_reducible refine r_parK ?_
  | with_reducible refine r_gCons ?_
  | with_reducible refine r_gNil ?_
  | with_reducible refine r_gName ?_
  | with_reducible refine r_intI ?_
  | with_reducible refine r_intB ?_
  | with_reducible refine r_absI ?_
  | with_reducible refine r_k ?_
  | with_reducible refine r_kV ?_
  | ((with_reducible show tVar _ _ _ _); refine r_var3 ?_ (by rfl))
  | with_reducible refine r_I0 ?_
  | with_reducible refine r_U ?_
  | with_reducible refine r_eqI ?_
  | with_reducible refine r_neI ?_
  | with_reducible refine r_F ?_
  | dsimp only)))
local macro_rules | `(tactic| walk_at "rx") => `(tactic| (repeat (first
  | with_reducible refine r_next ?_
  | with_reducible refine r_ret ?_
  | with_reducible refine r_ifS ?_
  | with_reducible refine r_asg ?_
  | with_reducible refine r_drop ?_
  | with_reducible refine r_op ?_
  | with_reducible refine r_un ?_
  | with_reducible refine r_cbInt ?_
  | with_reducible refine r_cbAbs ?_
  | with_reducible refine r_cbLen ?_
  | with_reducible refine r_cbList ?_
  | with_reducible refine r_cbTup ?_
  | with_reducible refine r_iEnT ?_
  | with_reducible refine r_iEnL ?_
  | with_reducible refine r_zipA ?_
  | with_reducible refine r_zipX ?_
  | with_reducible refine r_augS ?_
  | with_reducible refine r_cb ?_
  | with_reducible refine r_call ?_
  | with_reducible refine r_make ?_
  | with_reducible refine r_callN0 ?_
  | with_reducible refine r_makeK0 ?_
  | with_reducible refine r_makeS ?_
  | with_reducible refine r_callS ?_
  | with_reducible refine r_cons ?_
  | with_reducible refine r_nil ?_
  | with_reducible refine r_test ?_
  | with_reducible refine r_B ?_
  | with_reducible refine r_and ?_
  | with_reducible refine r_or ?_
  | with_reducible refine r_not ?_
  | with_reducible refine r_andV ?_
  | with_reducible refine r_orV ?_
  | with_reducible refine r_notV ?_
  | with_reducible refine r_if ?_
  | with_reducible refine r_tup ?_
  | with_reducible refine r_lst ?_
  | with_reducible refine r_c ?_
  | with_reducible refine r_lc ?_
  | with_reducible refine r_chain ?_
  | with_reducible refine r_iT ?_
  | with_reducible refine r_iL ?_
  | with_reducible refine r_iR1 ?_
  | with_reducible refine r_iR2 ?_
  | with_reducible refine r_iR3 ?_
  | with_reducible refine r_asgG ?_
  | with_reducible refine r_gSub ?_
  | with_reducible refine r_for ?_
  | with_reducible refine r_smeth ?_
  | with_reducible refine r_par ?_
  | with_reducible refine r_parK ?_
  | with_reducible refine r_gCons ?_
  | with_reducible refine r_gNil ?_
  | with_reducible refine r_gName ?_
  | with_reducible refine r_intI ?_
  | with_reducible refine r_intB ?_
  | with_reducible refine r_absI ?_
  | with_reducible refine r_k ?_
  | with_reducible refine r_kV ?_
  | ((with_reducible show tVar _ _ _ _); refine r_var3 ?_ (by rfl))
  | with_reducible refine r_I0 ?_
  | with_reducible refine r_U ?_
  | with_reducible refine r_eqI ?_
  | with_reducible refine r_neI ?_
  | with_reducible refine r_F ?_
  | dsimp only)))
/-! ### rows of integers -/
/-- the items of a list or a tuple -/
def Sq (H : Hp) (v : V) (xs : List V) : Prop := ∃ a, v = .ref a ∧ (H a = some (.lst xs) ∨ H a = some (.tup xs))
theorem Sq.ex {H H' : Hp} {v : V} {xs : List V} (h : Sq H v xs) (e : Ex H H') : Sq H' v xs := by
  obtain ⟨a, rfl, h | h⟩ := h
  · exact ⟨a, rfl, .inl (e _ _ h)⟩
  · exact ⟨a, rfl, .inr (e _ _ h)⟩
theorem Sq.kn {K : PySem.W.Frag} {H : Hp} {v : V} {xs : List V} (h : Sq H v xs) : Kn K H v := by
  obtain ⟨a, rfl, h | h⟩ := h
  · exact .inl ⟨"list", by decide, .lst h⟩
  · exact .inl ⟨"tuple", by decide, .tup h⟩
theorem Own.ex {K : PySem.W.Frag} {H H' : Hp} {v : V} (h : Own K H v) (e : Ex H H') : Own K H' v := let ⟨a, C, dx, fs, h1, h2, h3⟩ := h; ⟨a, C, dx, fs, h1, h2, e _ _ h3⟩
/-- whether it is a list or a tuple -/
def RowB (K : PySem.W.Frag) (H : Hp) (v : V) (b : Bool) : Prop := (∃ T ∈ tys, TyOf K H v (.type T) ∧ b = (T == "list" || T == "tuple")) ∨ (Own K H v ∧ b = false)
theorem RowB.ex {K : PySem.W.Frag} {H H' : Hp} {v : V} {b : Bool} (h : RowB K H v b) (e : Ex H H') : RowB K H' v b := by
  rcases h with ⟨T, hT, h, hb⟩ | ⟨h, hb⟩
  · exact .inl ⟨T, hT, TyOf.ex' h fun a _ o q => e a o q, hb⟩
  · exact .inr ⟨h.ex e, hb⟩
theorem Kn.row {K : PySem.W.Frag} {H : Hp} {v : V} (h : Kn K H v) : ∃ b, RowB K H v b := by
  rcases h with ⟨T, hT, h⟩ | h
  · exact ⟨_, .inl ⟨T, hT, h, rfl⟩⟩
  · exact ⟨false, .inr ⟨h, rfl⟩⟩
theorem Sq.row {K : PySem.W.Frag} {H : Hp} {v : V} {xs : List V} (h : Sq H v xs) : RowB K H v true := by
  obtain ⟨a, rfl, h | h⟩ := h
  · exact .inl ⟨"list", by decide, .lst h, rfl⟩
  · exact .inl ⟨"tuple", by decide, .tup h, rfl⟩
theorem row_kit : ∀ T ∈ tys, kitR T "list" = (T == "list") ∧ kitR T "tuple" = (T == "tuple") := by decide
def spRow (K : PySem.W.Frag) : Sp := sp1 fun v H Q _ => ∃ b, RowB K H v b ∧ ∀ H', Ex H H' → Q (.bl b) H'
theorem ok_is_row {P : Program} {w : World} {K : PySem.W.Frag} {mg : Str → Option Value} {base : Heap} (T : Txt K mg) : ∃ fd, FnOk P w K mg base (L2.CX P w) 1 (He.ga K "is_row") fd ["value"] (spRow K) ∧ Binds K fd ["value"] [] := by
  obtain ⟨fd, F⟩ := T.d_is_row
  refine ⟨fd, F.ok sc_is_row sp1_len (fun cdv A outer s H vs Q E hr h => ?_), F.bindsN fun _ _ _ _ _ _ us hl => match us, hl with | [_], _ => rfl⟩
  obtain ⟨v, rfl, b, hv, k⟩ := sp1_is h
  refine ⟨_, (pss_one (ps_ret (pe_callB call_isiT (by rfl) T.b_isinstance (by decide +kernel) (pa_cons (pv 0) (pa_cons (pe_tup (pa_cons (pe_bltn (v := .ty "list") (by rfl) T.b_list (by decide +kernel) rfl) (pa_cons (pe_bltn (v := .ty "tuple") (by rfl) T.b_tuple (by decide +kernel) rfl) pa_nil))) pa_nil))))), ?_⟩
  walk_at "rd"
  refine r_newT (sz_le (by simp)) fun t H1 _ e1 h1 => ?_
  have hv1 := hv.ex e1
  have any : ∃ t, TyX K H1 v t ∧ PySem.W.kitAny K t [.type "list", .type "tuple"] = some b := by
    rcases hv1 with ⟨T1, hT, hy, rfl⟩ | ⟨⟨a, C, dx, fs, rfl, hC, ha⟩, rfl⟩
    · refine ⟨_, .base hy, ?_⟩
      have k1 := kit_ty (K := K) (kit_all T1 hT "list" (by decide))
      have k2 := kit_ty (K := K) (kit_all T1 hT "tuple" (by decide))
      obtain ⟨r1, r2⟩ := row_kit T1 hT
      rw [r1] at k1
      rw [r2] at k2
      unfold PySem.W.kitAny
      rw [k1]
      cases T1 == "list" with
      | true => rfl
      | false =>
        show PySem.W.kitAny K _ [_] = _
        unfold PySem.W.kitAny
        rw [k2]
        cases T1 == "tuple" <;> rfl
    · refine ⟨_, ty_own T hC ha, ?_⟩
      have k1 := ((own_facts T hC).2.ty "list" (by decide)).2.1
      have k2 := ((own_facts T hC).2.ty "tuple" (by decide)).2.1
      unfold PySem.W.kitAny
      rw [k1]
      show PySem.W.kitAny K _ [_] = _
      unfold PySem.W.kitAny
      rw [k2]
      rfl
  obtain ⟨t0, ty, ka⟩ := any
  exact ⟨v, t, _, t0, _, b, rfl, h1, .cons (.ty "list") (.cons (.ty "tuple") .nil), ty, ka, k H1 e1⟩
theorem getD_map {α : Type} (xs : List V) (f : V → α) : ((List.range xs.length).map fun j => f (xs.getD j .non)) = xs.map f := by
  refine List.ext_getElem (by simp) fun i h1 h2 => ?_
  simp at h1
  simp [h1]
def spInts (K : PySem.W.Frag) : Sp := sp1 fun v H Q _ => (∃ xs, Sq H v xs ∧ xs.length ≤ 50000 ∧ (∀ x ∈ xs, Kn K H x) ∧ ∀ H', Ex H H' → Q (.bl (xs.all isI)) H') ∨ (RowB K H v false ∧ ∀ H', Ex H H' → Q (.bl false) H')
theorem ok_are_integers {P : Program} {w : World} {K : PySem.W.Frag} {mg : Str → Option Value} {base : Heap} (T : Txt K mg) : ∃ fd, FnOk P w K mg base (L2.CX P w) 2 (He.ga K "are_integers") fd ["value"] (spInts K) ∧ Binds K fd ["value"] [] := by
  obtain ⟨fd, F⟩ := T.d_are_integers
  obtain ⟨fd_is_integer, F_is_integer, B_is_integer⟩ := ok_is_integer (P := P) (w := w) (base := base) T
  obtain ⟨fd_is_row, F_is_row, B_is_row⟩ := ok_is_row (P := P) (w := w) (base := base) T
  refine ⟨fd, F.ok sc_are_integers sp1_len (fun cdv A outer s H vs Q E hr h => ?_), F.bindsN fun _ _ _ _ _ _ us hl => match us, hl with | [_], _ => rfl⟩
  have hr_is_integer : Room 1 _ := hr.mono (by decide)
  have hr_is_row : Room 1 _ := hr.mono (by decide)
  obtain ⟨v, rfl, hh⟩ := sp1_is h
  refine ⟨_, (pss_one (ps_ret (pe_and (pe_call F_is_row hr_is_row (by rfl) T.g_is_row T.k_is_row B_is_row .nil passL (pa_cons (pv 0) pa_nil)) (pe_one (pe_callB (cr_all rfl) (by rfl) T.b_all (by decide +kernel) (pa_cons (pe_lc (own := [("each", 1)]) (g := gName 1) (tt := tYes)  rfl sc_are_integers.nd (pi_seq (pv 0)) (blkOk_by (own := [("each", 1)]) (N := ["value", "each"]) (sc := defScope s_are_integers) (by decide +kernel)) (fun _ _ _ _ _ => (pg_name (i := 1) sc_are_integers.nd rfl (Or.inl rfl))) (fun _ _ _ _ _ => pts_nil) (fun _ _ _ _ _ => (pe_call F_is_integer hr_is_integer (by rfl) T.g_is_integer T.k_is_integer B_is_integer .nil passL (pa_cons (pv 1) pa_nil)))) pa_nil)))))), ?_⟩
  walk_at "rd"
  rcases hh with ⟨xs, hs, hl, hk, k⟩ | ⟨hr, k⟩
  · refine ⟨true, hs.row, fun H1 e1 => ?_⟩
    walk_at "rd"
    refine ite_t rfl ?_
    walk_at "rd"
    have go : ∀ {J : It} {a : Addr} {G : Hp → Prop}, v = .ref a → Walk J xs.length G (YAt xs) → (∀ H', Ex H1 H' → G H') → lcB J (gName 1) tYes (tCall (spIsInt K) [] E0 (tCons (tVar 1) tNil)) [1] [some v, none] (fun x H2 => rAll K [x] H2 Q) H1 := by
      intro J a G ev w hG
      refine r_lcM w (fun j => .bl (isI (xs.getD j .non))) hl hG (fun _ => rfl) ?_ ?_
      · rintro j y H0 H' hj e0 ⟨rfl, hy⟩
        refine ⟨Ex.refl _, fun H3 e3 R r => ?_⟩
        have : y = xs.getD j .non := by
          rw [List.getD_eq_getElem?_getD, hy]
          rfl
        subst this
        walk_at "rd"
        exact ⟨((hk _ (List.mem_of_getElem? hy)).ex (e1.trans (e0.trans e3))), r H3 (Ex.refl _)⟩
      · intro p H' hp e h'
        rw [getD_map xs fun x => V.bl (isI x)] at h'
        refine ⟨p, xs.map isI, rfl, SqL.of (by rw [List.map_map]; exact h'), ?_⟩
        have e : (xs.map isI).all id = xs.all isI := by rw [List.all_map]; rfl
        rw [e]
        exact k H' (e1.trans ‹Ex H1 H'›)
    obtain ⟨a, rfl, ha | ha⟩ := hs.ex e1
    · refine ⟨_, rfl, ?_⟩
      exact ⟨a, rfl, .inl ⟨⟨_, SqL.of ha⟩, go rfl walk_list fun H' e => SqL.of (e _ _ ha)⟩⟩
    · refine ⟨_, rfl, ?_⟩
      exact ⟨a, rfl, .inr ⟨⟨_, SqT.of ha⟩, go rfl walk_tup fun H' e => SqT.of (e _ _ ha)⟩⟩
  · refine ⟨false, hr, fun H1 e1 => ?_⟩
    walk_at "rd"
    exact ite_f rfl (k H1 e1)
theorem int_at {ns : List Int} {i : Nat} {x : V} (hx : (ns.map V.int)[i]? = some x) : ∃ n, ns[i]? = some n ∧ x = .int n := by
  rw [List.getElem?_map] at hx
  cases q : ns[i]? with
  | none => rw [q] at hx; cases hx
  | some n => rw [q] at hx; exact ⟨n, rfl, (Option.some.inj hx).symm⟩
/-! ### sums of products -/
theorem sum_pr : ∀ l r : List Int, (List.zipWith (· * ·) l r).sum = GV.pr l r
  | [], r => by cases r <;> rfl
  | _ :: _, [] => rfl
  | x :: l, y :: r => by
    show x * y + (List.zipWith (· * ·) l r).sum = x * y + GV.pr l r
    rw [sum_pr l r]
def spDot (K : PySem.W.Frag) : Sp := sp2 fun v w H Q _ => ∃ (t1 t2 : Bool) (a b : Addr) (ns ms : List Int), v = .ref a ∧ w = .ref b ∧ SqX K H t1 a (ns.map V.int) ∧ SqX K H t2 b (ms.map V.int) ∧ ns.length ≤ 1000 ∧ (∀ c ∈ ns, Z 20000 c) ∧ (∀ c ∈ ms, Z 20000 c) ∧ ∀ H', Ex H H' → Q (.int (GV.pr ns ms)) H'
theorem ok_product_sum {P : Program} {w : World} {K : PySem.W.Frag} {mg : Str → Option Value} {base : Heap} (T : Txt K mg) : ∃ fd, FnOk P w K mg base (L2.CX P w) 1 (He.ga K "product_sum") fd ["one", "other"] (spDot K) ∧ Binds K fd ["one", "other"] [] := by
  obtain ⟨fd, F⟩ := T.d_product_sum
  refine ⟨fd, F.ok sc_product_sum sp2_len (fun cdv A outer s H vs Q E hr h => ?_), F.bindsN fun _ _ _ _ _ _ us hl => match us, hl with | [_, _], _ => rfl⟩
  obtain ⟨v, w', rfl, t1, t2, a, b, ns, ms, rfl, rfl, ha, hb, hl, z1, z2, k⟩ := sp2_is h
  refine ⟨_, (pss_one (ps_ret (pe_callB (kx_sum (K := K) rfl rfl) (by rfl) T.b_sum (by decide +kernel) (pa_cons (pe_lc (own := [("mine", 2), ("its", 3)]) (g := gTup K 2 (gCons (gName 2) (gCons (gName 3) (gNil)))) (tt := tYes)  rfl sc_product_sum.nd (pi_zipX (by rfl) T.b_zip (pa_cons (pv 0) (pa_cons (pv 1) pa_nil))) (blkOk_by (own := [("mine", 2), ("its", 3)]) (N := ["one", "other", "mine", "its"]) (sc := defScope s_product_sum) (by decide +kernel)) (fun _ _ _ _ _ => (pg_tup rfl (pgs_cons (pg_name (i := 2) sc_product_sum.nd rfl (Or.inl rfl)) (pgs_cons (pg_name (i := 3) sc_product_sum.nd rfl (Or.inl rfl)) pgs_nil)))) (fun _ _ _ _ _ => pts_nil) (fun _ _ _ _ _ => (pe_op op_mulW (pv 2) (pv 3)))) pa_nil)))), ?_⟩
  walk_at "rd"
  refine ⟨t1, t2, a, b, ns.map V.int, ms.map V.int, rfl, ha, hb, ?_⟩
  refine r_lcZ (n := min ns.length ms.length) (walk_zipX (xs := ns.map V.int) (ys := ms.map V.int) (by simp)) (List.zipWith (· * ·) ns ms) (by simp) (by omega) (fun H' e => ⟨sqX_ex e ha, sqX_ex e hb⟩) ?_ ?_
  · rintro i x H1 H2 hi e1 ⟨T0, x1, x2, rfl, hT, rfl, g1, g2⟩ N hN
    obtain ⟨n1, hn1, rfl⟩ := int_at g1
    obtain ⟨n2, hn2, rfl⟩ := int_at g2
    refine r_gTup upd_same rfl (r_gCons (r_gName (r_gCons (r_gName (r_gNil ⟨rfl, ?_⟩)))))
    walk_at "rd"
    refine r_I (mulOk (z1 n1 (List.mem_of_getElem? hn1)) (z2 n2 (List.mem_of_getElem? hn2)) (by decide) (by decide) (by decide)) ?_
    have e : (List.zipWith (· * ·) ns ms).getD i 0 = n1 * n2 := by
      rw [List.getD_eq_getElem?_getD, List.getElem?_zipWith, hn1, hn2]
      rfl
    rw [← e]
    exact hN _ (Ex.new hT)
  · intro D H1 hD e1 hl1
    refine ⟨D, _, rfl, SqL.of hl1, ?_⟩
    rw [sum_pr]
    exact k H1 e1
/-! ### columns -/
/-- rows that stand in lists or tuples -/
def RA (H : Hp) (ts : List Addr) (rs : List (List Int)) : Prop := ts.length = rs.length ∧ ∀ (j : Nat) (t : Addr) (r : List Int), ts[j]? = some t → rs[j]? = some r → H t = some (.lst (r.map V.int)) ∨ H t = some (.tup (r.map V.int))
def LA (H : Hp) (ts : List Addr) (rs : List (List Int)) : Prop := ts.length = rs.length ∧ ∀ (j : Nat) (t : Addr) (r : List Int), ts[j]? = some t → rs[j]? = some r → H t = some (.lst (r.map V.int))
theorem RA.ex {H H' : Hp} {ts : List Addr} {rs : List (List Int)} (h : RA H ts rs) (e : Ex H H') : RA H' ts rs := ⟨h.1, fun j t r h1 h2 => (h.2 j t r h1 h2).elim (fun z => .inl (e _ _ z)) fun z => .inr (e _ _ z)⟩
theorem LA.ex {H H' : Hp} {ts : List Addr} {rs : List (List Int)} (h : LA H ts rs) (e : Ex H H') : LA H' ts rs := ⟨h.1, fun j t r h1 h2 => e _ _ (h.2 j t r h1 h2)⟩
theorem LA.ra {H : Hp} {ts : List Addr} {rs : List (List Int)} (h : LA H ts rs) : RA H ts rs := ⟨h.1, fun j t r h1 h2 => .inl (h.2 j t r h1 h2)⟩
theorem ref_at {ts : List Addr} {i : Nat} {x : V} (hx : (ts.map V.ref)[i]? = some x) : ∃ t, ts[i]? = some t ∧ x = .ref t := by
  rw [List.getElem?_map] at hx
  cases q : ts[i]? with
  | none => rw [q] at hx; cases hx
  | some n => rw [q] at hx; exact ⟨n, rfl, (Option.some.inj hx).symm⟩
theorem RA.row {H : Hp} {ts : List Addr} {rs : List (List Int)} (h : RA H ts rs) {j : Nat} {t : Addr} (ht : ts[j]? = some t) : ∃ r, rs[j]? = some r ∧ (H t = some (.lst (r.map V.int)) ∨ H t = some (.tup (r.map V.int))) := by
  have hj : j < rs.length := by rw [← h.1]; exact (List.getElem?_eq_some_iff.mp ht).1
  exact ⟨rs[j], by simp [hj], h.2 j t _ ht (by simp [hj])⟩
theorem it_B {K : PySem.W.Frag} {H : Hp} {b : Bool} {a : Addr} {xs : List V} {g : TG} {tt : TT} {te : TE} {vs : List Nat} {σ : L2.St} {Q : VK} (h : SqX K H b a xs) (q : ∀ J, Walk J xs.length (fun H' => SqX K H' b a xs) (YAt xs) → lcB J g tt te vs σ Q H) : ∃ c, V.ref a = .ref c ∧ (((∃ xs, SqL K H c xs) ∧ lcB (Itl K c) g tt te vs σ Q H) ∨ ((∃ xs, SqT K H c xs) ∧ lcB (Itt K c) g tt te vs σ Q H)) := by
  cases b with
  | false => exact ⟨a, rfl, .inl ⟨⟨_, h⟩, q _ walk_list⟩⟩
  | true => exact ⟨a, rfl, .inr ⟨⟨_, h⟩, q _ walk_tup⟩⟩
/-- an item of a row that is a list or a tuple -/
theorem ix_row {K : PySem.W.Frag} {H : Hp} {Q : VK} {t : Addr} {r : List Int} {j : Nat} {c : Int} (h : H t = some (.lst (r.map V.int)) ∨ H t = some (.tup (r.map V.int))) (hc : r[j]? = some c) (q : Q (.int c) H) : rIx K (.ref t) (.int (j : Int)) H Q := by
  rcases h with h | h
  · exact .inl (r_ixL h (v := .int c) (atI_nat (by rw [List.getElem?_map, hc]; rfl)) q)
  · exact .inr (.inl (r_ixT h (v := .int c) (atI_nat (by rw [List.getElem?_map, hc]; rfl)) q))
def spCols (K : PySem.W.Frag) : Sp := sp2 fun v n H Q _ => ∃ (b : Bool) (a : Addr) (ts : List Addr) (rs : List (List Int)) (d : Nat), v = .ref a ∧ SqX K H b a (ts.map V.ref) ∧ RA H ts rs ∧ n = .int d ∧ d ≤ 50 ∧ rs.length ≤ 1000 ∧ (∀ r ∈ rs, d ≤ r.length) ∧
  ∀ p cs H', Ex H H' → H p = none → H' p = some (.lst (cs.map V.ref)) → LA H' cs (GV.cols rs d) → Q (.ref p) H'
theorem ok_columns_of {P : Program} {w : World} {K : PySem.W.Frag} {mg : Str → Option Value} {base : Heap} (T : Txt K mg) : ∃ fd, FnOk P w K mg base (L2.CX P w) 1 (He.ga K "columns_of") fd ["rows", "length"] (spCols K) ∧ Binds K fd ["rows", "length"] [] := by
  obtain ⟨fd, F⟩ := T.d_columns_of
  refine ⟨fd, F.ok sc_columns_of sp2_len (fun cdv A outer s H vs Q E hr h => ?_), F.bindsN fun _ _ _ _ _ _ us hl => match us, hl with | [_, _], _ => rfl⟩
  obtain ⟨v, n, rfl, b, a, ts, rs, d, rfl, ha, hr, rfl, hd, hl, hw, k⟩ := sp2_is h
  refine ⟨_, (pss_one (ps_ret (pe_lc (own := [("at", 3)]) (g := gName 3) (tt := tYes)  rfl sc_columns_of.nd (pi_range1 (by rfl) T.b_range (pa_cons (pv 1) pa_nil)) (blkOk_by (own := [("at", 3)]) (N := ["rows", "length", "row", "at"]) (sc := defScope s_columns_of) (by decide +kernel)) (fun _ _ _ _ _ => (pg_name (i := 3) sc_columns_of.nd rfl (Or.inr rfl))) (fun _ _ _ _ _ => pts_nil) (fun _ _ _ _ _ => (pe_lc (own := [("row", 2)]) (g := gName 2) (tt := tYes)  rfl sc_columns_of.nd (kx_piseq (K := K) rfl (pv 0)) (blkOk_by (own := [("row", 2)]) (N := ["rows", "length", "row", "at"]) (by rfl)) (fun _ _ _ _ _ => (pg_name (i := 2) sc_columns_of.nd rfl (Or.inl rfl))) (fun _ _ _ _ _ => pts_nil) (fun _ _ _ _ _ => (pe_ix (kx_ixs (K := K) rfl) (pv 2) (pv 3) (fun _ _ => rfl)))))))), ?_⟩
  walk_at "rd"
  refine ⟨d, rfl, by omega, by omega, ?_⟩
  refine r_lcLs (n := d) (k := 3) walk_range (fun j => (GV.col rs j).map V.int) (by omega) (fun _ _ => trivial) (fun _ => rfl) ?_ ?_
  · rintro j y H1 H2 hj e1 ⟨rfl, rfl⟩
    refine ⟨Ex.refl _, fun R kR => ?_⟩
    walk_at "rd"
    refine ⟨_, rfl, it_B (sqX_ex e1 ha) fun J W => ?_⟩
    refine r_lcZ W (GV.col rs j) (by simp [GV.col, hr.1]) (by rw [List.length_map, hr.1]; omega) (fun H' e => sqX_ex (e1.trans e) ha) ?_ ?_
    · rintro i z H3 H4 hi e3 ⟨rfl, hz⟩ N hN
      obtain ⟨t, ht, rfl⟩ := ref_at hz
      obtain ⟨r, hr', hrow⟩ := (hr.ex (e1.trans e3)).row ht
      refine r_gName ⟨rfl, ?_⟩
      walk_at "rd"
      have hj' : j < r.length := Nat.lt_of_lt_of_le hj (hw r (List.mem_of_getElem? hr'))
      refine ix_row hrow (c := r[j]) (by simp [hj']) ?_
      have e : (GV.col rs j).getD i 0 = r[j] := by
        rw [List.getD_eq_getElem?_getD, GV.col, List.getElem?_map, hr']
        simp [hj']
      rw [← e]
      exact hN _ (Ex.refl _)
    · intro D H3 hD e3 h3
      exact kR D H3 e3 hD h3
  · intro p cs H2 hp e2 h2 hlen hnd hnew hrow
    refine k p cs H2 e2 hp h2 ⟨by rw [hlen]; simp [GV.cols], fun j t r ht hr' => ?_⟩
    have hj : j < d := by rw [← hlen]; exact (List.getElem?_eq_some_iff.mp ht).1
    rw [hrow j t ht]
    simp [GV.cols, hj] at hr'
    rw [hr']
/-! ### what adds up -/
theorem ix_ref {K : PySem.W.Frag} {H : Hp} {Q : VK} {b : Bool} {a t : Addr} {ts : List Addr} {j : Nat} (h : SqX K H b a (ts.map V.ref)) (ht : ts[j]? = some t) (q : Q (.ref t) H) : rIx K (.ref a) (.int (j : Int)) H Q := by
  have e : atI (ts.map V.ref) (j : Int) = some (.ref t) := atI_nat (by rw [List.getElem?_map, ht]; rfl)
  cases b with
  | false => exact .inl ⟨_, _, _, _, rfl, rfl, h, e, q⟩
  | true => exact .inr (.inl ⟨_, _, _, _, rfl, rfl, h, e, q⟩)
theorem len_row {K : PySem.W.Frag} {H : Hp} {Q : VK} {t : Addr} {r : List Int} (h : H t = some (.lst (r.map V.int)) ∨ H t = some (.tup (r.map V.int))) (q : Q (.int r.length) H) : lenK K Q [.ref t] H := by
  have e : ((r.map V.int).length : Int) = r.length := by rw [List.length_map]
  rcases h with h | h
  · exact ⟨t, _, rfl, .inl (SqL.of h), by rw [e]; exact q⟩
  · exact ⟨t, _, rfl, .inr (SqT.of h), by rw [e]; exact q⟩
theorem col_z {rs : List (List Int)} {n : Nat} (hz : ∀ r ∈ rs, ∀ c ∈ r, Z n c) (j : Nat) : ∀ c ∈ GV.col rs j, Z n c := by
  intro c hc
  obtain ⟨r, hr, rfl⟩ := List.mem_map.mp hc
  rw [List.getD_eq_getElem?_getD]
  cases q : r[j]? with
  | none => exact Nat.pow_pos (by decide)
  | some c => exact hz r hr c (List.mem_of_getElem? q)
theorem ix_col {K : PySem.W.Frag} {H : Hp} {Q : VK} {p : Addr} {cs : List Addr} {rs : List (List Int)} {d j : Nat} (hp : H p = some (.lst (cs.map V.ref))) (hc : LA H cs (GV.cols rs d)) (hj : j < d) (q : ∀ c, cs[j]? = some c → H c = some (.lst ((GV.col rs j).map V.int)) → Q (.ref c) H) : rIxL K (.ref p) (.int (j : Int)) H Q := by
  have hl : j < cs.length := by rw [hc.1]; simp [GV.cols]; exact hj
  have e : cs[j]? = some cs[j] := by simp [hl]
  exact r_ixL hp (v := .ref cs[j]) (atI_nat (by rw [List.getElem?_map, e]; rfl)) (q _ e (hc.2 j _ _ e (by simp [GV.cols, hj])))
theorem bools_any {K : PySem.W.Frag} {H : Hp} {p : Addr} {n : Nat} {f : Nat → Bool} {Q : VK} (h : H p = some (.lst ((List.range n).map fun i => V.bl (f i)))) (q : Q (.bl ((List.range n).any f)) H) : rAny K [.ref p] H Q := by
  refine ⟨p, (List.range n).map f, rfl, SqL.of (by rw [List.map_map]; exact h), ?_⟩
  have e : ((List.range n).map f).any id = (List.range n).any f := by rw [List.any_map]; rfl
  rw [e]
  exact q
def spUp (K : PySem.W.Frag) : Sp := sp1 fun v H Q _ => ∃ (b : Bool) (a : Addr) (ts : List Addr) (rs : List (List Int)), v = .ref a ∧ SqX K H b a (ts.map V.ref) ∧ RA H ts rs ∧ GV.shR rs ∧ (∀ r ∈ rs, ∀ c ∈ r, Z 20000 c) ∧ ∀ H', Ex H H' → Q (.bl (GV.upB rs)) H'
theorem ok_add_up {P : Program} {w : World} {K : PySem.W.Frag} {mg : Str → Option Value} {base : Heap} (T : Txt K mg) : ∃ fd, FnOk P w K mg base (L2.CX P w) 2 (He.ga K "add_up") fd ["rows"] (spUp K) ∧ Binds K fd ["rows"] [] := by
  obtain ⟨fd, F⟩ := T.d_add_up
  obtain ⟨fd_product_sum, F_product_sum, B_product_sum⟩ := ok_product_sum (P := P) (w := w) (base := base) T
  obtain ⟨fd_columns_of, F_columns_of, B_columns_of⟩ := ok_columns_of (P := P) (w := w) (base := base) T
  refine ⟨fd, F.ok sc_add_up sp1_len (fun cdv A outer s H vs Q E hr h => ?_), F.bindsN fun _ _ _ _ _ _ us hl => match us, hl with | [_], _ => rfl⟩
  have hr_product_sum : Room 1 _ := hr.mono (by decide)
  have hr_columns_of : Room 1 _ := hr.mono (by decide)
  obtain ⟨v, rfl, b, a, ts, rs, rfl, ha, hr, hs, hz, k⟩ := sp1_is h
  refine ⟨_, (pss_cons (ps_set (i := 1) sc_add_up.nd rfl (Or.inr rfl) (pe_call F_columns_of hr_columns_of (by rfl) T.g_columns_of T.k_columns_of B_columns_of .nil passL (pa_cons (pv 0) (pa_cons (pe_callB (kx_lens rfl) (by rfl) T.b_len PySem.boot_len (pa_cons (pe_ix ix_seq (pv 0) pe_int (fun _ _ => rfl)) pa_nil)) pa_nil))))
      (pss_cons (ps_set (i := 2) sc_add_up.nd rfl (Or.inr rfl) (pe_call F_product_sum hr_product_sum (by rfl) T.g_product_sum T.k_product_sum B_product_sum .nil passL (pa_cons (pe_ix (kx_ixl rfl) (pv 1) pe_int (fun _ _ => rfl)) (pa_cons (pe_ix (kx_ixl rfl) (pv 1) pe_int (fun _ _ => rfl)) pa_nil))))
      (pss_cons (ps_if (PW.pt (pw_or (pt_cmpR op_eq (pv 2) pe_int (nomark _)) (pw_or1 (pt_val (pe_callB (cr_any rfl) (by rfl) T.b_any (by decide +kernel) (pa_cons (pe_lc (own := [("column", 3)]) (g := gName 3) (tt := tYes)  rfl sc_add_up.nd (pi_list (pv 1)) (blkOk_by (own := [("column", 3)]) (N := ["rows", "columns", "total", "column", "i", "j"]) (sc := defScope s_add_up) (by decide +kernel)) (fun _ _ _ _ _ => (pg_name (i := 3) sc_add_up.nd rfl (Or.inl rfl))) (fun _ _ _ _ _ => pts_nil) (fun _ _ _ _ _ => (pe_cmpR op_ne (pe_call F_product_sum hr_product_sum (by rfl) T.g_product_sum T.k_product_sum B_product_sum .nil passL (pa_cons (pv 3) (pa_cons (pv 3) pa_nil))) (pv 2) (nomark _)))) pa_nil)))))) (pss_one (ps_ret pe_bl)) pss_nil)
      (pss_one (ps_ret (pe_not (pe_callB (cr_anyI rfl rfl) (by rfl) T.b_any (by decide +kernel) (pa_cons (pe_lc2 (own := [("i", 4), ("j", 5)]) (vs1 := [5]) (g := gName 4) (tt := tYes) (g1 := gName 5) (tt1 := tYes) rfl sc_add_up.nd (pi_range1 (by rfl) T.b_range (pa_cons (pe_callB (kx_lens rfl) (by rfl) T.b_len PySem.boot_len (pa_cons (pv 1) pa_nil)) pa_nil)) (blkOk_by (own := [("i", 4), ("j", 5)]) (N := ["rows", "columns", "total", "column", "i", "j"]) (sc := defScope s_add_up) (by decide +kernel)) (by decide) (fun _ _ _ _ _ => (pg_name (i := 4) sc_add_up.nd rfl (Or.inl rfl))) (fun _ _ _ _ _ => pts_nil) (fun _ _ _ _ _ => (pi_range1 (by rfl) T.b_range (pa_cons (pv 4) pa_nil))) (fun _ _ _ _ _ => (pg_name (i := 5) sc_add_up.nd rfl (Or.inl rfl))) (fun _ _ _ _ _ => pts_nil) (fun _ _ _ _ _ => (pe_call F_product_sum hr_product_sum (by rfl) T.g_product_sum T.k_product_sum B_product_sum .nil passL (pa_cons (pe_ix (kx_ixl rfl) (pv 1) (pv 4) (fun _ _ => rfl)) (pa_cons (pe_ix (kx_ixl rfl) (pv 1) (pv 5) (fun _ _ => rfl)) pa_nil))))) pa_nil)))))))), ?_⟩
  walk_at "rd"
  have l0 : 0 < ts.length := by rw [hr.1]; exact hs.1
  have e0 : ts[0]? = some ts[0] := by simp [l0]
  obtain ⟨r0, hr0, hrow0⟩ := hr.row e0
  have hw0 : r0.length = GV.wid rs := hs.2.2.2.2 r0 (List.mem_of_getElem? hr0)
  have hd3 := hs.2.2.2.1
  have hd1 := hs.2.2.1
  generalize hd : GV.wid rs = d at *
  refine ix_ref (j := 0) ha e0 ?_
  walk_at "rd"
  refine len_row hrow0 ?_
  rw [hw0]
  walk_at "rd"
  refine ⟨b, a, ts, rs, d, rfl, ha, hr, rfl, by omega, by have := hs.2.1; omega, fun r h => by rw [hs.2.2.2.2 r h]; omega, fun p cs H1 e1 hp h1 hc => ?_⟩
  walk_at "rd"
  have cz := col_z hz
  have cl : ∀ j, (GV.col rs j).length ≤ 1000 := fun j => by simp [GV.col]; have := hs.2.1; omega
  have dot : ∀ {H' : Hp} {i j : Nat} {c1 c2 : Addr} {Q' : VK}, H' c1 = some (.lst ((GV.col rs i).map V.int)) → H' c2 = some (.lst ((GV.col rs j).map V.int)) → (∀ H'', Ex H' H'' → Q' (.int (GV.tb rs i j)) H'') → spDot K [.ref c1, .ref c2] H' Q' E0 :=
    fun {H' i j c1 c2 Q'} h1 h2 q => ⟨false, false, c1, c2, _, _, rfl, rfl, SqL.of h1, SqL.of h2, cl i, cz i, cz j, q⟩
  refine ix_col (j := 0) h1 hc (by omega) fun c hcj hcc => ?_
  walk_at "rd"
  refine ix_col (j := 0) h1 hc (by omega) fun c' _ hcc' => ?_
  walk_at "rd"
  refine dot hcc hcc' fun H2 e2 => ?_
  walk_at "rd"
  have e12 := e1.trans e2
  have h12 := e2 _ _ h1
  have hc2 := hc.ex e2
  generalize hA : decide (GV.tb rs 0 0 = 0) = bA
  have kk : ∀ {bB bC : Bool}, ((List.range d).any fun i => decide (GV.tb rs i i ≠ GV.tb rs 0 0)) = bB → ((List.range d).any fun i => (List.range i).any fun j => decide (GV.tb rs i j ≠ 0)) = bC → GV.upB rs = (!(bA || bB) && !bC) := fun {bB bC} h1 h2 => by
    unfold GV.upB
    rw [hd, hA, h1, h2]
  cases bA with
  | true =>
    refine ite_t rfl (ite_t rfl ?_)
    walk_at "rd"
    have := k H2 e12
    rw [kk rfl rfl] at this
    exact this
  | false =>
    refine ite_f (by decide) ?_
    walk_at "rd"
    refine ⟨p, rfl, ⟨_, SqL.of h12⟩, ?_⟩
    refine r_lcM (n := cs.length) (by simpa using walk_list (xs := cs.map V.ref)) (fun i => .bl (decide (GV.tb rs i i ≠ GV.tb rs 0 0))) (by rw [hc.1]; simp [GV.cols]; omega) (fun H' e => SqL.of (e _ _ h12)) (fun _ => rfl) ?_ ?_
    · rintro i y H3 H4 hi e3 ⟨rfl, hy⟩
      obtain ⟨c2, hc2', rfl⟩ := ref_at hy
      refine ⟨Ex.refl _, fun H5 e5 R kR => ?_⟩
      have at2 := hc2.2 i c2 (GV.col rs i) hc2' (by have hi' := hi; rw [hc.1] at hi'; simp [GV.cols] at hi'; simp [GV.cols, hi'])
      walk_at "rd"
      refine dot (e5 _ _ (e3 _ _ at2)) (e5 _ _ (e3 _ _ at2)) fun H6 e6 => ?_
      walk_at "rd"
      have z : (!decide (GV.tb rs i i = GV.tb rs 0 0)) = decide (GV.tb rs i i ≠ GV.tb rs 0 0) := by simp
      rw [z]
      exact kR H6 e6
    · intro q H3 hq e3 hl
      walk_at "rd"
      have lc : cs.length = d := by rw [hc.1]; simp [GV.cols]
      rw [lc] at hl
      refine bools_any hl ?_
      have h13 := e3 _ _ h12
      have hc3 := hc2.ex e3
      have e13 := e12.trans e3
      generalize hB : ((List.range d).any fun i => decide (GV.tb rs i i ≠ GV.tb rs 0 0)) = bB
      cases bB with
      | true =>
        refine ⟨_, rfl, ite_t rfl ?_⟩
        walk_at "rd"
        have := k H3 e13
        rw [kk hB rfl] at this
        exact this
      | false =>
        refine ⟨_, rfl, ite_f (by decide) ?_⟩
        walk_at "rd"
        refine r_lc2 ?_
        walk_at "rd"
        refine r_lenL h13 ?_
        walk_at "rd"
        refine ⟨(d : Int), by rw [List.length_map, lc], by omega, by omega, ?_⟩
        refine r_lc2P (n := d) (k := 4) (k1 := 5) walk_range (fun i => (List.range i).map fun j => V.int (GV.tb rs i j)) (by omega) (fun i hi => by simp; omega) (fun _ _ => trivial) (fun _ => rfl) (fun _ _ => rfl) ?_ ?_
        · rintro i y H4 H5 hi e4 ⟨rfl, rfl⟩
          refine ⟨Ex.refl _, fun R kR => ?_⟩
          walk_at "rd"
          refine ⟨((0 : Int) + (i : Nat)), rfl, by omega, by omega, kR _ ⟨fun _ => True, _, by rw [show ((0 : Int) + (i : Nat)).toNat = ((List.range i).map fun j => V.int (GV.tb rs i j)).length by simp]; exact walk_range, fun _ _ => trivial, ?_⟩⟩
          rintro j z H6 H7 hj e6 ⟨rfl, rfl⟩
          refine ⟨Ex.refl _, fun N hN => ?_⟩
          simp at hj
          have hc6 := hc3.ex e6
          walk_at "rd"
          rw [show (0 : Int) + ((i : Nat) : Int) = ((i : Nat) : Int) by omega, show (0 : Int) + ((j : Nat) : Int) = ((j : Nat) : Int) by omega]
          refine ix_col (e6 _ _ h13) hc6 hi fun ci _ hci => ?_
          walk_at "rd"
          refine ix_col (e6 _ _ h13) hc6 (by omega) fun cj _ hcj => ?_
          walk_at "rd"
          refine dot hci hcj fun H8 e8 => ?_
          have := hN H8 e8
          simpa [hj] using this
        · intro q2 H4 hq2 e4 hl2
          walk_at "rd"
          refine ⟨q2, ((List.range d).map fun i => (List.range i).map fun j => GV.tb rs i j).flatten, rfl, .inl (SqL.of ?_), ?_⟩
          · rw [hl2, GS.flatV, List.map_flatten, List.map_map]
            refine congrArg some (congrArg HO.lst (congrArg List.flatten (List.map_congr_left fun i _ => ?_)))
            show _ = List.map V.int (List.map _ _)
            rw [List.map_map]
            rfl
          · refine ⟨_, rfl, ?_⟩
            have := k H4 (e13.trans e4)
            rw [kk hB rfl] at this
            have e : (((List.range d).map fun i => (List.range i).map fun j => GV.tb rs i j).flatten.any fun x => x != 0) = (List.range d).any fun i => (List.range i).any fun j => decide (GV.tb rs i j ≠ 0) := by
              rw [List.any_flatten, List.any_map]
              congr 1
              funext i
              simp [List.any_map]
              rfl
            rw [e]
            simpa using this

end K31
namespace K31
open PySem PySem.Spec PyProof.Rows L2 GS TL
local macro_rules | `(tactic| walk_at "rd") => `(tactic| (repeat (first
  | with_reducible refine r_next ?_
  | with_reducible refine r_seq ?_
  | with_reducible refine r_ret ?_
  | with_reducible refine r_ifS ?_
  | with_reducible refine r_asg ?_
  | with_reducible refine r_drop ?_
  | with_reducible refine r_op ?_
  | with_reducible refine r_un ?_
  | with_reducible refine r_cbInt ?_
  | with_reducible refine r_cbAbs ?_
  | with_reducible refine r_cbLen ?_
  | with_reducible refine r_cbList ?_
  | with_reducible refine r_cbTup ?_
  | with_reducible refine r_iEnT ?_
  | with_reducible refine r_iEnL ?_
  | with_reducible refine r_zipA ?_
  | with_reducible refine r_zipX ?_
  | with_reducible refine r_augS ?_
  | with_reducible refine r_cb ?_
  | with_reducible refine r_call ?_
  | with_reducible refine r_make ?_
  | with_reducible refine r_callN0 ?_
  | with_reducible refine r_makeK0 ?_
  | with_reducible refine r_makeS ?_
  | with_reducible refine r_callS ?_
  | with_reducible refine r_cons ?_
  | with_reducible refine r_nil ?_
  | with_reducible refine r_test ?_
  | with_reducible refine r_B ?_
  | with_reducible refine r_and ?_
  | with_reducible refine r_or ?_
  | with_reducible refine r_not ?_
  | with_reducible refine r_andV ?_
  | with_reducible refine r_orV ?_
  | with_reducible refine r_notV ?_
  | with_reducible refine r_if ?_
  | with_reducible refine r_tup ?_
  | with_reducible refine r_lst ?_
  | with_reducible refine r_c ?_
  | with_reducible refine r_lc ?_
  | with_reducible refine r_chain ?_
  | with_reducible refine r_iT ?_
  | with_reducible refine r_iL ?_
  | with_reducible refine r_iR1 ?_
  | with_reducible refine r_iR2 ?_
  | with_reducible refine r_iR3 ?_
  | with_reducible refine r_asgG ?_
  | with_reducible refine r_gSub ?_
  | with_reducible refine r_for ?_
  | with_reducible refine r_smeth ?_
  | with_reducible refine r_par ?_
  | with_reducible refine r_parK ?_
  | with_reducible refine r_gCons ?_
  | with_reducible refine r_gNil ?_
  | with_reducible refine r_gName ?_
  | with_reducible refine r_intI ?_
  | with_reducible refine r_intB ?_
  | with_reducible refine r_absI ?_
  | with_reducible refine r_k ?_
  | with_reducible refine r_kV ?_
  | ((with_reducible show tVar _ _ _ _); refine r_var3 ?_ (by rfl))
  | with_reducible refine r_I0 ?_
  | with_reducible refine r_U ?_
  | with_reducible refine r_eqI ?_
  | with_reducible refine r_neI ?_
  | with_reducible refine r_F ?_
  | dsimp only)))
local macro_rules | `(tactic| walk_at "rx") => `(tactic| (repeat (first
  | with_reducible refine r_next ?_
  | with_reducible refine r_ret ?_
  | with_reducible refine r_ifS ?_
  | with_reducible refine r_asg ?_
  | with_reducible refine r_drop ?_
  | with_reducible refine r_op ?_
  | with_reducible refine r_un ?_
  | with_reducible refine r_cbInt ?_
  | with_reducible refine r_cbAbs ?_
  | with_reducible refine r_cbLen ?_
  | with_reducible refine r_cbList ?_
  | with_reducible refine r_cbTup ?_
  | with_reducible refine r_iEnT ?_
  | with_reducible refine r_iEnL ?_
  | with_reducible refine r_zipA ?_
  | with_reducible refine r_zipX ?_
  | with_reducible refine r_augS ?_
  | with_reducible refine r_cb ?_
  | with_reducible refine r_call ?_
  | with_reducible refine r_make ?_
  | with_reducible refine r_callN0 ?_
  | with_reducible refine r_makeK0 ?_
  | with_reducible refine r_makeS ?_
  | with_reducible refine r_callS ?_
  | with_reducible refine r_cons ?_
  | with_reducible refine r_nil ?_
  | with_reducible refine r_test ?_
  | with_reducible refine r_B ?_
  | with_reducible refine r_and ?_
  | with_reducible refine r_or ?_
  | with_reducible refine r_not ?_
  | with_reducible refine r_andV ?_
  | with_reducible refine r_orV ?_
  | with_reducible refine r_notV ?_
  | with_reducible refine r_if ?_
  | with_reducible refine r_tup ?_
  | with_reducible refine r_lst ?_
  | with_reducible refine r_c ?_
  | with_reducible refine r_lc ?_
  | with_reducible refine r_chain ?_
  | with_reducible refine r_iT ?_
  | with_reducible refine r_iL ?_
  | with_reducible refine r_iR1 ?_
  | with_reducible refine r_iR2 ?_
  | with_reducible refine r_iR3 ?_
  | with_reducible refine r_asgG ?_
  | with_reducible refine r_gSub ?_
  | with_reducible refine r_for ?_
  | with_reducible refine r_smeth ?_
  | with_reducible refine r_par ?_
  | with_reducible refine r_parK ?_
  | with_reducible refine r_gCons ?_
  | with_reducible refine r_gNil ?_
  | with_reducible refine r_gName ?_
  | with_reducible refine r_intI ?_
  | with_reducible refine r_intB ?_
  | with_reducible refine r_absI ?_
  | with_reducible refine r_k ?_
  | with_reducible refine r_kV ?_
  | ((with_reducible show tVar _ _ _ _); refine r_var3 ?_ (by rfl))
  | with_reducible refine r_I0 ?_
  | with_reducible refine r_U ?_
  | with_reducible refine r_eqI ?_
  | with_reducible refine r_neI ?_
  | with_reducible refine r_F ?_
  | dsimp only)))
/-! ### rows -/
/-- an item: integers in a list or a tuple, or what is none -/
def RIt (K : PySem.W.Frag) (H : Hp) (x : V) : Option (List Int) → Prop
  | some r => r.length ≤ 1000 ∧ ∃ t, x = .ref t ∧ (H t = some (.lst (r.map V.int)) ∨ H t = some (.tup (r.map V.int)))
  | none => RowB K H x false ∨ ∃ ys, Sq H x ys ∧ ys.length ≤ 50000 ∧ (∀ y ∈ ys, Kn K H y) ∧ ys.all isI = false
theorem RIt.ex {K : PySem.W.Frag} {H H' : Hp} {x : V} (e : Ex H H') : ∀ {o : Option (List Int)}, RIt K H x o → RIt K H' x o
  | some r, ⟨l, t, h, q⟩ => ⟨l, t, h, q.elim (fun z => .inl (e _ _ z)) fun z => .inr (e _ _ z)⟩
  | none, .inl h => .inl (h.ex e)
  | none, .inr ⟨ys, h, l, k, n⟩ => .inr ⟨ys, h.ex e, l, fun y m => (k y m).ex e, n⟩
def RIts (K : PySem.W.Frag) (H : Hp) (xs : List V) (os : List (Option (List Int))) : Prop := xs.length = os.length ∧ ∀ (j : Nat) (x : V) (o : Option (List Int)), xs[j]? = some x → os[j]? = some o → RIt K H x o
theorem RIts.ex {K : PySem.W.Frag} {H H' : Hp} {xs : List V} {os : List (Option (List Int))} (h : RIts K H xs os) (e : Ex H H') : RIts K H' xs os := ⟨h.1, fun j x o h1 h2 => (h.2 j x o h1 h2).ex e⟩
theorem RIts.item {K : PySem.W.Frag} {H : Hp} {xs : List V} {os : List (Option (List Int))} (h : RIts K H xs os) {j : Nat} {x : V} (hx : xs[j]? = some x) : ∃ o, os[j]? = some o ∧ RIt K H x o := by
  have hj : j < os.length := by rw [← h.1]; exact (List.getElem?_eq_some_iff.mp hx).1
  exact ⟨os[j], by simp [hj], h.2 j x _ hx (by simp [hj])⟩
theorem Sq.x {K : PySem.W.Frag} {H : Hp} {v : V} {xs : List V} (h : Sq H v xs) : ∃ b a, v = .ref a ∧ SqX K H b a xs := by
  obtain ⟨a, rfl, h | h⟩ := h
  · exact ⟨false, a, rfl, SqL.of h⟩
  · exact ⟨true, a, rfl, SqT.of h⟩
theorem RIt.ints {K : PySem.W.Frag} {H : Hp} {x : V} {Q : VK} {o : Option (List Int)} (h : RIt K H x o) (k : ∀ H', Ex H H' → Q (.bl o.isSome) H') : spInts K [x] H Q E0 := by
  cases o with
  | some r =>
    obtain ⟨l, t, rfl, h⟩ := h
    refine .inl ⟨r.map V.int, ⟨t, rfl, h⟩, by rw [List.length_map]; omega, fun y hy => ?_, ?_⟩
    · obtain ⟨c, _, rfl⟩ := List.mem_map.mp hy
      exact kn_int c
    · have e : (r.map V.int).all isI = true := by rw [List.all_map]; exact List.all_eq_true.mpr fun _ _ => rfl
      rw [e]
      exact k
  | none =>
    rcases h with h | ⟨ys, h, l, kn, n⟩
    · exact .inr ⟨h, k⟩
    · refine .inl ⟨ys, h, l, kn, ?_⟩
      rw [n]
      exact k
theorem len_sq {K : PySem.W.Frag} {H : Hp} {Q : VK} {v : V} {xs : List V} (h : Sq H v xs) (q : Q (.int xs.length) H) : lenK K Q [v] H := by
  obtain ⟨a, rfl, h | h⟩ := h
  · exact ⟨a, _, rfl, .inl (SqL.of h), q⟩
  · exact ⟨a, _, rfl, .inr (SqT.of h), q⟩
theorem ix_sq {K : PySem.W.Frag} {H : Hp} {Q : VK} {v x : V} {xs : List V} {j : Nat} (h : Sq H v xs) (hx : xs[j]? = some x) (q : Q x H) : rIx K v (.int (j : Int)) H Q := by
  obtain ⟨a, rfl, h | h⟩ := h
  · exact .inl (r_ixL h (atI_nat hx) q)
  · exact .inr (.inl (r_ixT h (atI_nat hx) q))
theorem bools_all {K : PySem.W.Frag} {H : Hp} {p : Addr} {n : Nat} {f : Nat → Bool} {Q : VK} (h : H p = some (.lst ((List.range n).map fun i => V.bl (f i)))) (q : Q (.bl ((List.range n).all f)) H) : rAll K [.ref p] H Q := by
  refine ⟨p, (List.range n).map f, rfl, SqL.of (by rw [List.map_map]; exact h), ?_⟩
  have e : ((List.range n).map f).all id = (List.range n).all f := by rw [List.all_map]; rfl
  rw [e]
  exact q
theorem all_range {α : Type} (os : List α) (d : α) (f : α → Bool) : ((List.range os.length).all fun i => f (os.getD i d)) = os.all f := by
  rw [Bool.eq_iff_iff, List.all_eq_true, List.all_eq_true]
  constructor
  · intro h x hx
    obtain ⟨i, hi⟩ := List.getElem?_of_mem hx
    have hl := (List.getElem?_eq_some_iff.mp hi).1
    have := h i (List.mem_range.mpr hl)
    rw [List.getD_eq_getElem?_getD, hi] at this
    exact this
  · intro h i hi
    have hl := List.mem_range.mp hi
    rw [List.getD_eq_getElem?_getD, List.getElem?_eq_getElem hl]
    exact h _ (List.getElem_mem hl)
def spRows (K : PySem.W.Frag) : Sp := sp1 fun v H Q _ => (∃ xs os, Sq H v xs ∧ RIts K H xs os ∧ xs.length ≤ 1000 ∧ ∀ H', Ex H H' → Q (.bl (GV.shB os)) H') ∨ (RowB K H v false ∧ ∀ H', Ex H H' → Q (.bl false) H')
theorem ok_are_rows {P : Program} {w : World} {K : PySem.W.Frag} {mg : Str → Option Value} {base : Heap} (T : Txt K mg) : ∃ fd, FnOk P w K mg base (L2.CX P w) 3 (He.ga K "are_rows") fd ["value"] (spRows K) ∧ Binds K fd ["value"] [] := by
  obtain ⟨fd, F⟩ := T.d_are_rows
  obtain ⟨fd_are_integers, F_are_integers, B_are_integers⟩ := ok_are_integers (P := P) (w := w) (base := base) T
  obtain ⟨fd_is_row, F_is_row, B_is_row⟩ := ok_is_row (P := P) (w := w) (base := base) T
  refine ⟨fd, F.ok sc_are_rows sp1_len (fun cdv A outer s H vs Q E hr h => ?_), F.bindsN fun _ _ _ _ _ _ us hl => match us, hl with | [_], _ => rfl⟩
  have hr_are_integers : Room 2 _ := hr.mono (by decide)
  have hr_is_row : Room 1 _ := hr.mono (by decide)
  obtain ⟨v, rfl, h⟩ := sp1_is h
  refine ⟨_, (pss_cons (ps_if (PW.pt (pw_or (pt_not (pt_val (pe_call F_is_row hr_is_row (by rfl) T.g_is_row T.k_is_row B_is_row .nil passL (pa_cons (pv 0) pa_nil)))) (pw_or (pt_not (pt_chain op_le op_le pe_int (pe_callB (kx_lens rfl) (by rfl) T.b_len PySem.boot_len (pa_cons (pv 0) pa_nil)) (pe_gint rfl T.c_MOST_VECTORS))) (pw_or1 (pt_not (pt_val (pe_callB (cr_all rfl) (by rfl) T.b_all (by decide +kernel) (pa_cons (pe_lc (own := [("row", 1)]) (g := gName 1) (tt := tYes)  rfl sc_are_rows.nd (pi_seq (pv 0)) (blkOk_by (own := [("row", 1)]) (N := ["value", "row"]) (sc := defScope s_are_rows) (by decide +kernel)) (fun _ _ _ _ _ => (pg_name (i := 1) sc_are_rows.nd rfl (Or.inl rfl))) (fun _ _ _ _ _ => pts_nil) (fun _ _ _ _ _ => (pe_call F_are_integers hr_are_integers (by rfl) T.g_are_integers T.k_are_integers B_are_integers .nil passL (pa_cons (pv 1) pa_nil)))) pa_nil)))))))) (pss_one (ps_ret pe_bl)) pss_nil)
      (pss_one (ps_ret (pe_and (pe_chain op_le op_le pe_int (pe_callB (kx_lens rfl) (by rfl) T.b_len PySem.boot_len (pa_cons (pe_ix ix_seq (pv 0) pe_int (fun _ _ => rfl)) pa_nil)) (pe_gint rfl T.c_LONGEST_ROW)) (pe_one (pe_callB (cr_all rfl) (by rfl) T.b_all (by decide +kernel) (pa_cons (pe_lc (own := [("row", 1)]) (g := gName 1) (tt := tYes)  rfl sc_are_rows.nd (pi_seq (pv 0)) (blkOk_by (own := [("row", 1)]) (N := ["value", "row"]) (sc := defScope s_are_rows) (by decide +kernel)) (fun _ _ _ _ _ => (pg_name (i := 1) sc_are_rows.nd rfl (Or.inl rfl))) (fun _ _ _ _ _ => pts_nil) (fun _ _ _ _ _ => (pe_cmpR op_eq (pe_callB (kx_lens rfl) (by rfl) T.b_len PySem.boot_len (pa_cons (pv 1) pa_nil)) (pe_callB (kx_lens rfl) (by rfl) T.b_len PySem.boot_len (pa_cons (pe_ix (kx_ixs (K := K) rfl) (pv 0) pe_int (fun _ _ => rfl)) pa_nil)) (nomark _)))) pa_nil))))))), ?_⟩
  walk_at "rd"
  rcases h with ⟨xs, os, hs, hr, hl, k⟩ | ⟨h, k⟩
  · refine ⟨true, hs.row, fun H1 e1 => ?_⟩
    walk_at "rd"
    refine ite_f rfl ?_
    walk_at "rd"
    have hs1 := hs.ex e1
    have hr1 := hr.ex e1
    have no : ∀ {H2 : Hp}, Ex H H2 → GV.shB os = false → Q (.bl false) H2 := fun e z => by
      have := k _ e
      rw [z] at this
      exact this
    refine len_sq hs1 ?_
    refine ⟨_, _, rfl, rfl, _, rfl, ?_⟩
    by_cases c1 : 1 ≤ xs.length
    · refine ite_t (decide_eq_true (by omega)) ?_
      walk_at "rd"
      by_cases c9 : xs.length ≤ 9
      · refine ite_f (by simp; omega) ?_
        walk_at "rd"
        obtain ⟨b, a, rfl, hx⟩ := hs1.x (K := K)
        refine ⟨_, rfl, it_B hx fun J W => ?_⟩
        refine r_lcM W (fun i => .bl (os.getD i none).isSome) (by omega) (fun H' e => sqX_ex e hx) (fun _ => rfl) ?_ ?_
        · rintro i y H2 H3 hi e2 ⟨rfl, hy⟩
          obtain ⟨o, ho, hit⟩ := (hr1.ex e2).item hy
          refine ⟨Ex.refl _, fun H4 e4 R kR => ?_⟩
          walk_at "rd"
          rw [List.getD_eq_getElem?_getD, ho] at kR
          exact (hit.ex e4).ints fun H5 e5 => kR H5 e5
        · intro p H2 hp e2 hl2
          walk_at "rd"
          refine bools_all hl2 ?_
          rw [hr.1, all_range os none fun o => o.isSome]
          have e12 := e1.trans e2
          cases hall : os.all (·.isSome) with
          | false =>
            refine ⟨_, rfl, ite_t rfl ?_⟩
            walk_at "rd"
            exact no e12 (by unfold GV.shB; rw [hall]; simp)
          | true =>
            refine ⟨_, rfl, ite_f rfl ?_⟩
            walk_at "rd"
            have hr2 := hr1.ex e2
            have hs2 := hs1.ex e2
            have row : ∀ {j : Nat} {x : V}, xs[j]? = some x → ∃ r t, os[j]? = some (some r) ∧ x = .ref t ∧ (H2 t = some (.lst (r.map V.int)) ∨ H2 t = some (.tup (r.map V.int))) := fun {j x} hx => by
              obtain ⟨o, ho, hit⟩ := hr2.item hx
              have := List.all_eq_true.mp hall o (List.mem_of_getElem? ho)
              cases o with
              | none => cases this
              | some r =>
                obtain ⟨_, t, h1, h2⟩ := hit
                exact ⟨r, t, ho, h1, h2⟩
            have hx0 : xs[0]? = some xs[0] := by simp
            obtain ⟨r0, t0, ho0, hxt, hrow0⟩ := row hx0
            refine ix_sq (j := 0) hs2 hx0 ?_
            rw [hxt]
            walk_at "rd"
            refine len_row hrow0 ?_
            have hd0 : os.headD none = some r0 := by
              cases os with
              | nil => simp at ho0
              | cons o os => simpa using ho0
            have sh : GV.shB os = (decide (1 ≤ r0.length) && decide (r0.length ≤ 3) && os.all fun o => decide ((o.getD []).length = r0.length)) := by
              unfold GV.shB
              rw [hall, hd0, ← hr.1, decide_eq_true c1, decide_eq_true c9]
              rfl
            refine ⟨_, _, rfl, rfl, _, rfl, ?_⟩
            by_cases d1 : 1 ≤ r0.length
            · refine ite_t (decide_eq_true (by omega)) ?_
              walk_at "rd"
              by_cases d3 : r0.length ≤ 3
              · refine ite_t (decide_eq_true (by omega)) ?_
                walk_at "rd"
                have hx2 := sqX_ex e2 hx
                refine ⟨_, rfl, it_B hx2 fun J2 W2 => ?_⟩
                refine r_lcM W2 (fun i => .bl (decide (((os.getD i none).getD []).length = r0.length))) (by omega) (fun H' e => sqX_ex e hx2) (fun _ => rfl) ?_ ?_
                · rintro i y H3 H4 hi e3 ⟨rfl, hy⟩
                  obtain ⟨r, t, ho, rfl, hrow⟩ := row hy
                  refine ⟨Ex.refl _, fun H5 e5 R kR => ?_⟩
                  have e35 := e3.trans e5
                  walk_at "rd"
                  refine len_row (hrow.elim (fun z => .inl (e35 _ _ z)) fun z => .inr (e35 _ _ z)) ?_
                  walk_at "rd"
                  refine ix_sq (j := 0) (hs2.ex e35) hx0 ?_
                  rw [hxt]
                  walk_at "rd"
                  refine len_row (hrow0.elim (fun z => .inl (e35 _ _ z)) fun z => .inr (e35 _ _ z)) ?_
                  walk_at "rd"
                  rw [List.getD_eq_getElem?_getD, ho] at kR
                  have z : decide ((r.length : Int) = (r0.length : Int)) = decide ((((some (some r) : Option (Option (List Int))).getD none).getD []).length = r0.length) := by
                    apply decide_eq_decide.mpr
                    show (r.length : Int) = r0.length ↔ r.length = r0.length
                    omega
                  rw [z]
                  exact kR _ (Ex.refl _)
                · intro p2 H3 hp2 e3 hl3
                  walk_at "rd"
                  refine bools_all hl3 ?_
                  rw [hr.1, all_range os none fun o => decide ((o.getD []).length = r0.length)]
                  have := k H3 (e12.trans e3)
                  rw [sh, decide_eq_true d1, decide_eq_true d3] at this
                  simpa using this
              · refine ite_f (by simp; omega) ?_
                exact no e12 (by rw [sh, decide_eq_false d3]; simp)
            · refine ite_f (by simp; omega) ?_
              refine ⟨_, rfl, ite_f rfl ?_⟩
              exact no e12 (by rw [sh, decide_eq_false d1]; simp)
      · refine ite_t (by simp; omega) (ite_t rfl ?_)
        walk_at "rd"
        exact no e1 (by unfold GV.shB; rw [← hr.1, decide_eq_false c9]; simp)
    · refine ite_f (by simp; omega) ?_
      refine ⟨_, rfl, ?_⟩
      refine ite_t rfl ?_
      refine ite_t rfl ?_
      walk_at "rd"
      exact no e1 (by unfold GV.shB; rw [← hr.1, decide_eq_false c1]; simp)
  · refine ⟨false, h, fun H1 e1 => ?_⟩
    walk_at "rd"
    exact ite_t rfl (ite_t rfl (k H1 e1))

end K31
namespace K31
open PySem PySem.Spec PyProof.Rows L2 GS TL
local macro_rules | `(tactic| walk_at "rd") => `(tactic| (repeat (first
  | with_reducible refine r_next ?_
  | with_reducible refine r_seq ?_
  | with_reducible refine r_ret ?_
  | with_reducible refine r_ifS ?_
  | with_reducible refine r_asg ?_
  | with_reducible refine r_drop ?_
  | with_reducible refine r_op ?_
  | with_reducible refine r_un ?_
  | with_reducible refine r_cbInt ?_
  | with_reducible refine r_cbAbs ?_
  | with_reducible refine r_cbLen ?_
  | with_reducible refine r_cbList ?_
  | with_reducible refine r_cbTup ?_
  | with_reducible refine r_iEnT ?_
  | with_reducible refine r_iEnL ?_
  | with_reducible refine r_zipA ?_
  | with_reducible refine r_zipX ?_
  | with_reducible refine r_augS ?_
  | with_reducible refine r_cb ?_
  | with_reducible refine r_call ?_
  | with_reducible refine r_make ?_
  | with_reducible refine r_callN0 ?_
  | with_reducible refine r_makeK0 ?_
  | with_reducible refine r_makeS ?_
  | with_reducible refine r_callS ?_
  | with_reducible refine r_cons ?_
  | with_reducible refine r_nil ?_
  | with_reducible refine r_test ?_
  | with_reducible refine r_B ?_
  | with_reducible refine r_and ?_
  | with_reducible refine r_or ?_
  | with_reducible refine r_not ?_
  | with_reducible refine r_andV ?_
  | with_reducible refine r_orV ?_
  | with_reducible refine r_notV ?_
  | with_reducible refine r_if ?_
  | with_reducible refine r_tup ?_
  | with_reducible refine r_lst ?_
  | with_reducible refine r_c ?_
  | with_reducible refine r_lc ?_
  | with_reducible refine r_chain ?_
  | with_reducible refine r_iT ?_
  | with_reducible refine r_iL ?_
  | with_reducible refine r_iR1 ?_
  | with_reducible refine r_iR2 ?_
  | with_reducible refine r_iR3 ?_
  | with_reducible refine r_asgG ?_
  | with_reducible refine r_gSub ?_
  | with_reducible refine r_for ?_
  | with_reducible refine r_smeth ?_
  | with_reducible refine r_par ?_
  | with_reducible refine r_parK ?_
  | with_reducible refine r_gCons ?_
  | with_reducible refine r_gNil ?_
  | with_reducible refine r_gName ?_
  | with_reducible refine r_intI ?_
  | with_reducible refine r_intB ?_
  | with_reducible refine r_absI ?_
  | with_reducible refine r_k ?_
  | with_reducible refine r_kV ?_
  | ((with_reducible show tVar _ _ _ _); refine r_var3 ?_ (by rfl))
  | with_reducible refine r_I0 ?_
  | with_reducible refine r_U ?_
  | with_reducible refine r_eqI ?_
  | with_reducible refine r_neI ?_
  | with_reducible refine r_F ?_
  | dsimp only)))
local macro_rules | `(tactic| walk_at "rx") => `(tactic| (repeat (first
  | with_reducible refine r_next ?_
  | with_reducible refine r_ret ?_
  | with_reducible refine r_ifS ?_
  | with_reducible refine r_asg ?_
  | with_reducible refine r_drop ?_
  | with_reducible refine r_op ?_
  | with_reducible refine r_un ?_
  | with_reducible refine r_cbInt ?_
  | with_reducible refine r_cbAbs ?_
  | with_reducible refine r_cbLen ?_
  | with_reducible refine r_cbList ?_
  | with_reducible refine r_cbTup ?_
  | with_reducible refine r_iEnT ?_
  | with_reducible refine r_iEnL ?_
  | with_reducible refine r_zipA ?_
  | with_reducible refine r_zipX ?_
  | with_reducible refine r_augS ?_
  | with_reducible refine r_cb ?_
  | with_reducible refine r_call ?_
  | with_reducible refine r_make ?_
  | with_reducible refine r_callN0 ?_
  | with_reducible refine r_makeK0 ?_
  | with_reducible refine r_makeS ?_
  | with_reducible refine r_callS ?_
  | with_reducible refine r_cons ?_
  | with_reducible refine r_nil ?_
  | with_reducible refine r_test ?_
  | with_reducible refine r_B ?_
  | with_reducible refine r_and ?_
  | with_reducible refine r_or ?_
  | with_reducible refine r_not ?_
  | with_reducible refine r_andV ?_
  | with_reducible refine r_orV ?_
  | with_reducible refine r_notV ?_
  | with_reducible refine r_if ?_
  | with_reducible refine r_tup ?_
  | with_reducible refine r_lst ?_
  | with_reducible refine r_c ?_
  | with_reducible refine r_lc ?_
  | with_reducible refine r_chain ?_
  | with_reducible refine r_iT ?_
  | with_reducible refine r_iL ?_
  | with_reducible refine r_iR1 ?_
  | with_reducible refine r_iR2 ?_
  | with_reducible refine r_iR3 ?_
  | with_reducible refine r_asgG ?_
  | with_reducible refine r_gSub ?_
  | with_reducible refine r_for ?_
  | with_reducible refine r_smeth ?_
  | with_reducible refine r_par ?_
  | with_reducible refine r_parK ?_
  | with_reducible refine r_gCons ?_
  | with_reducible refine r_gNil ?_
  | with_reducible refine r_gName ?_
  | with_reducible refine r_intI ?_
  | with_reducible refine r_intB ?_
  | with_reducible refine r_absI ?_
  | with_reducible refine r_k ?_
  | with_reducible refine r_kV ?_
  | ((with_reducible show tVar _ _ _ _); refine r_var3 ?_ (by rfl))
  | with_reducible refine r_I0 ?_
  | with_reducible refine r_U ?_
  | with_reducible refine r_eqI ?_
  | with_reducible refine r_neI ?_
  | with_reducible refine r_F ?_
  | dsimp only)))
/-! ### Vectors made -/
theorem bu_ex {p : Addr} {H H0 H' : Hp} (e0 : Ex H H0) (hp : H p = none) (e : Bu p H0 H') : Ex H H' := fun a o h => e a o (ne_of_none h hp) (e0 a o h)
theorem put_own {H : Hp} {x dx : Addr} {o u : HO} (h1 : H x = none) (h2 : H dx = none) : Ex H (upd (upd H dx o) x u) := fun a v h => by
  rw [upd_ne (ne_of_none h h1), upd_ne (ne_of_none h h2)]
  exact h
def RaisedB (K : PySem.W.Frag) (x : Str) (p : Addr) (z : Str) (H : Hp) (E : XK) : Prop := ∀ d H', Bu p H H' → H' d = some (.xd [(("part" : Str), .str z)]) → E (.ref (He.ga K x)) (some d) H'
/-- rows behind what is told of them -/
def rowsOf (os : List (Option (List Int))) : List (List Int) := os.map fun o => o.getD []
theorem rows_of {K : PySem.W.Frag} {H : Hp} {xs : List V} {os : List (Option (List Int))} (h : RIts K H xs os) (a : os.all (·.isSome) = true) : ∃ ts : List Addr, xs = ts.map V.ref ∧ RA H ts (rowsOf os) := by
  have key : ∀ (j : Nat) (x : V), xs[j]? = some x → ∃ r t, os[j]? = some (some r) ∧ x = .ref t ∧ (H t = some (.lst (r.map V.int)) ∨ H t = some (.tup (r.map V.int))) := fun j x hx => by
    obtain ⟨o, ho, hit⟩ := h.item hx
    have := List.all_eq_true.mp a o (List.mem_of_getElem? ho)
    cases o with
    | none => cases this
    | some r =>
      obtain ⟨_, t, h1, h2⟩ := hit
      exact ⟨r, t, ho, h1, h2⟩
  have e : xs = (xs.map fun x => match x with | .ref t => t | _ => 0).map V.ref := by
    refine List.ext_getElem (by simp) fun i h1 h2 => ?_
    obtain ⟨r, t, _, hx, _⟩ := key i xs[i] (by simp [h1])
    simp [hx]
  refine ⟨_, e, by rw [List.length_map, h.1]; simp [rowsOf], fun j t r ht hr => ?_⟩
  rw [List.getElem?_map] at ht
  cases q : xs[j]? with
  | none => rw [q] at ht; cases ht
  | some x =>
    obtain ⟨r', t', ho, rfl, hh⟩ := key j x q
    rw [q] at ht
    cases ht
    have hr' : r = r' := by
      unfold rowsOf at hr
      rw [List.getElem?_map, ho] at hr
      exact (Option.some.inj hr).symm
    rw [hr']
    exact hh
/-- all but instances is kept -/
def Kt (H H' : Hp) : Prop := ∀ t o, H t = some o → (∀ C dx fs, o ≠ .ins C dx fs) → H' t = some o
theorem Kt.ex {H H' : Hp} (e : Ex H H') : Kt H H' := fun t o h _ => e t o h
theorem Kt.trans {H H1 H2 : Hp} (a : Kt H H1) (b : Kt H1 H2) : Kt H H2 := fun t o h n => b t o (a t o h n) n
theorem Kt.put {H : Hp} {p C dx : Addr} {fs : List (Str × V)} {o : HO} (h : H p = some (.ins C dx fs)) : Kt H (upd H p o) := fun t u q n => by
  rw [upd_ne (by rintro rfl; rw [h] at q; exact n _ _ _ (Option.some.inj q).symm)]
  exact q
theorem RA.kt {H H' : Hp} {ts : List Addr} {rs : List (List Int)} (h : RA H ts rs) (e : Kt H H') : RA H' ts rs := ⟨h.1, fun j t r h1 h2 => (h.2 j t r h1 h2).elim (fun z => .inl (e _ _ z (fun _ _ _ z => by cases z))) fun z => .inr (e _ _ z (fun _ _ _ z => by cases z))⟩
theorem Sq.kt {H H' : Hp} {v : V} {xs : List V} (h : Sq H v xs) (e : Kt H H') : Sq H' v xs := by
  obtain ⟨a, rfl, h | h⟩ := h
  · exact ⟨a, rfl, .inl (e _ _ h (fun _ _ _ z => by cases z))⟩
  · exact ⟨a, rfl, .inr (e _ _ h (fun _ _ _ z => by cases z))⟩
theorem TRw.kt {H H' : Hp} {ts : List Addr} {rs : List (List Int)} (h : TRw H ts rs) (e : Kt H H') : TRw H' ts rs := h.to fun t xs z => e _ _ z (fun _ _ _ z => by cases z)
theorem TRw.of {H : Hp} : ∀ {ts : List Addr} {rs : List (List Int)}, ts.length = rs.length → (∀ (j : Nat) (t : Addr) (r : List Int), ts[j]? = some t → rs[j]? = some r → H t = some (.tup (r.map V.int))) → TRw H ts rs
  | [], [], _, _ => trivial
  | t :: ts, r :: rs, l, h => ⟨h 0 t r rfl rfl, TRw.of (by simpa using l) fun j t' r' h1 h2 => h (j + 1) t' r' (by simpa using h1) (by simpa using h2)⟩
  | [], _ :: _, l, _ => by simp at l
  | _ :: _, [], l, _ => by simp at l
def spVInit (K : PySem.W.Frag) : Sp := sp2 fun a v H Q E => ∃ p dx, a = .ref p ∧ H p = some (.ins (He.ga K "Vectors") dx []) ∧
  ((RowB K H v false ∧ RaisedB K "BadVectors" p "rows" H E) ∨
   ∃ xs os, Sq H v xs ∧ RIts K H xs os ∧ xs.length ≤ 1000 ∧ (∀ r ∈ rowsOf os, ∀ c ∈ r, Z 5000 c) ∧ (GV.shB os = false → RaisedB K "BadVectors" p "rows" H E) ∧ (GV.shB os = true → GV.upB (rowsOf os) = false → RaisedB K "Misfit" p "sum" H E) ∧
     (GV.shB os = true → GV.upB (rowsOf os) = true → ∀ t ts H', Bu p H H' → H' t = some (.tup (ts.map V.ref)) → TRw H' ts (rowsOf os) → H' p = some (.ins (He.ga K "Vectors") dx (vf t (GV.tot (rowsOf os)) (GV.lon (rowsOf os)))) → Q .non H'))
theorem ok_Vectors_init {P : Program} {w : World} {K : PySem.W.Frag} {mg : Str → Option Value} {base : Heap} (T : Txt K mg) : ∃ fd, FnOk P w K mg base (L2.CX P w) 4 (He.ma K (He.ga K "Vectors") "__init__") fd ["self", "rows"] (spVInit K) ∧ Binds K fd ["self", "rows"] [] ∧ KBn K fd ["self", "rows"] 1 ["rows"] (pm [0, 1]) (pm [0, 1]) := by
  obtain ⟨fd, F⟩ := T.d_Vectors_init
  obtain ⟨fd_product_sum, F_product_sum, B_product_sum⟩ := ok_product_sum (P := P) (w := w) (base := base) T
  obtain ⟨fd_add_up, F_add_up, B_add_up⟩ := ok_add_up (P := P) (w := w) (base := base) T
  obtain ⟨fd_Misfit_init, F_Misfit_init, B_Misfit_init⟩ := ok_Misfit_init (P := P) (w := w) (base := base) T
  obtain ⟨fd_are_rows, F_are_rows, B_are_rows⟩ := ok_are_rows (P := P) (w := w) (base := base) T
  obtain ⟨fd_BadVectors_init, F_BadVectors_init, B_BadVectors_init⟩ := ok_BadVectors_init (P := P) (w := w) (base := base) T
  refine ⟨fd, F.ok sc_Vectors_init sp2_len (fun cdv A outer s H vs Q E hr h => ?_), F.bindsN fun _ _ _ _ _ _ us hl => match us, hl with | [_, _], _ => rfl, kb_of F 1 ["rows"] [0, 1] (fun _ _ _ _ _ _ us ws h1 h2 => match us, ws, h1, h2 with | [_], [_], _, _ => rfl)⟩
  have hr_product_sum : Room 1 _ := hr.mono (by decide)
  have hr_add_up : Room 2 _ := hr.mono (by decide)
  have hr_Misfit_init : Room 2 _ := hr.mono (by decide)
  have hr_are_rows : Room 3 _ := hr.mono (by decide)
  have hr_BadVectors_init : Room 2 _ := hr.mono (by decide)
  obtain ⟨a, v, rfl, p, dx, rfl, hp, hh⟩ := sp2_is h
  refine ⟨_, (pss_cons (ps_if (pt_not (pt_val (pe_call F_are_rows hr_are_rows (by rfl) T.g_are_rows T.k_are_rows B_are_rows .nil passL (pa_cons (pv 1) pa_nil)))) (pss_one (ps_raise rfl (takes_of rfl rfl rfl rfl) (pmk_oex T.e_BadVectors.o T.e_BadVectors.i T.e_BadVectors.t F_BadVectors_init hr_BadVectors_init B_BadVectors_init .nil passL rfl T.g_BadVectors (pa_cons pe_str pa_nil)))) pss_nil)
      (pss_cons (ps_if (pt_not (pt_val (pe_call F_add_up hr_add_up (by rfl) T.g_add_up T.k_add_up B_add_up .nil passL (pa_cons (pv 1) pa_nil)))) (pss_one (ps_raise rfl (takes_of rfl rfl rfl rfl) (pmk_oex T.e_Misfit.o T.e_Misfit.i T.e_Misfit.t F_Misfit_init hr_Misfit_init B_Misfit_init .nil passL rfl T.g_Misfit (pa_cons pe_str pa_nil)))) pss_nil)
      (pss_cons (ps_fld (pv 0) (pe_callTy (kx_tupOf (K := K) rfl) (by rfl) T.b_tuple (by decide +kernel) (pa_cons (pe_lc (own := [("row", 2)]) (g := gName 2) (tt := tYes)  rfl sc_Vectors_init.nd (pi_seq (pv 1)) (blkOk_by (own := [("row", 2)]) (N := ["self", "rows", "row"]) (sc := defScope s_Vectors_init) (by decide +kernel)) (fun _ _ _ _ _ => (pg_name (i := 2) sc_Vectors_init.nd rfl (Or.inl rfl))) (fun _ _ _ _ _ => pts_nil) (fun _ _ _ _ _ => (pe_callTy (kx_tupOf (K := K) rfl) (by rfl) T.b_tuple (by decide +kernel) (pa_cons (pv 2) pa_nil)))) pa_nil)) rfl)
      (pss_cons (ps_fld (pv 0) (pe_callB (kx_sum (K := K) rfl rfl) (by rfl) T.b_sum (by decide +kernel) (pa_cons (pe_lc (own := [("row", 2)]) (g := gName 2) (tt := tYes)  rfl sc_Vectors_init.nd (pi_seq (pv 1)) (blkOk_by (own := [("row", 2)]) (N := ["self", "rows", "row"]) (sc := defScope s_Vectors_init) (by decide +kernel)) (fun _ _ _ _ _ => (pg_name (i := 2) sc_Vectors_init.nd rfl (Or.inl rfl))) (fun _ _ _ _ _ => pts_nil) (fun _ _ _ _ _ => (pe_op op_powW (pe_ix (kx_ixs (K := K) rfl) (pv 2) pe_int (fun _ _ => rfl)) pe_int))) pa_nil)) rfl)
      (pss_one (ps_fld (pv 0) (pe_callB (kx_max (K := K) rfl rfl) (by rfl) T.b_max (by decide +kernel) (pa_cons (pe_lc (own := [("row", 2)]) (g := gName 2) (tt := tYes)  rfl sc_Vectors_init.nd (pi_seq (pv 1)) (blkOk_by (own := [("row", 2)]) (N := ["self", "rows", "row"]) (sc := defScope s_Vectors_init) (by decide +kernel)) (fun _ _ _ _ _ => (pg_name (i := 2) sc_Vectors_init.nd rfl (Or.inl rfl))) (fun _ _ _ _ _ => pts_nil) (fun _ _ _ _ _ => (pe_call F_product_sum hr_product_sum (by rfl) T.g_product_sum T.k_product_sum B_product_sum .nil passL (pa_cons (pv 2) (pa_cons (pv 2) pa_nil))))) pa_nil)) rfl)))))), ?_⟩
  walk_at "rd"
  rcases hh with ⟨hr, k⟩ | ⟨xs, os, hs, hr, hl, hz, k1, k2, k3⟩
  · refine .inr ⟨hr, fun H1 e1 => ?_⟩
    walk_at "rd"
    refine ite_t rfl ?_
    walk_at "rd"
    exact (r_err rfl fun d H' e hd => k d H' (Bu.of (e1.trans e)) hd)
  · refine .inl ⟨xs, os, hs, hr, hl, fun H1 e1 => ?_⟩
    walk_at "rd"
    cases sh : GV.shB os with
    | false =>
      refine ite_t rfl ?_
      walk_at "rd"
      exact (r_err rfl fun d H' e hd => k1 sh d H' (Bu.of (e1.trans e)) hd)
    | true =>
      refine ite_f rfl ?_
      walk_at "rd"
      obtain ⟨ts, rfl, ra⟩ := rows_of hr (GV.shB_all sh)
      have shr := GV.shB_shR sh
      obtain ⟨b, a, rfl, hx⟩ := hs.x (K := K)
      refine ⟨b, a, ts, rowsOf os, rfl, sqX_ex e1 hx, ra.ex e1, shr, fun r h1 c h2 => (hz r h1 c h2).mono (by decide), fun H2 e2 => ?_⟩
      have e12 := e1.trans e2
      cases hup : GV.upB (rowsOf os) with
      | false =>
        refine ⟨_, rfl, ite_t rfl ?_⟩
        exact r_err rfl fun d H' e hd => k2 sh hup d H' (Bu.of (e12.trans e)) hd
      | true =>
        refine ⟨_, rfl, ite_f rfl ?_⟩
        walk_at "rd"
        have hs2 := hs.ex e12
        have ra2 := ra.ex e12
        have hp2 := e12 _ _ hp
        have nts : ts.length ≤ 9 := by rw [ra.1]; exact shr.2.1
        obtain ⟨b2, a2, ea, hx2⟩ := hs2.x (K := K)
        cases ea
        have row : ∀ {H' : Hp} {i : Nat} {y : V}, RA H' ts (rowsOf os) → (ts.map V.ref)[i]? = some y → ∃ t r, ts[i]? = some t ∧ y = .ref t ∧ (rowsOf os)[i]? = some r ∧ (H' t = some (.lst (r.map V.int)) ∨ H' t = some (.tup (r.map V.int))) := fun {H' i y} h hy => by
          obtain ⟨t, ht, rfl⟩ := ref_at hy
          obtain ⟨r, h1, h2⟩ := h.row ht
          exact ⟨t, r, ht, rfl, h1, h2⟩
        refine r_fldS ?_
        walk_at "rd"
        refine ⟨_, rfl, it_B hx2 fun J W => ?_⟩
        refine r_lcP W (fun D i ys H' => ∃ us : List Addr, ys = us.map V.ref ∧ us.length = i ∧ D ∉ us ∧ ∀ (j : Nat) (t : Addr) (r : List Int), us[j]? = some t → (rowsOf os)[j]? = some r → H' t = some (.tup (r.map V.int))) (by rw [List.length_map]; omega) (fun H' e => sqX_ex e hx2)
          (fun D H' e => ⟨[], rfl, rfl, by simp, fun j t r h => by simp at h⟩) (fun D i ys H3 H4 ⟨us, h1, h2, h3, h4⟩ bu => ⟨us, h1, h2, h3, fun j t r ht hr => bu _ _ (fun z => h3 (by rw [← z]; exact List.mem_of_getElem? ht)) (h4 j t r ht hr)⟩) ?_ ?_
        · rintro D i y ys H3 H4 hi hD e3 hdD ⟨us, rfl, g2, g3, g4⟩ ⟨rfl, hy⟩ N hN
          obtain ⟨t, r, ht, rfl, hr', hrow⟩ := row (ra2.ex e3) hy
          refine r_gName ⟨rfl, ?_⟩
          walk_at "rd"
          have fin : ∀ (l : Addr) (H5 : Hp), Ex H4 H5 → l ≠ D → H5 l = some (.tup (r.map V.int)) → N (.ref l) H5 := fun l H5 e5 lD hl5 => by
            refine hN _ H5 e5 ⟨us ++ [l], by simp, by simp [g2], fun z => ?_, fun j t' r' h1 h2 => ?_⟩
            · rcases List.mem_append.mp z with z | z
              · exact g3 z
              · exact lD (List.mem_singleton.mp z).symm
            · rcases Nat.lt_or_ge j us.length with c | c
              · rw [List.getElem?_append_left c] at h1
                exact e5 _ _ (g4 j t' r' h1 h2)
              · rw [List.getElem?_append_right c] at h1
                cases z : j - us.length with
                | zero =>
                  rw [z] at h1
                  cases h1
                  have : j = i := by omega
                  rw [this, hr'] at h2
                  cases h2
                  exact hl5
                | succ m => rw [z] at h1; simp at h1
          rcases hrow with hrow | hrow
          · exact ⟨t, _, rfl, .inl ⟨SqL.of hrow, fun l hl => fin l _ (Ex.new hl) (by rintro rfl; rw [hdD] at hl; cases hl) upd_same⟩⟩
          · exact ⟨t, _, rfl, .inr ⟨SqT.of hrow, fin t _ (Ex.refl _) (by rintro rfl; rw [hdD] at hrow; cases hrow) hrow⟩⟩
        · rintro D ys H3 hD e3 hdD hlen ⟨us, rfl, g2, g3, g4⟩
          walk_at "rd"
          refine ⟨D, _, rfl, .inl ⟨SqL.of hdD, fun l hl => ?_⟩⟩
          have el : Ex H3 (upd H3 l (.tup (us.map V.ref))) := Ex.new hl
          have hl4 : (upd H3 l (.tup (us.map V.ref))) l = some (.tup (us.map V.ref)) := upd_same
          generalize upd H3 l (.tup (us.map V.ref)) = H4 at el hl4 ⊢
          have hp4 := el _ _ (e3 _ _ hp2)
          have tr4 : TRw H4 us (rowsOf os) := TRw.of (by rw [g2, List.length_map, ra.1]) fun j t r h1 h2 => el _ _ (g4 j t r h1 h2)
          refine ⟨_, rfl, p, _, dx, [], rfl, hp4, T.cl_Vectors, T.na_Vectors_rows, by decide, ?_⟩
          have k5 : Kt H4 (upd H4 p (.ins (He.ga K "Vectors") dx (putF "rows" (.ref l) []))) := Kt.put hp4
          have b5 : Bu p H (upd H4 p (.ins (He.ga K "Vectors") dx (putF "rows" (.ref l) []))) := (Bu.of (((e1.trans e2).trans e3).trans el)).trans Bu.upd
          have hp5 : (upd H4 p (.ins (He.ga K "Vectors") dx (putF "rows" (.ref l) []))) p = some (.ins (He.ga K "Vectors") dx [("rows", .ref l)]) := upd_same
          generalize upd H4 p (.ins (He.ga K "Vectors") dx (putF "rows" (.ref l) [])) = H5 at k5 b5 hp5 ⊢
          have kt5 : Kt H2 H5 := ((Kt.ex e3).trans (Kt.ex el)).trans k5
          have hl5 := k5 _ _ hl4 (fun _ _ _ z => by cases z)
          have tr5 := tr4.kt k5
          walk_at "rd"
          obtain ⟨b3, a3, ea, hx5⟩ := (hs2.kt kt5).x (K := K)
          cases ea
          refine r_fldS ?_
          walk_at "rd"
          refine ⟨_, rfl, it_B hx5 fun J2 W2 => ?_⟩
          have ra5 := ra2.kt kt5
          have r0 : ∀ {j : Nat} {r : List Int}, (rowsOf os)[j]? = some r → r[0]? = some (r.getD 0 0) := fun {j r} h => by
            have := shr.2.2.2.2 r (List.mem_of_getElem? h)
            have := shr.2.2.1
            cases r with
            | nil => simp at *; omega
            | cons c r => rfl
          refine r_lcZ W2 ((rowsOf os).map fun r => r.getD 0 0 * r.getD 0 0) (by rw [List.length_map, List.length_map, ra.1]) (by rw [List.length_map]; omega) (fun H' e => sqX_ex e hx5) ?_ ?_
          · rintro i y H6 H7 hi e6 ⟨rfl, hy⟩ N hN
            obtain ⟨t, r, ht, rfl, hr', hrow⟩ := row (ra5.ex e6) hy
            refine r_gName ⟨rfl, ?_⟩
            walk_at "rd"
            refine ix_row (j := 0) hrow (r0 hr') ?_
            walk_at "rd"
            have zc := hz r (List.mem_of_getElem? hr') (r.getD 0 0) (List.mem_of_getElem? (r0 hr'))
            refine r_I (cpow_of (n := 5000) (k := 2) zc (by decide)) ?_
            have e : ((rowsOf os).map fun r => r.getD 0 0 * r.getD 0 0).getD i 0 = r.getD 0 0 ^ ((2 : Nat) : Int).toNat := by
              rw [List.getD_eq_getElem?_getD, List.getElem?_map, hr']
              show r.getD 0 0 * r.getD 0 0 = r.getD 0 0 ^ 2
              rw [Int.pow_succ, Int.pow_succ, Int.pow_zero, Int.one_mul]
            have hN' := hN H7 (Ex.refl _)
            rw [e] at hN'
            exact hN'
          · intro D2 H6 hD2 e6 hl6
            walk_at "rd"
            refine ⟨D2, _, rfl, SqL.of hl6, ?_⟩
            rw [GV.tot_sq]
            have hp6 := e6 _ _ hp5
            refine ⟨_, rfl, p, _, dx, _, rfl, hp6, T.cl_Vectors, T.na_Vectors_total, (by show 1 < 1000; decide), ?_⟩
            have k7 : Kt H6 (upd H6 p (.ins (He.ga K "Vectors") dx (putF "total" (.int (GV.tot (rowsOf os))) [("rows", .ref l)]))) := Kt.put hp6
            have b7 : Bu p H (upd H6 p (.ins (He.ga K "Vectors") dx (putF "total" (.int (GV.tot (rowsOf os))) [("rows", .ref l)]))) := (b5.trans (Bu.of e6)).trans Bu.upd
            have hp7 : (upd H6 p (.ins (He.ga K "Vectors") dx (putF "total" (.int (GV.tot (rowsOf os))) [("rows", .ref l)]))) p = some (.ins (He.ga K "Vectors") dx [("rows", .ref l), ("total", .int (GV.tot (rowsOf os)))]) := upd_same
            generalize upd H6 p (.ins (He.ga K "Vectors") dx (putF "total" (.int (GV.tot (rowsOf os))) [("rows", .ref l)])) = H7 at k7 b7 hp7 ⊢
            have kt7 : Kt H5 H7 := (Kt.ex e6).trans k7
            have hl7 := kt7 _ _ hl5 (fun _ _ _ z => by cases z)
            have tr7 := tr5.kt kt7
            have ra7 := ra5.kt kt7
            obtain ⟨b4, a4, ea, hx7⟩ := ((hs2.kt kt5).kt kt7).x (K := K)
            cases ea
            walk_at "rd"
            refine r_fldS ?_
            walk_at "rd"
            refine ⟨_, rfl, it_B hx7 fun J3 W3 => ?_⟩
            refine r_lcZ W3 ((rowsOf os).map fun r => GV.pr r r) (by rw [List.length_map, List.length_map, ra.1]) (by rw [List.length_map]; omega) (fun H' e => sqX_ex e hx7) ?_ ?_
            · rintro i y H8 H9 hi e8 ⟨rfl, hy⟩ N hN
              obtain ⟨t, r, ht, rfl, hr', hrow⟩ := row (ra7.ex e8) hy
              refine r_gName ⟨rfl, ?_⟩
              walk_at "rd"
              have zr : ∀ c ∈ r, Z 20000 c := fun c hc => (hz r (List.mem_of_getElem? hr') c hc).mono (by decide)
              have lr : r.length ≤ 1000 := by have := shr.2.2.2.2 r (List.mem_of_getElem? hr'); have := shr.2.2.2.1; omega
              have e : ((rowsOf os).map fun r => GV.pr r r).getD i 0 = GV.pr r r := by
                rw [List.getD_eq_getElem?_getD, List.getElem?_map, hr']
                rfl
              rw [e] at hN
              rcases hrow with hrow | hrow
              · exact ⟨false, false, t, t, r, r, rfl, rfl, SqL.of hrow, SqL.of hrow, lr, zr, zr, fun H' e => hN _ e⟩
              · exact ⟨true, true, t, t, r, r, rfl, rfl, SqT.of hrow, SqT.of hrow, lr, zr, zr, fun H' e => hN _ e⟩
            · intro D3 H8 hD3 e8 hl8
              walk_at "rd"
              refine ⟨D3, _, rfl, SqL.of hl8, by rw [List.length_map]; exact shr.1, fun m hm hmax => ?_⟩
              rw [GV.mx_uniq hm hmax]
              have hp8 := e8 _ _ hp7
              refine ⟨_, rfl, p, _, dx, _, rfl, hp8, T.cl_Vectors, T.na_Vectors_longest, (by show 2 < 1000; decide), ?_⟩
              have k9 : Kt H8 (upd H8 p (.ins (He.ga K "Vectors") dx (putF "longest" (.int (GV.mx ((rowsOf os).map fun r => GV.pr r r))) [("rows", .ref l), ("total", .int (GV.tot (rowsOf os)))]))) := Kt.put hp8
              exact k3 sh hup l us _ ((b7.trans (Bu.of e8)).trans Bu.upd) (k9 _ _ (e8 _ _ hl7) (fun _ _ _ z => by cases z)) ((tr7.kt (Kt.ex e8)).kt k9) upd_same

end K31
namespace K31
open PySem PySem.Spec PyProof.Rows L2 GS TL
local macro_rules | `(tactic| walk_at "rd") => `(tactic| (repeat (first
  | with_reducible refine r_next ?_
  | with_reducible refine r_seq ?_
  | with_reducible refine r_ret ?_
  | with_reducible refine r_ifS ?_
  | with_reducible refine r_asg ?_
  | with_reducible refine r_drop ?_
  | with_reducible refine r_op ?_
  | with_reducible refine r_un ?_
  | with_reducible refine r_cbInt ?_
  | with_reducible refine r_cbAbs ?_
  | with_reducible refine r_cbLen ?_
  | with_reducible refine r_cbList ?_
  | with_reducible refine r_cbTup ?_
  | with_reducible refine r_iEnT ?_
  | with_reducible refine r_iEnL ?_
  | with_reducible refine r_zipA ?_
  | with_reducible refine r_zipX ?_
  | with_reducible refine r_augS ?_
  | with_reducible refine r_cb ?_
  | with_reducible refine r_call ?_
  | with_reducible refine r_make ?_
  | with_reducible refine r_callN0 ?_
  | with_reducible refine r_makeK0 ?_
  | with_reducible refine r_makeS ?_
  | with_reducible refine r_callS ?_
  | with_reducible refine r_cons ?_
  | with_reducible refine r_nil ?_
  | with_reducible refine r_test ?_
  | with_reducible refine r_B ?_
  | with_reducible refine r_and ?_
  | with_reducible refine r_or ?_
  | with_reducible refine r_not ?_
  | with_reducible refine r_andV ?_
  | with_reducible refine r_orV ?_
  | with_reducible refine r_notV ?_
  | with_reducible refine r_if ?_
  | with_reducible refine r_tup ?_
  | with_reducible refine r_lst ?_
  | with_reducible refine r_c ?_
  | with_reducible refine r_lc ?_
  | with_reducible refine r_chain ?_
  | with_reducible refine r_iT ?_
  | with_reducible refine r_iL ?_
  | with_reducible refine r_iR1 ?_
  | with_reducible refine r_iR2 ?_
  | with_reducible refine r_iR3 ?_
  | with_reducible refine r_asgG ?_
  | with_reducible refine r_gSub ?_
  | with_reducible refine r_for ?_
  | with_reducible refine r_smeth ?_
  | with_reducible refine r_par ?_
  | with_reducible refine r_parK ?_
  | with_reducible refine r_gCons ?_
  | with_reducible refine r_gNil ?_
  | with_reducible refine r_gName ?_
  | with_reducible refine r_intI ?_
  | with_reducible refine r_intB ?_
  | with_reducible refine r_absI ?_
  | with_reducible refine r_k ?_
  | with_reducible refine r_kV ?_
  | ((with_reducible show tVar _ _ _ _); refine r_var3 ?_ (by rfl))
  | with_reducible refine r_I0 ?_
  | with_reducible refine r_U ?_
  | with_reducible refine r_eqI ?_
  | with_reducible refine r_neI ?_
  | dsimp only)))
local macro_rules | `(tactic| walk_at "rx") => `(tactic| (repeat (first
  | with_reducible refine r_next ?_
  | with_reducible refine r_ret ?_
  | with_reducible refine r_ifS ?_
  | with_reducible refine r_asg ?_
  | with_reducible refine r_drop ?_
  | with_reducible refine r_op ?_
  | with_reducible refine r_un ?_
  | with_reducible refine r_cbInt ?_
  | with_reducible refine r_cbAbs ?_
  | with_reducible refine r_cbLen ?_
  | with_reducible refine r_cbList ?_
  | with_reducible refine r_cbTup ?_
  | with_reducible refine r_iEnT ?_
  | with_reducible refine r_iEnL ?_
  | with_reducible refine r_zipA ?_
  | with_reducible refine r_zipX ?_
  | with_reducible refine r_augS ?_
  | with_reducible refine r_cb ?_
  | with_reducible refine r_call ?_
  | with_reducible refine r_make ?_
  | with_reducible refine r_callN0 ?_
  | with_reducible refine r_makeK0 ?_
  | with_reducible refine r_makeS ?_
  | with_reducible refine r_callS ?_
  | with_reducible refine r_cons ?_
  | with_reducible refine r_nil ?_
  | with_reducible refine r_test ?_
  | with_reducible refine r_B ?_
  | with_reducible refine r_and ?_
  | with_reducible refine r_or ?_
  | with_reducible refine r_not ?_
  | with_reducible refine r_andV ?_
  | with_reducible refine r_orV ?_
  | with_reducible refine r_notV ?_
  | with_reducible refine r_if ?_
  | with_reducible refine r_tup ?_
  | with_reducible refine r_lst ?_
  | with_reducible refine r_c ?_
  | with_reducible refine r_lc ?_
  | with_reducible refine r_chain ?_
  | with_reducible refine r_iT ?_
  | with_reducible refine r_iL ?_
  | with_reducible refine r_iR1 ?_
  | with_reducible refine r_iR2 ?_
  | with_reducible refine r_iR3 ?_
  | with_reducible refine r_asgG ?_
  | with_reducible refine r_gSub ?_
  | with_reducible refine r_for ?_
  | with_reducible refine r_smeth ?_
  | with_reducible refine r_par ?_
  | with_reducible refine r_parK ?_
  | with_reducible refine r_gCons ?_
  | with_reducible refine r_gNil ?_
  | with_reducible refine r_gName ?_
  | with_reducible refine r_intI ?_
  | with_reducible refine r_intB ?_
  | with_reducible refine r_absI ?_
  | with_reducible refine r_k ?_
  | with_reducible refine r_kV ?_
  | ((with_reducible show tVar _ _ _ _); refine r_var3 ?_ (by rfl))
  | with_reducible refine r_I0 ?_
  | with_reducible refine r_U ?_
  | with_reducible refine r_eqI ?_
  | with_reducible refine r_neI ?_
  | dsimp only)))
/-! ### the class Vectors -/
/-- a value of a built-in kind, or of another class -/
def No (K : PySem.W.Frag) (C : Str) (H : Hp) (v : V) : Prop := (∃ T ∈ tys, TyOf K H v (.type T)) ∨ ∃ a D dx fs, v = .ref a ∧ D ∈ owns ∧ D ≠ C ∧ H a = some (.ins (He.ga K D) dx fs)
theorem No.ex {K : PySem.W.Frag} {C : Str} {H H' : Hp} {v : V} (h : No K C H v) (e : Ex H H') : No K C H' v := by
  rcases h with ⟨T, hT, h⟩ | ⟨a, D, dx, fs, h1, h2, h3, h4⟩
  · exact .inl ⟨T, hT, TyOf.ex' h fun a _ o q => e a o q⟩
  · exact .inr ⟨a, D, dx, fs, h1, h2, h3, e _ _ h4⟩
/-- isinstance(v, C) is False -/
theorem no_not {K : PySem.W.Frag} {mg : Str → Option Value} {H : Hp} {v : V} {C : Str} (T : Txt K mg) (hC : C ∈ owns) (h : No K C H v) : ∃ t, TyX K H v t ∧ PySem.W.kitOne K t (.ref (He.ga K C)) = some false ∧ PySem.W.notFirst K (He.ga K C) t = true := by
  rcases h with ⟨T1, h1, h2⟩ | ⟨a, D, dx, fs, rfl, hD, ne, ha⟩
  · exact ⟨_, .base h2, ((own_facts T hC).2.ty T1 h1).1, ((own_facts T hC).2.ty T1 h1).2.2⟩
  · rw [List.mem_singleton.mp hC, List.mem_singleton.mp hD] at *
    exact absurd rfl ne
/-- Vectors(rows) -/
theorem r_Vec {K : PySem.W.Frag} {H : Hp} {Q : VK} {E : XK} {v : V} {xs : List V} {os : List (Option (List Int))} (hs : Sq H v xs) (hr : RIts K H xs os) (hl : xs.length ≤ 1000) (hz : ∀ r ∈ rowsOf os, ∀ c ∈ r, Z 5000 c) (k1 : GV.shB os = false → Raised K "BadVectors" "part" (.str "rows") H E) (k2 : GV.shB os = true → GV.upB (rowsOf os) = false → Raised K "Misfit" "part" (.str "sum") H E)
    (q : ∀ p H', H p = none → Ex H H' → Vec K H' p (rowsOf os) → Q (.ref p) H') : mkK (He.ga K "Vectors") (spVInit K) E Q [v] H := by
  intro x dx hx hd hn
  have e0 : Ex H (upd (upd H dx (.own x)) x (.ins (He.ga K "Vectors") dx [])) := put_own hx hd
  refine ⟨x, dx, rfl, upd_same, .inr ⟨xs, os, hs.ex e0, hr.ex e0, hl, hz, fun z d H' bu h => k1 z d H' (bu_ex e0 hx bu) h, fun z u d H' bu h => k2 z u d H' (bu_ex e0 hx bu) h, fun z u t ts H' bu ht htr hi => ⟨rfl, ?_⟩⟩⟩
  exact q x H' hx (bu_ex e0 hx bu) ⟨⟨GV.shB_shR z, u⟩, dx, t, ts, hi, ht, htr⟩
theorem r_VecNo {K : PySem.W.Frag} {H : Hp} {Q : VK} {E : XK} {v : V} (h : RowB K H v false) (k : Raised K "BadVectors" "part" (.str "rows") H E) : mkK (He.ga K "Vectors") (spVInit K) E Q [v] H := by
  intro x dx hx hd hn
  have e0 : Ex H (upd (upd H dx (.own x)) x (.ins (He.ga K "Vectors") dx [])) := put_own hx hd
  exact ⟨x, dx, rfl, upd_same, .inl ⟨h.ex e0, fun d H' bu hd' => k d H' (bu_ex e0 hx bu) hd'⟩⟩
/-! ### == -/
def dRow (rs : List (List Int)) : List PyData := rs.map fun r => .tuple (r.map PyData.int)
theorem dp_rows {K : PySem.W.Frag} {H : Hp} : ∀ {ts : List Addr} {rs : List (List Int)}, TRw H ts rs → DpAll K H (ts.map V.ref) (dRow rs)
  | [], [], _ => .nil
  | _ :: _, _ :: _, h => .cons (.tup (SqT.of h.1) (dp_ints _)) (dp_rows h.2)
  | [], _ :: _, h => h.elim
  | _ :: _, [], h => h.elim
theorem can_rows : ∀ rs : List (List Int), PyData.canLayAll0 (dRow rs) = true
  | [] => rfl
  | r :: rs => by
    show (PyData.canLayAll0 (r.map PyData.int) && PyData.canLayAll0 (dRow rs)) = true
    rw [can_ints, can_rows rs]
    rfl
theorem depth_rows : ∀ rs : List (List Int), PyData.depthAll (dRow rs) ≤ 1
  | [] => Nat.zero_le _
  | r :: rs => by
    show max (PyData.depthAll (r.map PyData.int) + 1) (PyData.depthAll (dRow rs)) ≤ 1
    rw [depth_ints]
    have := depth_rows rs
    omega
theorem shaped_rows (rs : List (List Int)) : SeqAt.shaped (.tuple (dRow rs)) = true := by
  show (PyData.canLayAll0 (dRow rs) && decide (PyData.depthAll (dRow rs) + 1 ≤ 64)) = true
  rw [can_rows, decide_eq_true (by have := depth_rows rs; omega)]
  rfl
theorem eqv_rows : ∀ rs qs : List (List Int), PyData.eqvAll (dRow rs) (dRow qs) = decide (rs = qs)
  | [], [] => rfl
  | [], q :: qs => rfl
  | r :: rs, [] => rfl
  | r :: rs, q :: qs => by
    show (PyData.eqvAll (r.map PyData.int) (q.map PyData.int) && PyData.eqvAll (dRow rs) (dRow qs)) = _
    rw [eqv_ints, eqv_rows rs qs]
    by_cases c : r = q <;> simp [c]
theorem r_eqRows {K : PySem.W.Frag} {H : Hp} {Q : VK} {p q : Addr} {ts us : List Addr} {rs qs : List (List Int)} (h1 : H p = some (.tup (ts.map V.ref))) (g1 : TRw H ts rs) (h2 : H q = some (.tup (us.map V.ref))) (g2 : TRw H us qs) (k : Q (.bl (decide (rs = qs))) H) : rEqD K (.ref p) (.ref q) H Q := by
  refine ⟨_, _, .tup (SqT.of h1) (dp_rows g1), .tup (SqT.of h2) (dp_rows g2), shaped_rows rs, shaped_rows qs, ?_⟩
  show Q (.bl (PyData.eqvAll (dRow rs) (dRow qs))) H
  rw [eqv_rows]
  exact k
section
variable {K : PySem.W.Frag} {mg : Str → Option Value} {H : Hp} {σ : L2.St} {n : Nat} {a : Addr} {rs : List (List Int)} {Q : VK}
theorem r_fr (T : Txt K mg) (h : Vec K H a rs) (q : ∀ t ts, H t = some (.tup (ts.map V.ref)) → TRw H ts rs → Q (.ref t) H) (hs : σ[n]? = some (some (.ref a)) := by rfl) : tFld K (tVar n) "rows" σ H Q := by
  obtain ⟨_, dx, t, ts, h, ht, hr⟩ := h
  exact ⟨_, hs, a, _, dx, _, _, rfl, h, T.cl_Vectors, T.na_Vectors_rows, rfl, q t ts ht hr⟩
theorem r_ft (T : Txt K mg) (h : Vec K H a rs) (q : Q (.int (GV.tot rs)) H) (hs : σ[n]? = some (some (.ref a)) := by rfl) : tFld K (tVar n) "total" σ H Q := by
  obtain ⟨_, dx, t, ts, h, ht, hr⟩ := h
  exact ⟨_, hs, a, _, dx, _, _, rfl, h, T.cl_Vectors, T.na_Vectors_total, rfl, q⟩
theorem r_fl (T : Txt K mg) (h : Vec K H a rs) (q : Q (.int (GV.lon rs)) H) (hs : σ[n]? = some (some (.ref a)) := by rfl) : tFld K (tVar n) "longest" σ H Q := by
  obtain ⟨_, dx, t, ts, h, ht, hr⟩ := h
  exact ⟨_, hs, a, _, dx, _, _, rfl, h, T.cl_Vectors, T.na_Vectors_longest, rfl, q⟩
end
theorem Vec.inst {K : PySem.W.Frag} {H : Hp} {a : Addr} {rs : List (List Int)} (h : Vec K H a rs) : ∃ dx fs, H a = some (.ins (He.ga K "Vectors") dx fs) := let ⟨_, dx, _, _, h, _, _⟩ := h; ⟨dx, _, h⟩
def spVEq (K : PySem.W.Frag) : Sp := sp2 fun v o H Q E => ∃ a rs, v = .ref a ∧ Vec K H a rs ∧ ((∃ b qs, o = .ref b ∧ Vec K H b qs ∧ Q (.bl (decide (rs = qs))) H) ∨ (No K "Vectors" H o ∧ Q (.bl false) H))
theorem ok_Vectors_eq {P : Program} {w : World} {K : PySem.W.Frag} {mg : Str → Option Value} {base : Heap} (T : Txt K mg) : ∃ fd, FnOk P w K mg base (L2.CX P w) 1 (He.ma K (He.ga K "Vectors") "__eq__") fd ["self", "other"] (spVEq K) ∧ Binds K fd ["self", "other"] [] := by
  obtain ⟨fd, F⟩ := T.d_Vectors_eq
  refine ⟨fd, F.ok sc_Vectors_eq sp2_len (fun cdv A outer s H vs Q E hr h => ?_), F.bindsN fun _ _ _ _ _ _ us hl => match us, hl with | [_, _], _ => rfl⟩
  obtain ⟨v, o, rfl, a, rs, rfl, ha, hh⟩ := sp2_is h
  refine ⟨_, (pss_one (ps_ret (pe_and (pe_callB (cr_isi rfl) (by rfl) T.b_isinstance (by decide +kernel) (pa_cons (pv 1) (pa_cons (pe_glob (v := .ref (He.ga K "Vectors")) rfl T.g_Vectors rfl) pa_nil))) (pe_one (pe_cmpR (op_eqD hr.units) (kx_fld rfl (pv 0) rfl) (kx_fld rfl (pv 1) rfl) (nomark _)))))), ?_⟩
  walk_at "rd"
  rcases hh with ⟨b, qs, rfl, hb, k⟩ | ⟨hb, k⟩
  · obtain ⟨dx, fs, hi⟩ := hb.inst
    refine ⟨_, _, _, _, true, rfl, .own _, ty_own T (by decide) hi, T.cc_Vectors.me, ?_⟩
    walk_at "rd"
    refine ite_t rfl ?_
    walk_at "rd"
    refine r_fr T ha fun t1 ts1 h1 g1 => ?_
    refine r_fr T hb fun t2 ts2 h2 g2 => ?_
    exact r_eqRows h1 g1 h2 g2 k
  · obtain ⟨t, ht, hk, _⟩ := no_not T (by decide) hb
    refine ⟨_, _, _, _, false, rfl, .own _, ht, hk, ?_⟩
    walk_at "rd"
    exact ite_f rfl k

end K31
namespace K31
open PySem PySem.Spec PyProof.Rows L2 GS TL
local macro_rules | `(tactic| walk_at "rd") => `(tactic| (repeat (first
  | with_reducible refine r_next ?_
  | with_reducible refine r_seq ?_
  | with_reducible refine r_ret ?_
  | with_reducible refine r_ifS ?_
  | with_reducible refine r_asg ?_
  | with_reducible refine r_drop ?_
  | with_reducible refine r_op ?_
  | with_reducible refine r_un ?_
  | with_reducible refine r_cbInt ?_
  | with_reducible refine r_cbAbs ?_
  | with_reducible refine r_cbLen ?_
  | with_reducible refine r_cbList ?_
  | with_reducible refine r_cbTup ?_
  | with_reducible refine r_iEnT ?_
  | with_reducible refine r_iEnL ?_
  | with_reducible refine r_zipA ?_
  | with_reducible refine r_zipX ?_
  | with_reducible refine r_augS ?_
  | with_reducible refine r_cb ?_
  | with_reducible refine r_call ?_
  | with_reducible refine r_make ?_
  | with_reducible refine r_callN0 ?_
  | with_reducible refine r_makeK0 ?_
  | with_reducible refine r_makeS ?_
  | with_reducible refine r_callS ?_
  | with_reducible refine r_cons ?_
  | with_reducible refine r_nil ?_
  | with_reducible refine r_test ?_
  | with_reducible refine r_B ?_
  | with_reducible refine r_and ?_
  | with_reducible refine r_or ?_
  | with_reducible refine r_not ?_
  | with_reducible refine r_andV ?_
  | with_reducible refine r_orV ?_
  | with_reducible refine r_notV ?_
  | with_reducible refine r_if ?_
  | with_reducible refine r_tup ?_
  | with_reducible refine r_lst ?_
  | with_reducible refine r_c ?_
  | with_reducible refine r_lc ?_
  | with_reducible refine r_chain ?_
  | with_reducible refine r_iT ?_
  | with_reducible refine r_iL ?_
  | with_reducible refine r_iR1 ?_
  | with_reducible refine r_iR2 ?_
  | with_reducible refine r_iR3 ?_
  | with_reducible refine r_asgG ?_
  | with_reducible refine r_gSub ?_
  | with_reducible refine r_for ?_
  | with_reducible refine r_smeth ?_
  | with_reducible refine r_par ?_
  | with_reducible refine r_parK ?_
  | with_reducible refine r_gCons ?_
  | with_reducible refine r_gNil ?_
  | with_reducible refine r_gName ?_
  | with_reducible refine r_intI ?_
  | with_reducible refine r_intB ?_
  | with_reducible refine r_absI ?_
  | with_reducible refine r_k ?_
  | with_reducible refine r_kV ?_
  | ((with_reducible show tVar _ _ _ _); refine r_var3 ?_ (by rfl))
  | with_reducible refine r_I0 ?_
  | with_reducible refine r_U ?_
  | with_reducible refine r_eqI ?_
  | with_reducible refine r_neI ?_
  | with_reducible refine r_F ?_
  | dsimp only)))
local macro_rules | `(tactic| walk_at "rx") => `(tactic| (repeat (first
  | with_reducible refine r_next ?_
  | with_reducible refine r_ret ?_
  | with_reducible refine r_ifS ?_
  | with_reducible refine r_asg ?_
  | with_reducible refine r_drop ?_
  | with_reducible refine r_op ?_
  | with_reducible refine r_un ?_
  | with_reducible refine r_cbInt ?_
  | with_reducible refine r_cbAbs ?_
  | with_reducible refine r_cbLen ?_
  | with_reducible refine r_cbList ?_
  | with_reducible refine r_cbTup ?_
  | with_reducible refine r_iEnT ?_
  | with_reducible refine r_iEnL ?_
  | with_reducible refine r_zipA ?_
  | with_reducible refine r_zipX ?_
  | with_reducible refine r_augS ?_
  | with_reducible refine r_cb ?_
  | with_reducible refine r_call ?_
  | with_reducible refine r_make ?_
  | with_reducible refine r_callN0 ?_
  | with_reducible refine r_makeK0 ?_
  | with_reducible refine r_makeS ?_
  | with_reducible refine r_callS ?_
  | with_reducible refine r_cons ?_
  | with_reducible refine r_nil ?_
  | with_reducible refine r_test ?_
  | with_reducible refine r_B ?_
  | with_reducible refine r_and ?_
  | with_reducible refine r_or ?_
  | with_reducible refine r_not ?_
  | with_reducible refine r_andV ?_
  | with_reducible refine r_orV ?_
  | with_reducible refine r_notV ?_
  | with_reducible refine r_if ?_
  | with_reducible refine r_tup ?_
  | with_reducible refine r_lst ?_
  | with_reducible refine r_c ?_
  | with_reducible refine r_lc ?_
  | with_reducible refine r_chain ?_
  | with_reducible refine r_iT ?_
  | with_reducible refine r_iL ?_
  | with_reducible refine r_iR1 ?_
  | with_reducible refine r_iR2 ?_
  | with_reducible refine r_iR3 ?_
  | with_reducible refine r_asgG ?_
  | with_reducible refine r_gSub ?_
  | with_reducible refine r_for ?_
  | with_reducible refine r_smeth ?_
  | with_reducible refine r_par ?_
  | with_reducible refine r_parK ?_
  | with_reducible refine r_gCons ?_
  | with_reducible refine r_gNil ?_
  | with_reducible refine r_gName ?_
  | with_reducible refine r_intI ?_
  | with_reducible refine r_intB ?_
  | with_reducible refine r_absI ?_
  | with_reducible refine r_k ?_
  | with_reducible refine r_kV ?_
  | ((with_reducible show tVar _ _ _ _); refine r_var3 ?_ (by rfl))
  | with_reducible refine r_I0 ?_
  | with_reducible refine r_U ?_
  | with_reducible refine r_eqI ?_
  | with_reducible refine r_neI ?_
  | with_reducible refine r_F ?_
  | dsimp only)))
/-! ### texts -/
theorem minus_tl : tl (Str.ofString "-") = [45] := rfl
theorem rp_nS (i : Int) : tl (Txt.removeprefix (nS i) (Str.ofString "-")) = dg i := by
  unfold Txt.removeprefix
  by_cases c : i < 0
  · have e := tl_nS_neg c
    have h1 : Builtin.Str.subAt (nS i) (Str.ofString "-") 0 = true := by
      rw [StrLaws.subAt_eq]
      show ((tl (nS i)).drop 0).take 1 == [45]
      rw [e]
      rfl
    have hl : (nS i).length = (dg i).length + 1 := by rw [len_tl, e, List.length_cons]
    rw [if_pos h1]
    show tl (if ((nS i).length - 1 == (nS i).length) = true then nS i else Builtin.Str.strSub (nS i) 1 (nS i).length) = _
    rw [if_neg (by rw [hl]; simp), tl_strSub_end, e]
    rfl
  · have e := tl_nS_nn (i := i) (by omega)
    have h1 : Builtin.Str.subAt (nS i) (Str.ofString "-") 0 = false := by
      rw [StrLaws.subAt_eq]
      show (((tl (nS i)).drop 0).take 1 == [45]) = false
      rw [e]
      have d := dg_digits i
      cases q : dg i with
      | nil => rfl
      | cons x r =>
        rw [q] at d
        have := d x (List.mem_cons_self ..)
        simp
        omega
    rw [h1]
    exact e
theorem iD_mem {c : Nat} (h : 48 ≤ c ∧ c ≤ 57) : c ∈ (Str.ofString "0123456789").cps.toList := by
  have e : (Str.ofString "0123456789").cps.toList = [48, 49, 50, 51, 52, 53, 54, 55, 56, 57] := rfl
  rw [e]
  simp
  omega
theorem numL_head {n : Nat} (h : 0 < n) : (numL n).head? ≠ some 48 := by
  induction n using Nat.strongRecOn with
  | _ n ih =>
    by_cases c : n < 10
    · rw [numL_lt c]
      simp
      omega
    · rw [numL_step (by omega)]
      have := ih (n / 10) (by omega) (by omega)
      cases q : numL (n / 10) with
      | nil => exact absurd q (numL_ne _)
      | cons a r =>
        rw [q] at this
        exact this
/-- the digits behind a sign -/
def dgt (z : Str) : List Nat := tl (Txt.removeprefix z (Str.ofString "-"))
def isD (c : Nat) : Bool := decide (c ∈ (Str.ofString "0123456789").cps.toList)
/-- a text that tells an integer of at most 60 digits -/
def ntB (z : Str) : Bool := decide (1 ≤ (dgt z).length) && decide ((dgt z).length ≤ 60) && (dgt z).all isD && (!decide ((dgt z).headD 48 = 48) || decide (z = Str.ofString "0"))
theorem all_rangeN (l : List Nat) (d : Nat) (f : Nat → Bool) : ((List.range l.length).all fun i => f (l.getD i d)) = l.all f := all_range l d f
theorem rp_le (z : Str) : (Txt.removeprefix z (Str.ofString "-")).length ≤ z.length := by
  unfold Txt.removeprefix
  split
  · show (if (z.length - 1 == z.length) = true then z else Builtin.Str.strSub z 1 z.length).length ≤ _
    split
    · exact Nat.le_refl _
    · rw [len_tl (Builtin.Str.strSub z 1 z.length), tl_strSub_end, List.length_drop, ← len_tl]
      omega
  · exact Nat.le_refl _
def spIIT (K : PySem.W.Frag) : Sp := sp1 fun v H Q _ => ∃ z : Str, v = .str z ∧ z.length ≤ 1000 ∧ ∀ H', Ex H H' → Q (.bl (ntB z)) H'
theorem ok_is_integer_text {P : Program} {w : World} {K : PySem.W.Frag} {mg : Str → Option Value} {base : Heap} (T : Txt K mg) : ∃ fd, FnOk P w K mg base (L2.CX P w) 1 (He.ga K "is_integer_text") fd ["item"] (spIIT K) ∧ Binds K fd ["item"] [] := by
  obtain ⟨fd, F⟩ := T.d_is_integer_text
  refine ⟨fd, F.ok sc_is_integer_text sp1_len (fun cdv A outer s H vs Q E hr h => ?_), F.bindsN fun _ _ _ _ _ _ us hl => match us, hl with | [_], _ => rfl⟩
  obtain ⟨v, rfl, z, rfl, hz, k⟩ := sp1_is h
  refine ⟨_, (pss_cons (ps_set (i := 1) sc_is_integer_text.nd rfl (Or.inl rfl) (pe_bm PySem.F.plainAttrs_str PySem.F.slot_str_removeprefix PySem.F.type_str_removeprefix mt_removeprefix (pv 0) (pa_cons pe_str pa_nil)))
      (pss_cons (ps_if (PW.pt (pw_or (pt_not (pt_chain op_le op_le pe_int (pe_callB call_len_str (by rfl) T.b_len PySem.boot_len (pa_cons (pv 1) pa_nil)) (pe_gint rfl T.c_MOST_DIGITS))) (pw_or1 (pt_not (pt_val (pe_callB (cr_all rfl) (by rfl) T.b_all (by decide +kernel) (pa_cons (pe_lc (own := [("each", 2)]) (g := gName 2) (tt := tYes)  rfl sc_is_integer_text.nd (pi_str (pv 1)) (blkOk_by (own := [("each", 2)]) (N := ["item", "digits", "each"]) (sc := defScope s_is_integer_text) (by decide +kernel)) (fun _ _ _ _ _ => (pg_name (i := 2) sc_is_integer_text.nd rfl (Or.inl rfl))) (fun _ _ _ _ _ => pts_nil) (fun _ _ _ _ _ => (pe_cmpR op_in_sign (pv 2) (pe_gstr rfl T.c_DIGITS) rfl))) pa_nil))))))) (pss_one (ps_ret pe_bl)) pss_nil)
      (pss_one (ps_ret (pe_or (pe_cmpR op_ne (pe_ix ix_str (pv 1) pe_int (fun _ _ => rfl)) pe_str (nomark _)) (pe_one (pe_cmpR op_eq (pv 0) pe_str (nomark _)))))))), ?_⟩
  have hrl := rp_le z
  walk_at "rd"
  refine ⟨_, rfl, rfl, ?_⟩
  walk_at "rd"
  refine ⟨_, _, rfl, rfl, sz_le (by omega), ?_⟩
  walk_at "rd"
  have hd : dgt z = tl (Txt.removeprefix z (Str.ofString "-")) := rfl
  generalize hx : Txt.removeprefix z (Str.ofString "-") = x at hd hrl ⊢
  have hxl : x.length = (dgt z).length := by rw [len_tl, hd]
  have no : ∀ {H2 : Hp}, Ex H H2 → ntB z = false → Q (.bl false) H2 := fun e z' => by
    have := k _ e
    rw [z'] at this
    exact this
  walk_at "rd"
  refine ⟨_, rfl, sz_le (by omega), ?_⟩
  walk_at "rd"
  by_cases c1 : 1 ≤ x.length
  · refine ite_t (decide_eq_true (by omega)) ?_
    walk_at "rd"
    by_cases c2 : x.length ≤ 60
    · refine ite_f (by simp; omega) ?_
      walk_at "rd"
      refine ⟨_, rfl, x, rfl, ?_⟩
      have hsz : x.cps.size = (tl x).length := by show _ = x.cps.toList.length; simp
      refine r_lcM (n := x.cps.size) (k := 2) (walk_str (z := x)) (fun j => .bl (isD ((tl x).getD j 0))) (by have : x.cps.size = x.length := rfl; omega) (fun _ _ => trivial) (fun _ => rfl) ?_ ?_
      · rintro j y H0 H' hj e0 ⟨rfl, c, hc, rfl⟩
        refine ⟨Ex.refl _, fun H3 e3 R r => ?_⟩
        refine ⟨_, rfl, c, _, rfl, rfl, ?_⟩
        have e : (tl x).getD j 0 = c := by
          rw [List.getD_eq_getElem?_getD]
          show (x.cps.toList[j]?).getD 0 = c
          rw [Array.getElem?_toList, hc]
          rfl
        rw [e] at r
        exact r H3 (Ex.refl _)
      · intro p H' hp e hl'
        walk_at "rd"
        rw [hsz] at hl'
        refine bools_all hl' ?_
        rw [all_rangeN (tl x) 0 isD, ← hd]
        cases hall : (dgt z).all isD with
        | false =>
          refine ⟨_, rfl, ite_t rfl ?_⟩
          walk_at "rd"
          exact no e (by unfold ntB; rw [hall]; simp)
        | true =>
          refine ⟨_, rfl, ite_f rfl ?_⟩
          walk_at "rd"
          cases q : dgt z with
          | nil => rw [q] at hxl; simp at hxl; omega
          | cons c r =>
            have nt : ntB z = (!decide (c = 48) || decide (z = Str.ofString "0")) := by
              unfold ntB
              rw [hall, ← hxl, decide_eq_true c1, decide_eq_true c2, q]
              rfl
            refine ⟨x, 0, c, rfl, rfl, sz_le (by omega), ?_, ?_⟩
            · show atI (tl x) ((0 : Nat) : Int) = some c
              refine atI_nat ?_
              rw [← hd, q]
              rfl
            · walk_at "rd"
              refine r_ne rfl ?_
              walk_at "rd"
              have kz := k H' e
              rw [nt] at kz
              by_cases c0 : c = 48
              · subst c0
                refine ite_f (by decide +kernel) ?_
                walk_at "rd"
                refine r_eq rfl ?_
                have e0 : decide (V.str z = V.str (Str.ofString "0")) = decide (z = Str.ofString "0") := by
                  apply decide_eq_decide.mpr
                  exact ⟨fun h => by injection h, fun h => by rw [h]⟩
                rw [e0]
                simpa using kz
              · have e0 : (!decide (V.str (⟨#[c]⟩ : Str) = V.str (Str.ofString "0"))) = true := by
                  have : ¬ V.str (⟨#[c]⟩ : Str) = V.str (Str.ofString "0") := fun z => by
                    have z1 : (⟨#[c]⟩ : Str) = Str.ofString "0" := by injection z
                    have z2 : ([c] : List Nat) = [48] := congrArg tl z1
                    exact c0 (List.cons.inj z2).1
                  simp [this]
                refine ite_t e0 ?_
                simpa [c0] using kz
    · refine ite_t (by simp; omega) (ite_t rfl ?_)
      walk_at "rd"
      exact no (Ex.refl _) (by unfold ntB; rw [← hxl, decide_eq_false c2]; simp)
  · refine ite_f (by simp; omega) ?_
    refine ⟨_, rfl, ?_⟩
    refine ite_t rfl ?_
    refine ite_t rfl ?_
    walk_at "rd"
    exact no (Ex.refl _) (by unfold ntB; rw [← hxl, decide_eq_false c1]; simp)

end K31
namespace K31
open PySem PySem.Spec PyProof.Rows L2 GS TL
local macro_rules | `(tactic| walk_at "rd") => `(tactic| (repeat (first
  | with_reducible refine r_next ?_
  | with_reducible refine r_seq ?_
  | with_reducible refine r_ret ?_
  | with_reducible refine r_ifS ?_
  | with_reducible refine r_asg ?_
  | with_reducible refine r_drop ?_
  | with_reducible refine r_op ?_
  | with_reducible refine r_un ?_
  | with_reducible refine r_cbInt ?_
  | with_reducible refine r_cbAbs ?_
  | with_reducible refine r_cbLen ?_
  | with_reducible refine r_cbList ?_
  | with_reducible refine r_cbTup ?_
  | with_reducible refine r_iEnT ?_
  | with_reducible refine r_iEnL ?_
  | with_reducible refine r_zipA ?_
  | with_reducible refine r_zipX ?_
  | with_reducible refine r_augS ?_
  | with_reducible refine r_cb ?_
  | with_reducible refine r_call ?_
  | with_reducible refine r_make ?_
  | with_reducible refine r_callN0 ?_
  | with_reducible refine r_makeK0 ?_
  | with_reducible refine r_makeS ?_
  | with_reducible refine r_callS ?_
  | with_reducible refine r_cons ?_
  | with_reducible refine r_nil ?_
  | with_reducible refine r_test ?_
  | with_reducible refine r_B ?_
  | with_reducible refine r_and ?_
  | with_reducible refine r_or ?_
  | with_reducible refine r_not ?_
  | with_reducible refine r_andV ?_
  | with_reducible refine r_orV ?_
  | with_reducible refine r_notV ?_
  | with_reducible refine r_if ?_
  | with_reducible refine r_tup ?_
  | with_reducible refine r_lst ?_
  | with_reducible refine r_c ?_
  | with_reducible refine r_lc ?_
  | with_reducible refine r_chain ?_
  | with_reducible refine r_iT ?_
  | with_reducible refine r_iL ?_
  | with_reducible refine r_iR1 ?_
  | with_reducible refine r_iR2 ?_
  | with_reducible refine r_iR3 ?_
  | with_reducible refine r_asgG ?_
  | with_reducible refine r_gSub ?_
  | with_reducible refine r_for ?_
  | with_reducible refine r_smeth ?_
  | with_reducible refine r_par ?_
  | with_reducible refine r_parK ?_
  | with_reducible refine r_gCons ?_
  | with_reducible refine r_gNil ?_
  | with_reducible refine r_gName ?_
  | with_reducible refine r_intI ?_
  | with_reducible refine r_intB ?_
  | with_reducible refine r_absI ?_
  | with_reducible refine r_k ?_
  | with_reducible refine r_kV ?_
  | ((with_reducible show tVar _ _ _ _); refine r_var3 ?_ (by rfl))
  | with_reducible refine r_I0 ?_
  | with_reducible refine r_U ?_
  | with_reducible refine r_eqI ?_
  | with_reducible refine r_neI ?_
  | with_reducible refine r_F ?_
  | dsimp only)))
local macro_rules | `(tactic| walk_at "rx") => `(tactic| (repeat (first
  | with_reducible refine r_next ?_
  | with_reducible refine r_ret ?_
  | with_reducible refine r_ifS ?_
  | with_reducible refine r_asg ?_
  | with_reducible refine r_drop ?_
  | with_reducible refine r_op ?_
  | with_reducible refine r_un ?_
  | with_reducible refine r_cbInt ?_
  | with_reducible refine r_cbAbs ?_
  | with_reducible refine r_cbLen ?_
  | with_reducible refine r_cbList ?_
  | with_reducible refine r_cbTup ?_
  | with_reducible refine r_iEnT ?_
  | with_reducible refine r_iEnL ?_
  | with_reducible refine r_zipA ?_
  | with_reducible refine r_zipX ?_
  | with_reducible refine r_augS ?_
  | with_reducible refine r_cb ?_
  | with_reducible refine r_call ?_
  | with_reducible refine r_make ?_
  | with_reducible refine r_callN0 ?_
  | with_reducible refine r_makeK0 ?_
  | with_reducible refine r_makeS ?_
  | with_reducible refine r_callS ?_
  | with_reducible refine r_cons ?_
  | with_reducible refine r_nil ?_
  | with_reducible refine r_test ?_
  | with_reducible refine r_B ?_
  | with_reducible refine r_and ?_
  | with_reducible refine r_or ?_
  | with_reducible refine r_not ?_
  | with_reducible refine r_andV ?_
  | with_reducible refine r_orV ?_
  | with_reducible refine r_notV ?_
  | with_reducible refine r_if ?_
  | with_reducible refine r_tup ?_
  | with_reducible refine r_lst ?_
  | with_reducible refine r_c ?_
  | with_reducible refine r_lc ?_
  | with_reducible refine r_chain ?_
  | with_reducible refine r_iT ?_
  | with_reducible refine r_iL ?_
  | with_reducible refine r_iR1 ?_
  | with_reducible refine r_iR2 ?_
  | with_reducible refine r_iR3 ?_
  | with_reducible refine r_asgG ?_
  | with_reducible refine r_gSub ?_
  | with_reducible refine r_for ?_
  | with_reducible refine r_smeth ?_
  | with_reducible refine r_par ?_
  | with_reducible refine r_parK ?_
  | with_reducible refine r_gCons ?_
  | with_reducible refine r_gNil ?_
  | with_reducible refine r_gName ?_
  | with_reducible refine r_intI ?_
  | with_reducible refine r_intB ?_
  | with_reducible refine r_absI ?_
  | with_reducible refine r_k ?_
  | with_reducible refine r_kV ?_
  | ((with_reducible show tVar _ _ _ _); refine r_var3 ?_ (by rfl))
  | with_reducible refine r_I0 ?_
  | with_reducible refine r_U ?_
  | with_reducible refine r_eqI ?_
  | with_reducible refine r_neI ?_
  | with_reducible refine r_F ?_
  | dsimp only)))
/-! ### items -/
def spItems (K : PySem.W.Frag) : Sp := sp1 fun v H Q E => (∃ ys : List Str, v = .str (Txt.join (Str.ofString " ") ys) ∧ ys ≠ [] ∧ (∀ y ∈ ys, 32 ∉ tl y) ∧ (Txt.join (Str.ofString " ") ys).length ≤ 20000 ∧ ∀ p H', Ex H H' → H' p = some (.lst (ys.map V.str)) → Q (.ref p) H') ∨
  ((∃ t, TyX K H v t ∧ PySem.W.kitOne K t (.type "str") = some false) ∧ Stop K 0 H E)
theorem ok_items_of {P : Program} {w : World} {K : PySem.W.Frag} {mg : Str → Option Value} {base : Heap} (T : Txt K mg) : ∃ fd, FnOk P w K mg base (L2.CX P w) 3 (He.ga K "items_of") fd ["text"] (spItems K) ∧ Binds K fd ["text"] [] := by
  obtain ⟨fd, F⟩ := T.d_items_of
  obtain ⟨fd_BadText_init, F_BadText_init, B_BadText_init⟩ := ok_BadText_init (P := P) (w := w) (base := base) T
  refine ⟨fd, F.ok sc_items_of sp1_len (fun cdv A outer s H vs Q E hr h => ?_), F.bindsN fun _ _ _ _ _ _ us hl => match us, hl with | [_], _ => rfl⟩
  have hr_BadText_init : Room 2 _ := hr.mono (by decide)
  obtain ⟨v, rfl, h⟩ := sp1_is h
  refine ⟨_, (pss_cons (ps_if (pt_not (pt_val (pe_callB (cr_isi rfl) (by rfl) T.b_isinstance (by decide +kernel) (pa_cons (pv 0) (pa_cons (pe_bltn (v := .ty "str") (by rfl) T.b_str (by decide +kernel) rfl) pa_nil))))) (pss_one (ps_raise rfl (takes_of rfl rfl rfl rfl) (pmk_oex T.e_BadText.o T.e_BadText.i T.e_BadText.t F_BadText_init hr_BadText_init B_BadText_init .nil passL rfl T.g_BadText (pa_cons pe_int (pa_cons pe_int pa_nil))))) pss_nil)
      (pss_one (ps_ret (pe_split (pv 0) pe_str)))), ?_⟩
  walk_at "rd"
  rcases h with ⟨ys, rfl, hne, hf, hl, k⟩ | ⟨⟨t, ht, hk⟩, k⟩
  · refine ⟨_, _, _, _, true, rfl, .ty "str", .base (.str _), kit_ty (by decide +kernel), ?_⟩
    walk_at "rd"
    refine ite_f rfl ?_
    walk_at "rd"
    refine ⟨_, rfl, ⟨_, rfl⟩, ?_⟩
    refine ⟨_, _, rfl, rfl, rfl, sz_le (by omega), fun p hp => ?_⟩
    have e : Txt.split (Txt.join (Str.ofString " ") ys) (Str.ofString " ") = ys := split_join (y := Str.ofString " ") (s := 32) (S := []) rfl (by decide +kernel) hne hf
    rw [e]
    exact k p _ (Ex.new hp) upd_same
  · refine ⟨_, _, _, _, false, rfl, .ty "str", ht, hk, ?_⟩
    walk_at "rd"
    refine ite_t rfl ?_
    walk_at "rd"
    exact r_errB (n := 0) rfl rfl k
def spIntAt (K : PySem.W.Frag) : Sp := sp4 fun a b l m H Q E => ∃ (p : Addr) (ys : List Str) (j : Nat) (l' m' : Option Int), a = .ref p ∧ SqL K H p (ys.map V.str) ∧ b = .int (j : Nat) ∧ bnd l = some l' ∧ bnd m = some m' ∧ (∀ y ∈ ys, y.length ≤ 1000) ∧
  (ys.length ≤ j → Stop K j H E) ∧ ∀ z, ys[j]? = some z → (ntB z = false → Stop K j H E) ∧ (ntB z = true → ∃ i, z = nS i ∧ i.natAbs < 10 ^ 60 ∧ (inB (.int i) l' m' = true → ∀ H', Ex H H' → Q (.int i) H') ∧ (inB (.int i) l' m' = false → Stop K j H E))
theorem ok_integer_at {P : Program} {w : World} {K : PySem.W.Frag} {mg : Str → Option Value} {base : Heap} (T : Txt K mg) : ∃ fd, FnOk P w K mg base (L2.CX P w) 3 (He.ga K "integer_at") fd ["items", "at", "least", "most"] (spIntAt K) ∧ Binds K fd ["items", "at", "least", "most"] [] := by
  obtain ⟨fd, F⟩ := T.d_integer_at
  obtain ⟨fd_is_within, F_is_within, B_is_within⟩ := ok_is_within (P := P) (w := w) (base := base) T
  obtain ⟨fd_BadText_init, F_BadText_init, B_BadText_init⟩ := ok_BadText_init (P := P) (w := w) (base := base) T
  obtain ⟨fd_is_integer_text, F_is_integer_text, B_is_integer_text⟩ := ok_is_integer_text (P := P) (w := w) (base := base) T
  refine ⟨fd, F.ok sc_integer_at sp4_len (fun cdv A outer s H vs Q E hr h => ?_), F.bindsN fun _ _ _ _ _ _ us hl => match us, hl with | [_, _, _, _], _ => rfl⟩
  have hr_is_within : Room 2 _ := hr.mono (by decide)
  have hr_BadText_init : Room 2 _ := hr.mono (by decide)
  have hr_is_integer_text : Room 1 _ := hr.mono (by decide)
  obtain ⟨a, b, l, m, rfl, p, ys, j, l', m', rfl, hp, rfl, hl, hm, hy, k0, k⟩ := sp4_is h
  refine ⟨_, (pss_cons (ps_if (PW.pt (pw_or (pt_cmpR op_ge (pv 1) (pe_callB (kx_lens rfl) (by rfl) T.b_len PySem.boot_len (pa_cons (pv 0) pa_nil)) (nomark _)) (pw_or1 (pt_not (pt_val (pe_call F_is_integer_text hr_is_integer_text (by rfl) T.g_is_integer_text T.k_is_integer_text B_is_integer_text .nil passL (pa_cons (pe_ix (kx_ixl rfl) (pv 0) (pv 1) (fun _ _ => rfl)) pa_nil))))))) (pss_one (ps_raise rfl (takes_of rfl rfl rfl rfl) (pmk_oex T.e_BadText.o T.e_BadText.i T.e_BadText.t F_BadText_init hr_BadText_init B_BadText_init .nil passL rfl T.g_BadText (pa_cons pe_int (pa_cons (pv 1) pa_nil))))) pss_nil)
      (pss_cons (ps_set (i := 4) sc_integer_at.nd rfl (Or.inl rfl) (pe_callTy call_int_str (by rfl) T.b_int (by decide +kernel) (pa_cons (pe_ix (kx_ixl rfl) (pv 0) (pv 1) (fun _ _ => rfl)) pa_nil)))
      (pss_cons (ps_if (pt_not (pt_val (pe_call F_is_within hr_is_within (by rfl) T.g_is_within T.k_is_within B_is_within .nil passL (pa_cons (pv 4) (pa_cons (pv 2) (pa_cons (pv 3) pa_nil)))))) (pss_one (ps_raise rfl (takes_of rfl rfl rfl rfl) (pmk_oex T.e_BadText.o T.e_BadText.i T.e_BadText.t F_BadText_init hr_BadText_init B_BadText_init .nil passL rfl T.g_BadText (pa_cons pe_int (pa_cons (pv 1) pa_nil))))) pss_nil)
      (pss_one (ps_ret (pv 4)))))), ?_⟩
  walk_at "rd"
  refine ⟨_, _, rfl, .inl hp, ?_⟩
  walk_at "rd"
  rcases Nat.lt_or_ge j ys.length with c | c
  · have hz : ys[j]? = some ys[j] := by simp [c]
    generalize ys[j] = z at hz
    have hat : atI (ys.map V.str) ((j : Nat) : Int) = some (.str z) := atI_nat (by rw [List.getElem?_map, hz]; rfl)
    obtain ⟨k1, k2⟩ := k z hz
    refine ite_f (by simp; omega) ?_
    walk_at "rd"
    refine ⟨_, _, _, _, rfl, rfl, hp, hat, ?_⟩
    walk_at "rd"
    refine ⟨z, rfl, hy z (List.mem_of_getElem? hz), fun H' e => ?_⟩
    walk_at "rd"
    cases hn : ntB z with
    | false =>
      refine ite_t rfl ?_
      walk_at "rd"
      exact ⟨_, rfl, r_errB rfl rfl ((k1 hn).ex e)⟩
    | true =>
      obtain ⟨i, rfl, hi, q1, q2⟩ := k2 hn
      refine ite_f rfl ?_
      walk_at "rd"
      refine ⟨_, _, _, _, rfl, rfl, e.sql hp, hat, ?_⟩
      walk_at "rd"
      have hz := nS_len (k := 60) (by decide) hi
      refine ⟨_, i, rfl, nS_int (Nat.lt_of_lt_of_le hi (Nat.pow_le_pow_right (by decide) (by decide))), by omega, ?_⟩
      walk_at "rd"
      refine ⟨kn_int i, l', m', hl, hm, ?_⟩
      cases hb : inB (.int i) l' m' with
      | true =>
        refine ⟨_, rfl, ite_f rfl ?_⟩
        walk_at "rd"
        exact q1 hb H' e
      | false =>
        refine ⟨_, rfl, ite_t rfl ?_⟩
        walk_at "rd"
        exact ⟨_, rfl, r_errB rfl rfl ((q2 hb).ex e)⟩
  · refine ite_t (by simp; omega) ?_
    refine ite_t rfl ?_
    walk_at "rd"
    exact ⟨_, rfl, r_errB rfl rfl (k0 c)⟩
def spNeedEnd (K : PySem.W.Frag) : Sp := sp2 fun a b H Q E => ∃ (p : Addr) (xs : List V) (j : Nat), a = .ref p ∧ SqL K H p xs ∧ b = .int (j : Nat) ∧ (xs.length ≤ j → Q .non H) ∧ (j < xs.length → Stop K j H E)
theorem ok_need_end {P : Program} {w : World} {K : PySem.W.Frag} {mg : Str → Option Value} {base : Heap} (T : Txt K mg) : ∃ fd, FnOk P w K mg base (L2.CX P w) 3 (He.ga K "need_end") fd ["items", "many"] (spNeedEnd K) ∧ Binds K fd ["items", "many"] [] := by
  obtain ⟨fd, F⟩ := T.d_need_end
  obtain ⟨fd_BadText_init, F_BadText_init, B_BadText_init⟩ := ok_BadText_init (P := P) (w := w) (base := base) T
  refine ⟨fd, F.ok sc_need_end sp2_len (fun cdv A outer s H vs Q E hr h => ?_), F.bindsN fun _ _ _ _ _ _ us hl => match us, hl with | [_, _], _ => rfl⟩
  have hr_BadText_init : Room 2 _ := hr.mono (by decide)
  obtain ⟨a, b, rfl, p, xs, j, rfl, hp, rfl, k1, k2⟩ := sp2_is h
  refine ⟨_, (pss_one (ps_if (pt_cmpR op_gt (pe_callB (kx_lens rfl) (by rfl) T.b_len PySem.boot_len (pa_cons (pv 0) pa_nil)) (pv 1) (nomark _)) (pss_one (ps_raise rfl (takes_of rfl rfl rfl rfl) (pmk_oex T.e_BadText.o T.e_BadText.i T.e_BadText.t F_BadText_init hr_BadText_init B_BadText_init .nil passL rfl T.g_BadText (pa_cons pe_int (pa_cons (pv 1) pa_nil))))) pss_nil)), ?_⟩
  walk_at "rd"
  refine ⟨_, _, rfl, .inl hp, ?_⟩
  walk_at "rd"
  by_cases c : j < xs.length
  · refine ite_t (by simp; omega) ?_
    walk_at "rd"
    exact ⟨_, rfl, r_errB rfl rfl (k2 c)⟩
  · refine ite_f (by simp; omega) ?_
    walk_at "rd"
    exact k1 (by omega)
def spNeedItem (K : PySem.W.Frag) : Sp := sp3 fun a b w H Q E => ∃ (p : Addr) (ys : List Str) (j : Nat) (z : Str), a = .ref p ∧ SqL K H p (ys.map V.str) ∧ b = .int (j : Nat) ∧ w = .str z ∧ (ys[j]? = some z → Q .non H) ∧ (ys[j]? ≠ some z → Stop K j H E)
theorem ok_need_item {P : Program} {w : World} {K : PySem.W.Frag} {mg : Str → Option Value} {base : Heap} (T : Txt K mg) : ∃ fd, FnOk P w K mg base (L2.CX P w) 3 (He.ga K "need_item") fd ["items", "at", "word"] (spNeedItem K) ∧ Binds K fd ["items", "at", "word"] [] := by
  obtain ⟨fd, F⟩ := T.d_need_item
  obtain ⟨fd_BadText_init, F_BadText_init, B_BadText_init⟩ := ok_BadText_init (P := P) (w := w) (base := base) T
  refine ⟨fd, F.ok sc_need_item sp3_len (fun cdv A outer s H vs Q E hr h => ?_), F.bindsN fun _ _ _ _ _ _ us hl => match us, hl with | [_, _, _], _ => rfl⟩
  have hr_BadText_init : Room 2 _ := hr.mono (by decide)
  obtain ⟨a, b, w', rfl, p, ys, j, z, rfl, hp, rfl, rfl, k1, k2⟩ := sp3_is h
  refine ⟨_, (pss_one (ps_if (PW.pt (pw_or (pt_cmpR op_ge (pv 1) (pe_callB (kx_lens rfl) (by rfl) T.b_len PySem.boot_len (pa_cons (pv 0) pa_nil)) (nomark _)) (pw_or1 (pt_cmpR op_ne (pe_ix (kx_ixl rfl) (pv 0) (pv 1) (fun _ _ => rfl)) (pv 2) (nomark _))))) (pss_one (ps_raise rfl (takes_of rfl rfl rfl rfl) (pmk_oex T.e_BadText.o T.e_BadText.i T.e_BadText.t F_BadText_init hr_BadText_init B_BadText_init .nil passL rfl T.g_BadText (pa_cons pe_int (pa_cons (pv 1) pa_nil))))) pss_nil)), ?_⟩
  walk_at "rd"
  refine ⟨_, _, rfl, .inl hp, ?_⟩
  walk_at "rd"
  rcases Nat.lt_or_ge j ys.length with c | c
  · have hz : ys[j]? = some ys[j] := by simp [c]
    generalize ys[j] = y at hz
    have hat : atI (ys.map V.str) ((j : Nat) : Int) = some (.str y) := atI_nat (by rw [List.getElem?_map, hz]; rfl)
    refine ite_f (by simp; omega) ?_
    walk_at "rd"
    refine ⟨_, _, _, _, rfl, rfl, hp, hat, ?_⟩
    walk_at "rd"
    refine r_ne rfl ?_
    walk_at "rd"
    by_cases cz : y = z
    · subst cz
      refine ite_f (by simp) ?_
      walk_at "rd"
      exact k1 hz
    · refine ite_t (by simp [cz]) ?_
      walk_at "rd"
      exact ⟨_, rfl, r_errB rfl rfl (k2 (by rw [hz]; simpa using cz))⟩
  · refine ite_t (by simp; omega) ?_
    refine ite_t rfl ?_
    walk_at "rd"
    exact ⟨_, rfl, r_errB rfl rfl (k2 (by rw [List.getElem?_eq_none c]; simp))⟩

end K31
namespace K31
open PySem PySem.Spec PyProof.Rows L2 GS TL
local macro_rules | `(tactic| walk_at "rd") => `(tactic| (repeat (first
  | with_reducible refine r_next ?_
  | with_reducible refine r_seq ?_
  | with_reducible refine r_ret ?_
  | with_reducible refine r_ifS ?_
  | with_reducible refine r_asg ?_
  | with_reducible refine r_drop ?_
  | with_reducible refine r_op ?_
  | with_reducible refine r_un ?_
  | with_reducible refine r_cbInt ?_
  | with_reducible refine r_cbAbs ?_
  | with_reducible refine r_cbLen ?_
  | with_reducible refine r_cbList ?_
  | with_reducible refine r_cbTup ?_
  | with_reducible refine r_iEnT ?_
  | with_reducible refine r_iEnL ?_
  | with_reducible refine r_zipA ?_
  | with_reducible refine r_zipX ?_
  | with_reducible refine r_augS ?_
  | with_reducible refine r_cb ?_
  | with_reducible refine r_call ?_
  | with_reducible refine r_make ?_
  | with_reducible refine r_callN0 ?_
  | with_reducible refine r_makeK0 ?_
  | with_reducible refine r_makeS ?_
  | with_reducible refine r_callS ?_
  | with_reducible refine r_cons ?_
  | with_reducible refine r_nil ?_
  | with_reducible refine r_test ?_
  | with_reducible refine r_B ?_
  | with_reducible refine r_and ?_
  | with_reducible refine r_or ?_
  | with_reducible refine r_not ?_
  | with_reducible refine r_andV ?_
  | with_reducible refine r_orV ?_
  | with_reducible refine r_notV ?_
  | with_reducible refine r_if ?_
  | with_reducible refine r_tup ?_
  | with_reducible refine r_lst ?_
  | with_reducible refine r_c ?_
  | with_reducible refine r_lc ?_
  | with_reducible refine r_chain ?_
  | with_reducible refine r_iT ?_
  | with_reducible refine r_iL ?_
  | with_reducible refine r_iR1 ?_
  | with_reducible refine r_iR2 ?_
  | with_reducible refine r_iR3 ?_
  | with_reducible refine r_asgG ?_
  | with_reducible refine r_gSub ?_
  | with_reducible refine r_for ?_
  | with_reducible refine r_smeth ?_
  | with_reducible refine r_par ?_
  | with_reducible refine r_parK ?_
  | with_reducible refine r_gCons ?_
  | with_reducible refine r_gNil ?_
  | with_reducible refine r_gName ?_
  | with_reducible refine r_intI ?_
  | with_reducible refine r_intB ?_
  | with_reducible refine r_absI ?_
  | with_reducible refine r_k ?_
  | with_reducible refine r_kV ?_
  | ((with_reducible show tVar _ _ _ _); refine r_var3 ?_ (by rfl))
  | with_reducible refine r_I0 ?_
  | with_reducible refine r_U ?_
  | with_reducible refine r_eqI ?_
  | with_reducible refine r_neI ?_
  | dsimp only)))
local macro_rules | `(tactic| walk_at "rx") => `(tactic| (repeat (first
  | with_reducible refine r_next ?_
  | with_reducible refine r_ret ?_
  | with_reducible refine r_ifS ?_
  | with_reducible refine r_asg ?_
  | with_reducible refine r_drop ?_
  | with_reducible refine r_op ?_
  | with_reducible refine r_un ?_
  | with_reducible refine r_cbInt ?_
  | with_reducible refine r_cbAbs ?_
  | with_reducible refine r_cbLen ?_
  | with_reducible refine r_cbList ?_
  | with_reducible refine r_cbTup ?_
  | with_reducible refine r_iEnT ?_
  | with_reducible refine r_iEnL ?_
  | with_reducible refine r_zipA ?_
  | with_reducible refine r_zipX ?_
  | with_reducible refine r_augS ?_
  | with_reducible refine r_cb ?_
  | with_reducible refine r_call ?_
  | with_reducible refine r_make ?_
  | with_reducible refine r_callN0 ?_
  | with_reducible refine r_makeK0 ?_
  | with_reducible refine r_makeS ?_
  | with_reducible refine r_callS ?_
  | with_reducible refine r_cons ?_
  | with_reducible refine r_nil ?_
  | with_reducible refine r_test ?_
  | with_reducible refine r_B ?_
  | with_reducible refine r_and ?_
  | with_reducible refine r_or ?_
  | with_reducible refine r_not ?_
  | with_reducible refine r_andV ?_
  | with_reducible refine r_orV ?_
  | with_reducible refine r_notV ?_
  | with_reducible refine r_if ?_
  | with_reducible refine r_tup ?_
  | with_reducible refine r_lst ?_
  | with_reducible refine r_c ?_
  | with_reducible refine r_lc ?_
  | with_reducible refine r_chain ?_
  | with_reducible refine r_iT ?_
  | with_reducible refine r_iL ?_
  | with_reducible refine r_iR1 ?_
  | with_reducible refine r_iR2 ?_
  | with_reducible refine r_iR3 ?_
  | with_reducible refine r_asgG ?_
  | with_reducible refine r_gSub ?_
  | with_reducible refine r_for ?_
  | with_reducible refine r_smeth ?_
  | with_reducible refine r_par ?_
  | with_reducible refine r_parK ?_
  | with_reducible refine r_gCons ?_
  | with_reducible refine r_gNil ?_
  | with_reducible refine r_gName ?_
  | with_reducible refine r_intI ?_
  | with_reducible refine r_intB ?_
  | with_reducible refine r_absI ?_
  | with_reducible refine r_k ?_
  | with_reducible refine r_kV ?_
  | ((with_reducible show tVar _ _ _ _); refine r_var3 ?_ (by rfl))
  | with_reducible refine r_I0 ?_
  | with_reducible refine r_U ?_
  | with_reducible refine r_eqI ?_
  | with_reducible refine r_neI ?_
  | dsimp only)))
/-! ### writing -/
def spIntText (K : PySem.W.Frag) : Sp := sp1 fun v H Q _ => ∃ i, v = .int i ∧ i.natAbs < 10 ^ 60 ∧ ∀ H', Ex H H' → Q (.str (nS i)) H'
theorem ok_integer_text {P : Program} {w : World} {K : PySem.W.Frag} {mg : Str → Option Value} {base : Heap} (T : Txt K mg) : ∃ fd, FnOk P w K mg base (L2.CX P w) 1 (He.ga K "integer_text") fd ["number"] (spIntText K) ∧ Binds K fd ["number"] [] := by
  obtain ⟨fd, F⟩ := T.d_integer_text
  refine ⟨fd, F.ok sc_integer_text sp1_len (fun cdv A outer s H vs Q E hr h => ?_), F.bindsN fun _ _ _ _ _ _ us hl => match us, hl with | [_], _ => rfl⟩
  obtain ⟨v, rfl, i, rfl, hi, k⟩ := sp1_is h
  refine ⟨_, (pss_cons (ps_set (i := 1) sc_integer_text.nd rfl (Or.inl rfl) (pe_op op_powW pe_int pe_int))
      (pss_cons (ps_set (i := 2) sc_integer_text.nd rfl (Or.inl rfl) (pe_callB call_abs (by rfl) T.b_abs (by decide +kernel) (pa_cons (pv 0) pa_nil)))
      (pss_cons (ps_set (i := 3) sc_integer_text.nd rfl (Or.inl rfl) (pe_lst pa_nil))
      (pss_cons (ps_while (passes_of rfl) (pt_cmpR op_ge (pv 2) (pv 1) (nomark _)) (pss_cons (ps_set (i := 3) sc_integer_text.nd rfl (Or.inl rfl) (pe_op op_cat (pe_lst (pa_cons (pe_bm PySem.F.plainAttrs_str PySem.F.slot_str_zfill PySem.F.type_str_zfill mt_zfill (pe_callTy call_str_int (by rfl) T.b_str (by decide +kernel) (pa_cons (pe_op op_mod (pv 2) (pv 1)) pa_nil)) (pa_cons pe_int pa_nil)) pa_nil)) (pv 3)))
      (pss_one (ps_set (i := 2) sc_integer_text.nd rfl (Or.inl rfl) (pe_op op_fdivW (pv 2) (pv 1))))))
      (pss_cons (ps_set (i := 4) sc_integer_text.nd rfl (Or.inl rfl) (pe_ifExp (pt_cmpR op_lt (pv 0) pe_int (nomark _)) pe_str pe_str))
      (pss_one (ps_ret (pe_op op_add_str (pe_op op_add_str (pv 4) (pe_callTy call_str_int (by rfl) T.b_str (by decide +kernel) (pa_cons (pv 2) pa_nil))) (pe_join pe_str (pv 3)))))))))), ?_⟩
  walk_at "rd"
  refine r_I (show CPowW 10 64 from cpow_of (k := 64) (n := 4) (by decide) (by decide)) ?_
  walk_at "rd"
  refine r_newL (Nat.zero_le _) fun p H1 hp e1' h1 => ?_
  walk_at "rd"
  refine ⟨fun _ σ' H' => σ' = _ ∧ H' = H1, ⟨0, rfl, rfl⟩, fun m σ' H' hz => ?_⟩
  obtain ⟨z1, z2⟩ := hz
  rw [z1, z2]
  walk_at "rd"
  refine ite_f (by
    refine decide_eq_false ?_
    have : (10 : Int) ^ (64 : Int).toNat = 10 ^ 64 := rfl
    rw [this]
    have : ((10 : Nat) ^ 60 : Nat) < 10 ^ 64 := by decide
    split <;> omega) ?_
  walk_at "rd"
  refine r_pickS (i := Str.ofString "-") (j := Str.ofString "") (fun Q q => q) (fun Q q => q) ?_
  walk_at "rd"
  refine ⟨_, rfl, ?_, ?_⟩
  · have : (if i < 0 then -i else i).natAbs = i.natAbs := by split <;> omega
    rw [this]
    have h2 : i.natAbs < 2 ^ 1000 := Nat.lt_of_lt_of_le hi (by decide)
    by_cases z : i.natAbs = 0
    · rw [z]; decide +kernel
    · exact Nat.lt_of_lt_of_le ((Nat.log2_lt z).mpr h2) (by decide)
  have ea : ((if i < 0 then -i else i) : Int) = (i.natAbs : Int) := by split <;> omega
  have hz := nS_len (i := (i.natAbs : Int)) (k := 60) (by decide) (by simpa using hi)
  rw [ea]
  refine ⟨_, _, rfl, rfl, ?_, ?_⟩
  · have h5 : (nS (i.natAbs : Int)).length ≤ 61 := hz
    refine sz_le ?_
    have h6 : (if i < 0 then Str.ofString "-" else Str.ofString "").length ≤ 1 := by split <;> decide
    show _ + (nS (i.natAbs : Int)).length ≤ _
    omega
  walk_at "rd"
  refine ⟨⟨_, rfl⟩, _, rfl, ?_⟩
  refine ⟨_, p, [], rfl, rfl, .inl (SqL.of h1), by decide, ?_⟩
  refine ⟨_, _, rfl, rfl, ?_, ?_⟩
  · refine sz_le ?_
    have h6 : (if i < 0 then Str.ofString "-" else Str.ofString "").length ≤ 1 := by split <;> decide
    have e1 : (Txt.join (Str.ofString "") []).length = 0 := by decide
    rw [e1]
    show ((if i < 0 then Str.ofString "-" else Str.ofString "") ++ nS (i.natAbs : Int)).length + 0 ≤ _
    rw [len_tl, tl_append, List.length_append, ← len_tl, ← len_tl]
    omega
  · have e1 : ((if i < 0 then Str.ofString "-" else Str.ofString "") ++ Str.ofString (toString (i.natAbs : Int))) ++ Txt.join (Str.ofString "") [] = nS i := by
      refine str_ext ?_
      rw [tl_append, show tl (Txt.join (Str.ofString "") []) = [] from rfl, List.append_nil, nS_abs i]
      rfl
    rw [e1]
    exact k H1 e1'
/-- the items of rows -/
def vI (rs : List (List Int)) : List Str := nS (GV.wid rs : Int) :: Str.ofString ":" :: rs.flatten.map nS
def vS (rs : List (List Int)) : Str := Txt.join (Str.ofString " ") (vI rs)
theorem TRw.at {H : Hp} : ∀ {ts : List Addr} {rs : List (List Int)}, TRw H ts rs → ts.length = rs.length ∧ ∀ (j : Nat) (t : Addr), ts[j]? = some t → ∃ r, rs[j]? = some r ∧ H t = some (.tup (r.map V.int))
  | [], [], _ => ⟨rfl, fun j t h => by simp at h⟩
  | t :: ts, r :: rs, h => ⟨by simp [(TRw.at h.2).1], fun j u hu => by
      cases j with
      | zero => cases hu; exact ⟨r, rfl, h.1⟩
      | succ j => exact (TRw.at h.2).2 j u hu⟩
  | [], _ :: _, h => h.elim
  | _ :: _, [], h => h.elim
theorem flat_rows (rs : List (List Int)) : GS.flatV (fun i => (rs.getD i []).map fun c => V.str (nS c)) rs.length = (rs.flatten.map fun c => V.str (nS c)) := by
  unfold GS.flatV
  rw [List.map_flatten]
  refine congrArg List.flatten (List.ext_getElem (by simp) fun i h1 h2 => ?_)
  simp at h1
  simp [h1]
theorem flat_len {n : Nat} : ∀ rs : List (List Int), (∀ r ∈ rs, r.length ≤ n) → rs.flatten.length ≤ rs.length * n
  | [], _ => by simp
  | r :: rs, h => by
    rw [List.flatten_cons, List.length_append, List.length_cons, Nat.succ_mul]
    have := flat_len rs fun r m => h r (List.mem_cons_of_mem _ m)
    have := h r List.mem_cons_self
    omega
theorem sum_len {n : Nat} : ∀ l : List Str, (∀ y ∈ l, y.length ≤ n) → (l.map fun x => x.length).sum ≤ l.length * n
  | [], _ => by simp
  | y :: l, h => by
    rw [List.map_cons, List.sum_cons, List.length_cons, Nat.succ_mul]
    have := sum_len l fun y m => h y (List.mem_cons_of_mem _ m)
    have := h y List.mem_cons_self
    omega
theorem vI_len {rs : List (List Int)} (sh : GV.shR rs) : (vI rs).length ≤ 29 := by
  have := flat_len (n := 3) rs fun r h => by rw [sh.2.2.2.2 r h]; exact sh.2.2.2.1
  have := sh.2.1
  simp only [vI, List.length_cons, List.length_map]
  omega
theorem vI_each {rs : List (List Int)} (sh : GV.shR rs) (hz : ∀ r ∈ rs, ∀ c ∈ r, c.natAbs < 10 ^ 60) : ∀ y ∈ vI rs, y.length ≤ 61 := by
  intro y hy
  simp only [vI, List.mem_cons, List.mem_map] at hy
  rcases hy with rfl | rfl | ⟨c, hc, rfl⟩
  · exact nS_len (k := 60) (by decide) (by have := sh.2.2.2.1; rw [Int.natAbs_natCast]; omega)
  · decide
  · obtain ⟨r, hr, hc⟩ := List.mem_flatten.mp hc
    exact nS_len (k := 60) (by decide) (hz r hr c hc)
def spVStr (K : PySem.W.Frag) : Sp := sp1 fun v H Q _ => ∃ a rs, v = .ref a ∧ Vec K H a rs ∧ (∀ r ∈ rs, ∀ c ∈ r, c.natAbs < 10 ^ 60) ∧ ∀ H', Ex H H' → Q (.str (vS rs)) H'
theorem ok_Vectors_str {P : Program} {w : World} {K : PySem.W.Frag} {mg : Str → Option Value} {base : Heap} (T : Txt K mg) : ∃ fd, FnOk P w K mg base (L2.CX P w) 2 (He.ma K (He.ga K "Vectors") "__str__") fd ["self"] (spVStr K) ∧ Binds K fd ["self"] [] := by
  obtain ⟨fd, F⟩ := T.d_Vectors_str
  obtain ⟨fd_integer_text, F_integer_text, B_integer_text⟩ := ok_integer_text (P := P) (w := w) (base := base) T
  refine ⟨fd, F.ok sc_Vectors_str sp1_len (fun cdv A outer s H vs Q E hr h => ?_), F.bindsN fun _ _ _ _ _ _ us hl => match us, hl with | [_], _ => rfl⟩
  have hr_integer_text : Room 1 _ := hr.mono (by decide)
  obtain ⟨v, rfl, a, rs, rfl, ha, hz, k⟩ := sp1_is h
  refine ⟨_, (pss_one (ps_ret (pe_join pe_str (pe_op op_cat (pe_lst (pa_cons (pe_callTy call_str_int (by rfl) T.b_str (by decide +kernel) (pa_cons (pe_callB (kx_lens rfl) (by rfl) T.b_len PySem.boot_len (pa_cons (pe_ix (kx_ixt rfl) (kx_fld rfl (pv 0) rfl) pe_int (fun _ _ => rfl)) pa_nil)) pa_nil)) (pa_cons pe_str pa_nil))) (pe_lc2 (own := [("row", 1), ("number", 2)]) (vs1 := [2]) (g := gName 1) (tt := tYes) (g1 := gName 2) (tt1 := tYes) rfl sc_Vectors_str.nd (pi_tup (kx_fld rfl (pv 0) rfl)) (blkOk_by (own := [("row", 1), ("number", 2)]) (N := ["self", "row", "number"]) (sc := defScope s_Vectors_str) (by decide +kernel)) (by decide) (fun _ _ _ _ _ => (pg_name (i := 1) sc_Vectors_str.nd rfl (Or.inl rfl))) (fun _ _ _ _ _ => pts_nil) (fun _ _ _ _ _ => (kx_pitup (K := K) rfl (pv 1))) (fun _ _ _ _ _ => (pg_name (i := 2) sc_Vectors_str.nd rfl (Or.inl rfl))) (fun _ _ _ _ _ => pts_nil) (fun _ _ _ _ _ => (pe_call F_integer_text hr_integer_text (by rfl) T.g_integer_text T.k_integer_text B_integer_text .nil passL (pa_cons (pv 2) pa_nil)))))))), ?_⟩
  walk_at "rd"
  refine ⟨⟨_, rfl⟩, ?_⟩
  walk_at "rd"
  refine r_fr T ha fun t0 ts0 h0 g0 => ?_
  obtain ⟨lt, hat⟩ := g0.at
  have sh := ha.1.1
  have l0 : 0 < ts0.length := by rw [lt]; exact sh.1
  obtain ⟨r0, hr0, hrow0⟩ := hat 0 ts0[0] (by simp [l0])
  have hw0 : r0.length = GV.wid rs := sh.2.2.2.2 r0 (List.mem_of_getElem? hr0)
  walk_at "rd"
  refine r_ixT h0 (v := .ref ts0[0]) (atI_nat (j := 0) (by rw [List.getElem?_map]; simp [l0])) ?_
  walk_at "rd"
  refine len_row (.inr hrow0) ?_
  rw [hw0]
  walk_at "rd"
  have w3 := sh.2.2.2.1
  refine ⟨_, rfl, ?_, ?_⟩
  · have h2 : ((GV.wid rs : Nat) : Int).natAbs < 2 ^ 10 := by rw [Int.natAbs_natCast]; omega
    by_cases z : ((GV.wid rs : Nat) : Int).natAbs = 0
    · rw [z]; decide +kernel
    · exact Nat.lt_of_lt_of_le ((Nat.log2_lt z).mpr h2) (by decide)
  walk_at "rd"
  refine r_newL (sz_le (by simp)) fun p1 H1 hp1 e1 h1 => ?_
  refine r_lc2 ?_
  walk_at "rd"
  refine r_fr T (ha.ex e1) fun t1 ts1 h11 g11 => ?_
  refine ⟨t1, rfl, ⟨_, SqT.of h11⟩, ?_⟩
  obtain ⟨lt1, hat1⟩ := g11.at
  refine r_lc2P (n := ts1.length) (k := 1) (k1 := 2) (by simpa using walk_tup (xs := ts1.map V.ref)) (fun i => (rs.getD i []).map fun c => V.str (nS c)) (by have := sh.2.1; omega) (fun i hi => ?_) (fun H' e => SqT.of (e _ _ h11)) (fun _ => rfl) (fun _ _ => rfl) ?_ ?_
  · rw [List.length_map]
    have hi' : i < rs.length := by omega
    have := sh.2.2.2.2 (rs.getD i []) (by rw [List.getD_eq_getElem?_getD]; simp [hi'])
    omega
  · rintro i y H2 H3 hi e2 ⟨rfl, hy⟩
    obtain ⟨t, ht, rfl⟩ := ref_at hy
    obtain ⟨r, hr, hrow⟩ := hat1 i t ht
    have eg : rs.getD i [] = r := by rw [List.getD_eq_getElem?_getD, hr]; rfl
    refine ⟨Ex.refl _, fun R kR => ?_⟩
    refine ⟨_, rfl, t, rfl, ⟨_, SqT.of (e2 _ _ hrow)⟩, kR _ ⟨_, _, by rw [eg]; simpa using walk_tup (xs := r.map V.int), fun H5 e5 => SqT.of (e5 _ _ hrow), ?_⟩⟩
    rintro j z H5 H6 hj e5 ⟨rfl, hz'⟩
    obtain ⟨c, hc, rfl⟩ := int_at hz'
    refine ⟨Ex.refl _, fun N hN => ?_⟩
    walk_at "rd"
    refine ⟨c, rfl, hz r (List.mem_of_getElem? hr) c (List.mem_of_getElem? hc), fun H7 e7 => ?_⟩
    have e : (((rs.getD i []).map fun c => V.str (nS c)).getD j V.non) = .str (nS c) := by
      rw [eg, List.getD_eq_getElem?_getD, List.getElem?_map, hc]
      rfl
    have := hN H7 e7
    rw [e] at this
    exact this
  · intro D H2 hD e2 hl
    rw [lt1, flat_rows] at hl
    have vl := vI_len sh
    have e : ([V.str (Str.ofString (toString ((GV.wid rs : Nat) : Int))), V.str (Str.ofString ":")] ++ rs.flatten.map fun c => V.str (nS c)) = (vI rs).map V.str := by
      simp only [vI, List.map_cons, List.map_map]
      rfl
    refine ⟨p1, D, _, _, rfl, rfl, e2 _ _ h1, hl, ?_, fun q hq => ?_⟩
    · refine sz_le ?_
      have : (vI rs).length = 2 + (rs.flatten.map fun c => V.str (nS c)).length := by simp only [vI, List.length_cons, List.length_map]; omega
      simp only [List.length_cons, List.length_nil]
      omega
    · refine ⟨_, q, vI rs, rfl, rfl, .inl (SqL.of ?_), ?_, k _ ((e1.trans e2).trans (Ex.new hq))⟩
      · rw [upd_same, e]
      · have := sum_len (n := 61) (vI rs) (vI_each sh hz)
        rw [show (Str.ofString " ").length = 1 from rfl, Nat.mul_one]
        omega

end K31
namespace K31
open PySem PySem.Spec PyProof.Rows L2 GS TL
local macro_rules | `(tactic| walk_at "rd") => `(tactic| (repeat (first
  | with_reducible refine r_next ?_
  | with_reducible refine r_seq ?_
  | with_reducible refine r_ret ?_
  | with_reducible refine r_ifS ?_
  | with_reducible refine r_asg ?_
  | with_reducible refine r_drop ?_
  | with_reducible refine r_op ?_
  | with_reducible refine r_un ?_
  | with_reducible refine r_cbInt ?_
  | with_reducible refine r_cbAbs ?_
  | with_reducible refine r_cbLen ?_
  | with_reducible refine r_cbList ?_
  | with_reducible refine r_cbTup ?_
  | with_reducible refine r_iEnT ?_
  | with_reducible refine r_iEnL ?_
  | with_reducible refine r_zipA ?_
  | with_reducible refine r_zipX ?_
  | with_reducible refine r_augS ?_
  | with_reducible refine r_cb ?_
  | with_reducible refine r_call ?_
  | with_reducible refine r_make ?_
  | with_reducible refine r_callN0 ?_
  | with_reducible refine r_makeK0 ?_
  | with_reducible refine r_makeS ?_
  | with_reducible refine r_callS ?_
  | with_reducible refine r_cons ?_
  | with_reducible refine r_nil ?_
  | with_reducible refine r_test ?_
  | with_reducible refine r_B ?_
  | with_reducible refine r_and ?_
  | with_reducible refine r_or ?_
  | with_reducible refine r_not ?_
  | with_reducible refine r_andV ?_
  | with_reducible refine r_orV ?_
  | with_reducible refine r_notV ?_
  | with_reducible refine r_if ?_
  | with_reducible refine r_tup ?_
  | with_reducible refine r_lst ?_
  | with_reducible refine r_c ?_
  | with_reducible refine r_lc ?_
  | with_reducible refine r_chain ?_
  | with_reducible refine r_iT ?_
  | with_reducible refine r_iL ?_
  | with_reducible refine r_iR1 ?_
  | with_reducible refine r_iR2 ?_
  | with_reducible refine r_iR3 ?_
  | with_reducible refine r_asgG ?_
  | with_reducible refine r_gSub ?_
  | with_reducible refine r_for ?_
  | with_reducible refine r_smeth ?_
  | with_reducible refine r_par ?_
  | with_reducible refine r_parK ?_
  | with_reducible refine r_gCons ?_
  | with_reducible refine r_gNil ?_
  | with_reducible refine r_gName ?_
  | with_reducible refine r_intI ?_
  | with_reducible refine r_intB ?_
  | with_reducible refine r_absI ?_
  | with_reducible refine r_k ?_
  | with_reducible refine r_kV ?_
  | ((with_reducible show tVar _ _ _ _); refine r_var3 ?_ (by rfl))
  | with_reducible refine r_I0 ?_
  | with_reducible refine r_U ?_
  | with_reducible refine r_eqI ?_
  | with_reducible refine r_neI ?_
  | with_reducible refine r_F ?_
  | dsimp only)))
local macro_rules | `(tactic| walk_at "rx") => `(tactic| (repeat (first
  | with_reducible refine r_next ?_
  | with_reducible refine r_ret ?_
  | with_reducible refine r_ifS ?_
  | with_reducible refine r_asg ?_
  | with_reducible refine r_drop ?_
  | with_reducible refine r_op ?_
  | with_reducible refine r_un ?_
  | with_reducible refine r_cbInt ?_
  | with_reducible refine r_cbAbs ?_
  | with_reducible refine r_cbLen ?_
  | with_reducible refine r_cbList ?_
  | with_reducible refine r_cbTup ?_
  | with_reducible refine r_iEnT ?_
  | with_reducible refine r_iEnL ?_
  | with_reducible refine r_zipA ?_
  | with_reducible refine r_zipX ?_
  | with_reducible refine r_augS ?_
  | with_reducible refine r_cb ?_
  | with_reducible refine r_call ?_
  | with_reducible refine r_make ?_
  | with_reducible refine r_callN0 ?_
  | with_reducible refine r_makeK0 ?_
  | with_reducible refine r_makeS ?_
  | with_reducible refine r_callS ?_
  | with_reducible refine r_cons ?_
  | with_reducible refine r_nil ?_
  | with_reducible refine r_test ?_
  | with_reducible refine r_B ?_
  | with_reducible refine r_and ?_
  | with_reducible refine r_or ?_
  | with_reducible refine r_not ?_
  | with_reducible refine r_andV ?_
  | with_reducible refine r_orV ?_
  | with_reducible refine r_notV ?_
  | with_reducible refine r_if ?_
  | with_reducible refine r_tup ?_
  | with_reducible refine r_lst ?_
  | with_reducible refine r_c ?_
  | with_reducible refine r_lc ?_
  | with_reducible refine r_chain ?_
  | with_reducible refine r_iT ?_
  | with_reducible refine r_iL ?_
  | with_reducible refine r_iR1 ?_
  | with_reducible refine r_iR2 ?_
  | with_reducible refine r_iR3 ?_
  | with_reducible refine r_asgG ?_
  | with_reducible refine r_gSub ?_
  | with_reducible refine r_for ?_
  | with_reducible refine r_smeth ?_
  | with_reducible refine r_par ?_
  | with_reducible refine r_parK ?_
  | with_reducible refine r_gCons ?_
  | with_reducible refine r_gNil ?_
  | with_reducible refine r_gName ?_
  | with_reducible refine r_intI ?_
  | with_reducible refine r_intB ?_
  | with_reducible refine r_absI ?_
  | with_reducible refine r_k ?_
  | with_reducible refine r_kV ?_
  | ((with_reducible show tVar _ _ _ _); refine r_var3 ?_ (by rfl))
  | with_reducible refine r_I0 ?_
  | with_reducible refine r_U ?_
  | with_reducible refine r_eqI ?_
  | with_reducible refine r_neI ?_
  | with_reducible refine r_F ?_
  | dsimp only)))
/-! ### rows read -/
/-- what the items tell: an integer, or none -/
def ItS (ys : List Str) (vs : List (Option Int)) : Prop := ys.length = vs.length ∧ (∀ y ∈ ys, y.length ≤ 1000) ∧ ∀ (j : Nat) (y : Str) (o : Option Int), ys[j]? = some y → vs[j]? = some o → ntB y = o.isSome ∧ ∀ i, o = some i → y = nS i ∧ i.natAbs < 10 ^ 60
theorem r_app {H : Hp} {Q : VK} {l : Addr} {xs : List V} {y : V} (h : H l = some (.lst xs)) (hl : xs.length < 50000) (q : Q .non (upd H l (.lst (xs ++ [y])))) : rAppend (.ref l) [y] H Q := ⟨l, xs, y, rfl, rfl, h, sz_lt (by omega), q⟩
theorem r_bm {K : PySem.W.Frag} {T : String} {r : V → List V → Hp → VK → Prop} {to : TE} {t : TA} {σ : L2.St} {H : Hp} {Q : VK} (q : to σ H fun x H1 => tyV K T x H1 ∧ t σ H1 fun xs H2 => r x xs H2 Q) : tBM K T r to t σ H Q := q
theorem tyL {K : PySem.W.Frag} {H : Hp} {p : Addr} {xs : List V} (h : H p = some (.lst xs)) : tyV K "list" (.ref p) H := .inl ⟨rfl, _, SqL.of h⟩
def spReadRows (K : PySem.W.Frag) : Sp := sp2 fun a b H Q E => ∃ (p : Addr) (ys : List Str) (vs : List (Option Int)) (d : Nat), a = .ref p ∧ H p = some (.lst (ys.map V.str)) ∧ ItS ys vs ∧ ys.length ≤ 1000 ∧ b = .int (d : Nat) ∧ 1 ≤ d ∧ d ≤ 3 ∧
  (∀ j, GV.rd vs d 9 0 = .inl j → Stop K j H E) ∧ ∀ n, GV.rd vs d 9 0 = .inr n → ∀ q cs H', Ex H H' → H' q = some (.lst (cs.map V.ref)) → LA H' cs ((List.range n).map fun i => GV.rowAt vs (2 + i * d) d) → Q (.ref q) H'
theorem ok_read_rows {P : Program} {w : World} {K : PySem.W.Frag} {mg : Str → Option Value} {base : Heap} (T : Txt K mg) : ∃ fd, FnOk P w K mg base (L2.CX P w) 4 (He.ga K "read_rows") fd ["items", "length"] (spReadRows K) ∧ Binds K fd ["items", "length"] [] := by
  obtain ⟨fd, F⟩ := T.d_read_rows
  obtain ⟨fd_need_end, F_need_end, B_need_end⟩ := ok_need_end (P := P) (w := w) (base := base) T
  obtain ⟨fd_integer_at, F_integer_at, B_integer_at⟩ := ok_integer_at (P := P) (w := w) (base := base) T
  refine ⟨fd, F.ok sc_read_rows sp2_len (fun cdv A outer s H vs Q E hr h => ?_), F.bindsN fun _ _ _ _ _ _ us hl => match us, hl with | [_, _], _ => rfl⟩
  have hr_need_end : Room 3 _ := hr.mono (by decide)
  have hr_integer_at : Room 3 _ := hr.mono (by decide)
  obtain ⟨a, b, rfl, p, ys, vs, d, rfl, hp, hi, hl, rfl, d1, d3, k1, k2⟩ := sp2_is h
  refine ⟨_, (pss_cons (ps_set (i := 2) sc_read_rows.nd rfl (Or.inl rfl) (pe_lst pa_nil))
      (pss_cons (ps_set (i := 3) sc_read_rows.nd rfl (Or.inr rfl) pe_int)
      (pss_cons (ps_while (passes_of rfl) (PW.pt (pw_and (pt_cmpR op_lt (pv 3) (pe_callB (call_max2 rfl) (by rfl) T.b_max (by decide +kernel) (pa_cons (pe_callB (kx_lens rfl) (by rfl) T.b_len PySem.boot_len (pa_cons (pv 0) pa_nil)) (pa_cons pe_int pa_nil))) (nomark _)) (pw_and1 (pt_cmpR op_lt (pe_callB (kx_lens rfl) (by rfl) T.b_len PySem.boot_len (pa_cons (pv 2) pa_nil)) (pe_gint rfl T.c_MOST_VECTORS) (nomark _))))) (pss_cons (ps_expr (pe_bm PySem.F.plainAttrs_list PySem.F.slot_list_append PySem.F.type_list_append mt_append (pv 2) (pa_cons (pe_lcE (own := [("place", 4)]) (g := gName 4) (tt := tYes)  (takes_of rfl rfl rfl rfl) (fun _ _ _ _ h => h) rfl rfl rfl sc_read_rows.nd (pi_range1 (by rfl) T.b_range (pa_cons (pv 1) pa_nil)) (blkOk_by (own := [("place", 4)]) (N := ["items", "length", "rows", "at", "place"]) (sc := defScope s_read_rows) (by decide +kernel)) (fun _ _ _ _ _ => (pg_name (i := 4) sc_read_rows.nd rfl (Or.inl rfl))) (fun _ _ _ _ _ => pts_nil) (fun _ _ _ _ _ _ _ po => (pe_call F_integer_at hr_integer_at (by rfl) T.g_integer_at T.k_integer_at B_integer_at .nil po (pa_cons (pv 0) (pa_cons (pe_op op_add (pv 3) (pv 4)) (pa_cons pe_non (pa_cons pe_non pa_nil))))))) pa_nil)))
      (pss_one (ps_set (i := 3) sc_read_rows.nd rfl (Or.inr rfl) (pe_op op_add (pv 3) (pv 1))))))
      (pss_cons (ps_expr (pe_call F_need_end hr_need_end (by rfl) T.g_need_end T.k_need_end B_need_end .nil (passes_call (takes_of rfl rfl rfl rfl) (fun _ _ _ _ h => h)) (pa_cons (pv 0) (pa_cons (pv 3) pa_nil))))
      (pss_one (ps_ret (pv 2))))))), ?_⟩
  walk_at "rd"
  refine r_newL (Nat.zero_le _) fun q H1 hq e1 h1 => ?_
  walk_at "rd"
  refine ⟨fun m σ' H' => ∃ (n : Nat) (cs : List Addr) (s4 : Option V), m = 9 - n ∧ n ≤ 9 ∧ σ' = [some (.ref p), some (.int d), some (.ref q), some (.int ((2 + n * d : Nat) : Int)), s4] ∧ Ex H H' ∧ H' q = some (.lst (cs.map V.ref)) ∧ q ∉ cs ∧ LA H' cs ((List.range n).map fun i => GV.rowAt vs (2 + i * d) d) ∧ GV.rd vs d (9 - n) n = GV.rd vs d 9 0,
    ⟨9, 0, [], none, rfl, by omega, by simp; rfl, e1, h1, by simp, ⟨rfl, fun j t r h => by simp at h⟩, rfl⟩, fun m σ' H' hh => ?_⟩
  obtain ⟨n, cs, s4, rfl, hn, rfl, eH, hq', hqn, hla, hrd⟩ := hh
  have hp' := eH _ _ hp
  have lcs : cs.length = n := by rw [hla.1]; simp
  walk_at "rd"
  refine r_lenL hp' ?_
  walk_at "rd"
  refine ⟨_, _, rfl, ?_⟩
  refine ⟨_, _, rfl, rfl, _, rfl, ?_⟩
  have elen : ((List.map V.str ys).length : Int) = vs.length := by rw [List.length_map, hi.1]
  rw [elen]
  by_cases cA : 2 + n * d < max vs.length 3
  · refine ite_t (decide_eq_true (by split <;> omega)) ?_
    walk_at "rd"
    refine r_lenL hq' ?_
    walk_at "rd"
    by_cases c9 : n < 9
    · refine ite_t (decide_eq_true (by rw [List.length_map, lcs]; omega)) ?_
      have step : GV.rd vs d 9 0 = match GV.rstop vs (2 + n * d) d with | some j => .inl j | none => GV.rd vs d (9 - (n + 1)) (n + 1) := by
        rw [← hrd, show 9 - n = (9 - (n + 1)) + 1 by omega]
        conv => lhs; unfold GV.rd
        rw [if_pos cA]
        all_goals (cases GV.rstop vs (2 + n * d) d <;> rfl)
      refine ⟨fun σ' H' => ∃ (cs : List Addr) (s4 : Option V), σ' = [some (.ref p), some (.int d), some (.ref q), some (.int ((2 + (n + 1) * d : Nat) : Int)), s4] ∧ Ex H H' ∧ H' q = some (.lst (cs.map V.ref)) ∧ q ∉ cs ∧ LA H' cs ((List.range (n + 1)).map fun i => GV.rowAt vs (2 + i * d) d) ∧ GV.rd vs d (9 - (n + 1)) (n + 1) = GV.rd vs d 9 0, fun σ' H' ⟨cs, s4, h⟩ => ⟨9 - (n + 1), by omega, n + 1, cs, s4, rfl, by omega, h⟩, ?_⟩
      walk_at "rd"
      refine r_bm ?_
      walk_at "rd"
      refine ⟨tyL hq', ?_⟩
      walk_at "rd"
      refine ⟨_, rfl, by omega, by omega, ?_⟩
      refine r_lcP (n := d) walk_range (fun _ i ys' _ => (∀ i', i' < i → (vs.getD (2 + n * d + i') none).isSome = true) ∧ ys' = (List.range i).map fun i => V.int ((vs.getD (2 + n * d + i) none).getD 0)) (by omega) (fun _ _ => trivial) (fun _ _ _ => ⟨fun _ h => by omega, rfl⟩) (fun _ _ _ _ _ h _ => h) ?_ ?_
      · rintro D i y ys' H3 H4 hid hD e3 hdD ⟨hall, rfl⟩ ⟨rfl, rfl⟩ N hN
        refine r_gName ⟨rfl, ?_⟩
        walk_at "rd"
        refine ⟨p, ys, 2 + n * d + i, none, none, rfl, SqL.of (e3 _ _ hp'), by rw [show (0 : Int) + (i : Nat) = ((i : Nat) : Int) by omega]; push_cast; rfl, rfl, rfl, hi.2.1, fun hge => ?_, fun z hz => ?_⟩
        · have hns : (vs.getD (2 + n * d + i) none).isSome = false := by
            rw [List.getD_eq_getElem?_getD, List.getElem?_eq_none (by rw [← hi.1]; exact hge)]
            rfl
          have := GV.rstop_all hall hid hns
          rw [this] at step
          exact (k1 _ step).ex (eH.trans e3)
        · have hlt : 2 + n * d + i < vs.length := by rw [← hi.1]; exact (List.getElem?_eq_some_iff.mp hz).1
          have hv : vs[2 + n * d + i]? = some vs[2 + n * d + i] := by simp [hlt]
          generalize vs[2 + n * d + i] = o at hv
          have hg : vs.getD (2 + n * d + i) none = o := by rw [List.getD_eq_getElem?_getD, hv]; rfl
          obtain ⟨hb, hval⟩ := hi.2.2 _ z o hz hv
          refine ⟨fun hf => ?_, fun ht => ?_⟩
          · have hns : (vs.getD (2 + n * d + i) none).isSome = false := by rw [hg, ← hb]; exact hf
            have := GV.rstop_all hall hid hns
            rw [this] at step
            exact (k1 _ step).ex (eH.trans e3)
          · cases o with
            | none => rw [hb] at ht; cases ht
            | some c =>
              obtain ⟨h1, h2⟩ := hval c rfl
              refine ⟨c, h1, h2, fun _ H5 e5 => hN _ H5 e5 ⟨fun i' hi' => ?_, ?_⟩, fun hf => by simp [inB, loB, upB] at hf⟩
              · rcases Nat.lt_or_ge i' i with c | c
                · exact hall i' c
                · rw [show i' = i by omega, hg]
                  rfl
              · rw [List.range_succ, List.map_append]
                show _ = _ ++ [V.int ((vs.getD (2 + n * d + i) none).getD 0)]
                rw [hg]
                rfl
      · rintro D ys' H3 hD e3 hdD hlen ⟨hall, rfl⟩
        have rn := GV.rstop_none hall
        rw [rn] at step
        walk_at "rd"
        have Dq : D ≠ q := by rintro rfl; rw [hq'] at hD; cases hD
        have eU : ∀ o, Ex H (upd H3 q o) := fun o t u ht => by
          rw [upd_ne (ne_of_none ht hq)]
          exact e3 _ _ (eH _ _ ht)
        refine r_app (e3 _ _ hq') (by rw [List.length_map, lcs]; omega) ?_
        walk_at "rd"
        refine ⟨cs ++ [D], s4, ?_, eU _, by rw [upd_same, List.map_append]; rfl, fun z => ?_, ⟨by rw [List.length_append, lcs]; simp, fun j t r ht hr => ?_⟩, step.symm⟩
        · show [some (V.ref p), some (V.int d), some (V.ref q), some (V.int (((2 + n * d : Nat) : Int) + (d : Int))), s4] = _
          rw [show ((2 + n * d : Nat) : Int) + (d : Int) = ((2 + (n + 1) * d : Nat) : Int) by rw [Nat.succ_mul]; omega]
        · rcases List.mem_append.mp z with z | z
          · exact hqn z
          · exact Dq (List.mem_singleton.mp z).symm
        · have tq : t ≠ q := by
            rintro rfl
            rcases List.mem_append.mp (List.mem_of_getElem? ht) with z | z
            · exact hqn z
            · exact Dq (List.mem_singleton.mp z).symm
          rw [upd_ne tq]
          rw [List.range_succ, List.map_append] at hr
          rcases Nat.lt_or_ge j cs.length with c | c
          · rw [List.getElem?_append_left c] at ht
            rw [List.getElem?_append_left (by simp; omega)] at hr
            exact e3 _ _ (hla.2 j t r ht hr)
          · rw [List.getElem?_append_right c] at ht
            rw [List.getElem?_append_right (by simp; omega)] at hr
            have hj0 : j - cs.length = 0 := by
              cases z : j - cs.length with
              | zero => rfl
              | succ m => rw [z] at ht; simp at ht
            rw [hj0] at ht
            cases ht
            simp only [List.length_map, List.length_range] at hr
            rw [show j - n = 0 by omega] at hr
            cases hr
            rw [hdD]
            simp only [GV.rowAt, List.map_map]
            rfl
    · have e9 : n = 9 := by omega
      subst e9
      refine ite_f (decide_eq_false (by rw [List.length_map, lcs]; omega)) ?_
      have ez : GV.rd vs d 9 0 = if 2 + 9 * d < vs.length then .inl (2 + 9 * d) else .inr 9 := by
        rw [← (show GV.rd vs d 0 9 = GV.rd vs d 9 0 from hrd)]
        rfl
      walk_at "rd"
      refine ⟨p, _, 2 + 9 * d, rfl, SqL.of hp', rfl, fun hle => ?_, fun hlt => ?_⟩
      · walk_at "rd"
        rw [List.length_map, hi.1] at hle
        rw [if_neg (by omega)] at ez
        exact k2 9 ez q cs H' eH hq' hla
      · rw [List.length_map, hi.1] at hlt
        rw [if_pos hlt] at ez
        exact (k1 _ ez).ex eH
  · refine ite_f (decide_eq_false (by split <;> omega)) ?_
    refine ite_f (by decide) ?_
    have ez : GV.rd vs d 9 0 = if 2 + n * d < vs.length then .inl (2 + n * d) else .inr n := by
      rw [← hrd]
      cases 9 - n with
      | zero => rfl
      | succ f => unfold GV.rd; rw [if_neg cA]
    walk_at "rd"
    refine ⟨p, _, 2 + n * d, rfl, SqL.of hp', rfl, fun hle => ?_, fun hlt => ?_⟩
    · walk_at "rd"
      rw [List.length_map, hi.1] at hle
      rw [if_neg (by omega)] at ez
      exact k2 n ez q cs H' eH hq' hla
    · rw [List.length_map, hi.1] at hlt
      rw [if_pos hlt] at ez
      exact (k1 _ ez).ex eH

end K31
namespace K31
open PySem PySem.Spec PyProof.Rows L2 GS TL
local macro_rules | `(tactic| walk_at "rd") => `(tactic| (repeat (first
  | with_reducible refine r_next ?_
  | with_reducible refine r_seq ?_
  | with_reducible refine r_ret ?_
  | with_reducible refine r_ifS ?_
  | with_reducible refine r_asg ?_
  | with_reducible refine r_drop ?_
  | with_reducible refine r_op ?_
  | with_reducible refine r_un ?_
  | with_reducible refine r_cbInt ?_
  | with_reducible refine r_cbAbs ?_
  | with_reducible refine r_cbLen ?_
  | with_reducible refine r_cbList ?_
  | with_reducible refine r_cbTup ?_
  | with_reducible refine r_iEnT ?_
  | with_reducible refine r_iEnL ?_
  | with_reducible refine r_zipA ?_
  | with_reducible refine r_zipX ?_
  | with_reducible refine r_augS ?_
  | with_reducible refine r_cb ?_
  | with_reducible refine r_call ?_
  | with_reducible refine r_make ?_
  | with_reducible refine r_callN0 ?_
  | with_reducible refine r_makeK0 ?_
  | with_reducible refine r_makeS ?_
  | with_reducible refine r_callS ?_
  | with_reducible refine r_cons ?_
  | with_reducible refine r_nil ?_
  | with_reducible refine r_test ?_
  | with_reducible refine r_B ?_
  | with_reducible refine r_and ?_
  | with_reducible refine r_or ?_
  | with_reducible refine r_not ?_
  | with_reducible refine r_andV ?_
  | with_reducible refine r_orV ?_
  | with_reducible refine r_notV ?_
  | with_reducible refine r_if ?_
  | with_reducible refine r_tup ?_
  | with_reducible refine r_lst ?_
  | with_reducible refine r_c ?_
  | with_reducible refine r_lc ?_
  | with_reducible refine r_chain ?_
  | with_reducible refine r_iT ?_
  | with_reducible refine r_iL ?_
  | with_reducible refine r_iR1 ?_
  | with_reducible refine r_iR2 ?_
  | with_reducible refine r_iR3 ?_
  | with_reducible refine r_asgG ?_
  | with_reducible refine r_gSub ?_
  | with_reducible refine r_for ?_
  | with_reducible refine r_smeth ?_
  | with_reducible refine r_par ?_
  | with_reducible refine r_parK ?_
  | with_reducible refine r_gCons ?_
  | with_reducible refine r_gNil ?_
  | with_reducible refine r_gName ?_
  | with_reducible refine r_intI ?_
  | with_reducible refine r_intB ?_
  | with_reducible refine r_absI ?_
  | with_reducible refine r_k ?_
  | with_reducible refine r_kV ?_
  | ((with_reducible show tVar _ _ _ _); refine r_var3 ?_ (by rfl))
  | with_reducible refine r_I0 ?_
  | with_reducible refine r_U ?_
  | with_reducible refine r_eqI ?_
  | with_reducible refine r_neI ?_
  | with_reducible refine r_F ?_
  | dsimp only)))
local macro_rules | `(tactic| walk_at "rx") => `(tactic| (repeat (first
  | with_reducible refine r_next ?_
  | with_reducible refine r_ret ?_
  | with_reducible refine r_ifS ?_
  | with_reducible refine r_asg ?_
  | with_reducible refine r_drop ?_
  | with_reducible refine r_op ?_
  | with_reducible refine r_un ?_
  | with_reducible refine r_cbInt ?_
  | with_reducible refine r_cbAbs ?_
  | with_reducible refine r_cbLen ?_
  | with_reducible refine r_cbList ?_
  | with_reducible refine r_cbTup ?_
  | with_reducible refine r_iEnT ?_
  | with_reducible refine r_iEnL ?_
  | with_reducible refine r_zipA ?_
  | with_reducible refine r_zipX ?_
  | with_reducible refine r_augS ?_
  | with_reducible refine r_cb ?_
  | with_reducible refine r_call ?_
  | with_reducible refine r_make ?_
  | with_reducible refine r_callN0 ?_
  | with_reducible refine r_makeK0 ?_
  | with_reducible refine r_makeS ?_
  | with_reducible refine r_callS ?_
  | with_reducible refine r_cons ?_
  | with_reducible refine r_nil ?_
  | with_reducible refine r_test ?_
  | with_reducible refine r_B ?_
  | with_reducible refine r_and ?_
  | with_reducible refine r_or ?_
  | with_reducible refine r_not ?_
  | with_reducible refine r_andV ?_
  | with_reducible refine r_orV ?_
  | with_reducible refine r_notV ?_
  | with_reducible refine r_if ?_
  | with_reducible refine r_tup ?_
  | with_reducible refine r_lst ?_
  | with_reducible refine r_c ?_
  | with_reducible refine r_lc ?_
  | with_reducible refine r_chain ?_
  | with_reducible refine r_iT ?_
  | with_reducible refine r_iL ?_
  | with_reducible refine r_iR1 ?_
  | with_reducible refine r_iR2 ?_
  | with_reducible refine r_iR3 ?_
  | with_reducible refine r_asgG ?_
  | with_reducible refine r_gSub ?_
  | with_reducible refine r_for ?_
  | with_reducible refine r_smeth ?_
  | with_reducible refine r_par ?_
  | with_reducible refine r_parK ?_
  | with_reducible refine r_gCons ?_
  | with_reducible refine r_gNil ?_
  | with_reducible refine r_gName ?_
  | with_reducible refine r_intI ?_
  | with_reducible refine r_intB ?_
  | with_reducible refine r_absI ?_
  | with_reducible refine r_k ?_
  | with_reducible refine r_kV ?_
  | ((with_reducible show tVar _ _ _ _); refine r_var3 ?_ (by rfl))
  | with_reducible refine r_I0 ?_
  | with_reducible refine r_U ?_
  | with_reducible refine r_eqI ?_
  | with_reducible refine r_neI ?_
  | with_reducible refine r_F ?_
  | dsimp only)))
/-! ### Vectors read -/
theorem its_z {ys : List Str} {vs : List (Option Int)} (h : ItS ys vs) (j : Nat) : ((vs.getD j none).getD 0).natAbs < 10 ^ 60 := by
  rw [List.getD_eq_getElem?_getD]
  cases q : vs[j]? with
  | none => decide
  | some o =>
    cases o with
    | none => decide
    | some c =>
      have hj : j < ys.length := by rw [h.1]; exact (List.getElem?_eq_some_iff.mp q).1
      exact (((h.2.2 j ys[j] _ (by simp [hj]) q).2) c rfl).2
theorem rows_lt {ys : List Str} {vs : List (Option Int)} (h : ItS ys vs) {d n : Nat} : ∀ r ∈ GV.rowsIn vs d n, ∀ c ∈ r, c.natAbs < 10 ^ 60 := by
  intro r hr c hc
  obtain ⟨i, _, rfl⟩ := List.mem_map.mp hr
  obtain ⟨j, _, rfl⟩ := List.mem_map.mp hc
  exact its_z h _
theorem rows_some (rs : List (List Int)) : rowsOf (rs.map some) = rs := by
  unfold rowsOf
  rw [List.map_map]
  exact List.map_id' rs
theorem LA.rits {K : PySem.W.Frag} {H : Hp} {cs : List Addr} {rs : List (List Int)} (h : LA H cs rs) (sh : GV.shR rs) : RIts K H (cs.map V.ref) (rs.map some) := by
  refine ⟨by rw [List.length_map, List.length_map, h.1], fun j x o hx ho => ?_⟩
  obtain ⟨t, ht, rfl⟩ := ref_at hx
  rw [List.getElem?_map] at ho
  cases q : rs[j]? with
  | none => rw [q] at ho; cases ho
  | some r =>
    rw [q] at ho
    cases ho
    exact ⟨by rw [sh.2.2.2.2 r (List.mem_of_getElem? q)]; have := sh.2.2.2.1; omega, t, rfl, .inl (h.2 j t r ht q)⟩
def spVRead (K : PySem.W.Frag) : Sp := sp1 fun v H Q E => (∃ (ys : List Str) (vs : List (Option Int)), v = .str (Txt.join (Str.ofString " ") ys) ∧ ys ≠ [] ∧ (∀ y ∈ ys, 32 ∉ tl y) ∧ (Txt.join (Str.ofString " ") ys).length ≤ 20000 ∧ ys.length ≤ 1000 ∧ ItS ys vs ∧
    (∀ j, GV.stp vs (decide (ys[1]? = some (Str.ofString ":"))) = .inl j → Stop K j H E) ∧ ∀ rs, GV.stp vs (decide (ys[1]? = some (Str.ofString ":"))) = .inr rs → ∀ p H', Ex H H' → Vec K H' p rs → Q (.ref p) H') ∨
  ((∃ t, TyX K H v t ∧ PySem.W.kitOne K t (.type "str") = some false) ∧ Stop K 0 H E)
theorem ok_Vectors_read {P : Program} {w : World} {K : PySem.W.Frag} {mg : Str → Option Value} {base : Heap} (T : Txt K mg) : ∃ fd, FnOk P w K mg base (L2.CX P w) 6 (He5.wf K (He.ga K "Vectors") "staticmethod" "read") fd ["text"] (spVRead K) ∧ Binds K fd ["text"] [] ∧ KBn K fd ["text"] 0 ["text"] (pm [0]) (pm [0]) := by
  obtain ⟨fd, F⟩ := T.d_Vectors_read
  obtain ⟨fd_Vectors_init, F_Vectors_init, B_Vectors_init, kb_Vectors_init_0⟩ := ok_Vectors_init (P := P) (w := w) (base := base) T
  obtain ⟨fd_add_up, F_add_up, B_add_up⟩ := ok_add_up (P := P) (w := w) (base := base) T
  obtain ⟨fd_BadText_init, F_BadText_init, B_BadText_init⟩ := ok_BadText_init (P := P) (w := w) (base := base) T
  obtain ⟨fd_read_rows, F_read_rows, B_read_rows⟩ := ok_read_rows (P := P) (w := w) (base := base) T
  obtain ⟨fd_need_item, F_need_item, B_need_item⟩ := ok_need_item (P := P) (w := w) (base := base) T
  obtain ⟨fd_integer_at, F_integer_at, B_integer_at⟩ := ok_integer_at (P := P) (w := w) (base := base) T
  obtain ⟨fd_items_of, F_items_of, B_items_of⟩ := ok_items_of (P := P) (w := w) (base := base) T
  refine ⟨fd, F.ok sc_Vectors_read sp1_len (fun cdv A outer s H vs Q E hr h => ?_), F.bindsN fun _ _ _ _ _ _ us hl => match us, hl with | [_], _ => rfl, kb_of F 0 ["text"] [0] (fun _ _ _ _ _ _ us ws h1 h2 => match us, ws, h1, h2 with | [], [_], _, _ => rfl)⟩
  have hr_Vectors_init : Room 5 _ := hr.mono (by decide)
  have hr_add_up : Room 2 _ := hr.mono (by decide)
  have hr_BadText_init : Room 2 _ := hr.mono (by decide)
  have hr_read_rows : Room 4 _ := hr.mono (by decide)
  have hr_need_item : Room 3 _ := hr.mono (by decide)
  have hr_integer_at : Room 3 _ := hr.mono (by decide)
  have hr_items_of : Room 3 _ := hr.mono (by decide)
  obtain ⟨v, rfl, h⟩ := sp1_is h
  refine ⟨_, (pss_cons (ps_set (i := 1) sc_Vectors_read.nd rfl (Or.inl rfl) (pe_call F_items_of hr_items_of (by rfl) T.g_items_of T.k_items_of B_items_of .nil (passes_call (takes_of rfl rfl rfl rfl) (fun _ _ _ _ h => h)) (pa_cons (pv 0) pa_nil)))
      (pss_cons (ps_set (i := 2) sc_Vectors_read.nd rfl (Or.inl rfl) (pe_call F_integer_at hr_integer_at (by rfl) T.g_integer_at T.k_integer_at B_integer_at .nil (passes_call (takes_of rfl rfl rfl rfl) (fun _ _ _ _ h => h)) (pa_cons (pv 1) (pa_cons pe_int (pa_cons pe_int (pa_cons (pe_gint rfl T.c_LONGEST_ROW) pa_nil))))))
      (pss_cons (ps_expr (pe_call F_need_item hr_need_item (by rfl) T.g_need_item T.k_need_item B_need_item .nil (passes_call (takes_of rfl rfl rfl rfl) (fun _ _ _ _ h => h)) (pa_cons (pv 1) (pa_cons pe_int (pa_cons pe_str pa_nil)))))
      (pss_cons (ps_set (i := 3) sc_Vectors_read.nd rfl (Or.inl rfl) (pe_call F_read_rows hr_read_rows (by rfl) T.g_read_rows T.k_read_rows B_read_rows .nil (passes_call (takes_of rfl rfl rfl rfl) (fun _ _ _ _ h => h)) (pa_cons (pv 1) (pa_cons (pv 2) pa_nil))))
      (pss_cons (ps_if (pt_not (pt_val (pe_call F_add_up hr_add_up (by rfl) T.g_add_up T.k_add_up B_add_up .nil passL (pa_cons (pv 3) pa_nil)))) (pss_one (ps_raise rfl (takes_of rfl rfl rfl rfl) (pmk_oex T.e_BadText.o T.e_BadText.i T.e_BadText.t F_BadText_init hr_BadText_init B_BadText_init .nil passL rfl T.g_BadText (pa_cons pe_int (pa_cons (pe_op op_sub (pe_callB (kx_lens rfl) (by rfl) T.b_len PySem.boot_len (pa_cons (pv 1) pa_nil)) pe_int) pa_nil))))) pss_nil)
      (pss_one (ps_ret (pe_make T.mk_Vectors F_Vectors_init hr_Vectors_init (by rfl) T.g_Vectors B_Vectors_init .nil passL (pa_cons (pv 3) pa_nil))))))))), ?_⟩
  walk_at "rd"
  rcases h with ⟨ys, vs, rfl, hne, hsp, hlen, hl, hi, k1, k2⟩ | ⟨ht, k⟩
  · refine .inl ⟨ys, rfl, hne, hsp, hlen, fun q H1 e1 hq => ?_⟩
    walk_at "rd"
    have h0 : 0 < ys.length := List.length_pos_iff.mpr hne
    refine ⟨q, ys, 0, some 1, some 3, rfl, SqL.of hq, rfl, rfl, rfl, hi.2.1, fun hge => absurd hge (by omega), fun z hz => ?_⟩
    have hv : vs[0]? = some (vs[0]'(by rw [← hi.1]; exact h0)) := by simp
    generalize (vs[0]'(by rw [← hi.1]; exact h0)) = o at hv
    have hg : vs.getD 0 none = o := by rw [List.getD_eq_getElem?_getD, hv]; rfl
    obtain ⟨hb, hval⟩ := hi.2.2 0 z o hz hv
    refine ⟨fun hf => ?_, fun hnt => ?_⟩
    · cases o with
      | some c => rw [hb] at hf; cases hf
      | none => exact (k1 0 (by unfold GV.stp; rw [hg])).ex e1
    · cases o with
      | none => rw [hb] at hnt; cases hnt
      | some c =>
        obtain ⟨g1, g2⟩ := hval c rfl
        refine ⟨c, g1, g2, fun hin => ?_, fun hin => ?_⟩
        · have hc : 1 ≤ c ∧ c ≤ 3 := by simpa [inB, loB, upB] using hin
          obtain ⟨d, rfl⟩ : ∃ d : Nat, c = (d : Int) := ⟨c.toNat, by omega⟩
          intro H2 e2
          walk_at "rd"
          refine ⟨q, ys, 1, Str.ofString ":", rfl, SqL.of (e2 _ _ hq), rfl, rfl, fun hcol => ?_, fun hcol => ?_⟩
          · walk_at "rd"
            have es : GV.stp vs (decide (ys[1]? = some (Str.ofString ":"))) = match GV.rd vs d 9 0 with | .inl j => .inl j | .inr n => if GV.upB (GV.rowsIn vs d n) = true then .inr (GV.rowsIn vs d n) else .inl (vs.length - 1) := by
              unfold GV.stp
              rw [hg, decide_eq_true hcol]
              simp only [Int.toNat_natCast]
              rw [if_pos (by omega), if_pos trivial]
              all_goals (cases GV.rd vs d 9 0 <;> rfl)
            have e12 := e1.trans e2
            refine ⟨q, ys, vs, d, rfl, e2 _ _ hq, hi, hl, rfl, by omega, by omega, fun j hj => ?_, fun n hn p cs H3 e3 h3 hla => ?_⟩
            · rw [hj] at es
              exact (k1 j es).ex e12
            · rw [hn] at es
              have sh := GV.rowsIn_sh (vs := vs) (d := d) (by omega) (by omega) (GV.rd_pos hn)
              walk_at "rd"
              have zz : ∀ {m : Nat}, 10 ^ 60 ≤ 2 ^ m → ∀ r ∈ GV.rowsIn vs d n, ∀ c ∈ r, Z m c := fun hm r hr c hc => Nat.lt_of_lt_of_le (rows_lt hi r hr c hc) hm
              refine ⟨false, p, cs, GV.rowsIn vs d n, rfl, SqL.of h3, LA.ra hla, sh, zz (m := 20000) (Nat.le_trans (show 10 ^ 60 ≤ 2 ^ 200 by decide) (Nat.pow_le_pow_right (by decide) (by decide))), fun H4 e4 => ?_⟩
              have e14 := (e12.trans e3).trans e4
              have es' : GV.stp vs (decide (ys[1]? = some (Str.ofString ":"))) = if GV.upB (GV.rowsIn vs d n) = true then .inr (GV.rowsIn vs d n) else .inl (vs.length - 1) := es
              cases hup : GV.upB (GV.rowsIn vs d n) with
              | false =>
                refine ⟨_, rfl, ite_t rfl ?_⟩
                walk_at "rd"
                rw [hup, if_neg (by decide)] at es'
                refine ⟨_, rfl, q, _, rfl, .inl (SqL.of (e4 _ _ (e3 _ _ (e2 _ _ hq)))), _, _, rfl, rfl, ?_⟩
                have vl0 : 0 < vs.length := by rw [← hi.1]; exact h0
                have ev : V.int (((List.map V.str ys).length : Int) - 1) = V.int ((vs.length - 1 : Nat) : Int) := by
                  rw [List.length_map, hi.1]
                  exact congrArg V.int (by omega)
                exact r_errB (n := vs.length - 1) rfl ev ((k1 _ es').ex e14)
              | true =>
                rw [hup, if_pos rfl] at es'
                refine ⟨_, rfl, ite_f rfl ?_⟩
                walk_at "rd"
                refine r_Vec (xs := cs.map V.ref) (os := (GV.rowsIn vs d n).map some) ⟨p, rfl, .inl (e4 _ _ h3)⟩ ((hla.ex e4).rits sh) (by rw [List.length_map, hla.1]; exact Nat.le_trans sh.2.1 (by decide)) (by rw [rows_some]; exact zz (m := 5000) (Nat.le_trans (show 10 ^ 60 ≤ 2 ^ 200 by decide) (Nat.pow_le_pow_right (by decide) (by decide)))) (fun z => by rw [GV.shB_some sh] at z; cases z) (fun _ z => by rw [rows_some, hup] at z; cases z) fun p5 H5 _ e5 hv5 => ?_
                rw [rows_some] at hv5
                exact k2 _ es' p5 H5 (e14.trans e5) hv5
          · exact (k1 1 (by
              unfold GV.stp
              rw [hg, decide_eq_false hcol]
              simp only
              rw [if_pos (by omega)]
              rfl)).ex (e1.trans e2)
        · exact (k1 0 (by
            unfold GV.stp
            rw [hg]
            simp only
            rw [if_neg (by simp [inB, loB, upB] at hin; omega)])).ex e1
  · exact .inr ⟨ht, k⟩

end K31
namespace K31
open PySem PySem.Spec PyProof.Rows L2 GS TL
local macro_rules | `(tactic| walk_at "rd") => `(tactic| (repeat (first
  | with_reducible refine r_next ?_
  | with_reducible refine r_seq ?_
  | with_reducible refine r_ret ?_
  | with_reducible refine r_ifS ?_
  | with_reducible refine r_asg ?_
  | with_reducible refine r_drop ?_
  | with_reducible refine r_op ?_
  | with_reducible refine r_un ?_
  | with_reducible refine r_cbInt ?_
  | with_reducible refine r_cbAbs ?_
  | with_reducible refine r_cbLen ?_
  | with_reducible refine r_cbList ?_
  | with_reducible refine r_cbTup ?_
  | with_reducible refine r_iEnT ?_
  | with_reducible refine r_iEnL ?_
  | with_reducible refine r_zipA ?_
  | with_reducible refine r_zipX ?_
  | with_reducible refine r_augS ?_
  | with_reducible refine r_cb ?_
  | with_reducible refine r_call ?_
  | with_reducible refine r_make ?_
  | with_reducible refine r_callN0 ?_
  | with_reducible refine r_makeK0 ?_
  | with_reducible refine r_makeS ?_
  | with_reducible refine r_callS ?_
  | with_reducible refine r_cons ?_
  | with_reducible refine r_nil ?_
  | with_reducible refine r_test ?_
  | with_reducible refine r_B ?_
  | with_reducible refine r_and ?_
  | with_reducible refine r_or ?_
  | with_reducible refine r_not ?_
  | with_reducible refine r_andV ?_
  | with_reducible refine r_orV ?_
  | with_reducible refine r_notV ?_
  | with_reducible refine r_if ?_
  | with_reducible refine r_tup ?_
  | with_reducible refine r_lst ?_
  | with_reducible refine r_c ?_
  | with_reducible refine r_lc ?_
  | with_reducible refine r_chain ?_
  | with_reducible refine r_iT ?_
  | with_reducible refine r_iL ?_
  | with_reducible refine r_iR1 ?_
  | with_reducible refine r_iR2 ?_
  | with_reducible refine r_iR3 ?_
  | with_reducible refine r_asgG ?_
  | with_reducible refine r_gSub ?_
  | with_reducible refine r_for ?_
  | with_reducible refine r_smeth ?_
  | with_reducible refine r_par ?_
  | with_reducible refine r_parK ?_
  | with_reducible refine r_gCons ?_
  | with_reducible refine r_gNil ?_
  | with_reducible refine r_gName ?_
  | with_reducible refine r_intI ?_
  | with_reducible refine r_intB ?_
  | with_reducible refine r_absI ?_
  | with_reducible refine r_k ?_
  | with_reducible refine r_kV ?_
  | ((with_reducible show tVar _ _ _ _); refine r_var3 ?_ (by rfl))
  | with_reducible refine r_I0 ?_
  | with_reducible refine r_U ?_
  | with_reducible refine r_eqI ?_
  | with_reducible refine r_neI ?_
  | with_reducible refine r_F ?_
  | dsimp only)))
local macro_rules | `(tactic| walk_at "rx") => `(tactic| (repeat (first
  | with_reducible refine r_next ?_
  | with_reducible refine r_ret ?_
  | with_reducible refine r_ifS ?_
  | with_reducible refine r_asg ?_
  | with_reducible refine r_drop ?_
  | with_reducible refine r_op ?_
  | with_reducible refine r_un ?_
  | with_reducible refine r_cbInt ?_
  | with_reducible refine r_cbAbs ?_
  | with_reducible refine r_cbLen ?_
  | with_reducible refine r_cbList ?_
  | with_reducible refine r_cbTup ?_
  | with_reducible refine r_iEnT ?_
  | with_reducible refine r_iEnL ?_
  | with_reducible refine r_zipA ?_
  | with_reducible refine r_zipX ?_
  | with_reducible refine r_augS ?_
  | with_reducible refine r_cb ?_
  | with_reducible refine r_call ?_
  | with_reducible refine r_make ?_
  | with_reducible refine r_callN0 ?_
  | with_reducible refine r_makeK0 ?_
  | with_reducible refine r_makeS ?_
  | with_reducible refine r_callS ?_
  | with_reducible refine r_cons ?_
  | with_reducible refine r_nil ?_
  | with_reducible refine r_test ?_
  | with_reducible refine r_B ?_
  | with_reducible refine r_and ?_
  | with_reducible refine r_or ?_
  | with_reducible refine r_not ?_
  | with_reducible refine r_andV ?_
  | with_reducible refine r_orV ?_
  | with_reducible refine r_notV ?_
  | with_reducible refine r_if ?_
  | with_reducible refine r_tup ?_
  | with_reducible refine r_lst ?_
  | with_reducible refine r_c ?_
  | with_reducible refine r_lc ?_
  | with_reducible refine r_chain ?_
  | with_reducible refine r_iT ?_
  | with_reducible refine r_iL ?_
  | with_reducible refine r_iR1 ?_
  | with_reducible refine r_iR2 ?_
  | with_reducible refine r_iR3 ?_
  | with_reducible refine r_asgG ?_
  | with_reducible refine r_gSub ?_
  | with_reducible refine r_for ?_
  | with_reducible refine r_smeth ?_
  | with_reducible refine r_par ?_
  | with_reducible refine r_parK ?_
  | with_reducible refine r_gCons ?_
  | with_reducible refine r_gNil ?_
  | with_reducible refine r_gName ?_
  | with_reducible refine r_intI ?_
  | with_reducible refine r_intB ?_
  | with_reducible refine r_absI ?_
  | with_reducible refine r_k ?_
  | with_reducible refine r_kV ?_
  | ((with_reducible show tVar _ _ _ _); refine r_var3 ?_ (by rfl))
  | with_reducible refine r_I0 ?_
  | with_reducible refine r_U ?_
  | with_reducible refine r_eqI ?_
  | with_reducible refine r_neI ?_
  | with_reducible refine r_F ?_
  | dsimp only)))
theorem Z.small {i : Int} (h : i.natAbs < 10000000000) : Z 34 i := Nat.lt_trans h (by decide)
theorem pow1018 : (10 : Int) ^ (18 : Int).toNat = 1000000000000000000 := rfl
theorem p10 (k : Nat) (h : k ≤ 100000) : CPowW 10 (k : Int) := cpow_of (n := 4) (k := k) (by decide) (by omega)
/-! ### the bag -/
def spBag (K : PySem.W.Frag) : Sp := sp1 fun v H Q _ => ∃ (L : Addr) (xs : List Int), v = .ref L ∧ SqL K H L (xs.map V.int) ∧ (∀ x ∈ xs, Z 2000000 x) ∧ ∀ b H', Ex H H' → H b = none → Bag H' b 0 → Q (.ref b) H'
theorem cut_map (xs : List Int) (n : Nat) : cutV (xs.map V.int) none (some (n : Int)) = (xs.take n).map V.int := by
  unfold cutV
  rw [HT.sIx_none, HT.sIx_nat, List.drop_zero, List.length_map, Nat.sub_zero, List.map_take]
  by_cases c : n ≤ xs.length
  · rw [Nat.min_eq_left c]
  · rw [Nat.min_eq_right (by omega), List.take_of_length_le (by simp), List.take_of_length_le (by simp; omega)]
theorem range_map (xs : List Int) : ((List.range xs.length).map fun j => V.int (xs.getD j 0)) = xs.map V.int := by
  refine List.ext_getElem (by simp) fun i h1 h2 => ?_
  simp at h1
  simp [h1]
theorem ok__law_loom {P : Program} {w : World} {K : PySem.W.Frag} {mg : Str → Option Value} {base : Heap} (T : Txt K mg) : ∃ fd, FnOk P w K mg base (L2.CX P w) 1 (He.ga K "_law_loom") fd ["script"] (spBag K) ∧ Binds K fd ["script"] [] := by
  obtain ⟨fd, F⟩ := T.d__law_loom
  refine ⟨fd, F.ok sc__law_loom sp1_len (fun cdv A outer s H vs Q E hr h => ?_), F.bindsN fun _ _ _ _ _ _ us hl => match us, hl with | [_], _ => rfl⟩
  obtain ⟨v, rfl, L, xs, rfl, hL, hz, k⟩ := sp1_is h
  refine ⟨_, (pss_one (ps_ret (pe_lst (pa_cons (pe_lc (own := [("cell", 1)]) (g := gName 1) (tt := tYes)  rfl sc__law_loom.nd (pi_list (pe_slice sl_list (pv 0) po_none (po_some pe_int))) (blkOk_by (own := [("cell", 1)]) (N := ["script", "cell"]) (sc := defScope s__law_loom) (by decide +kernel)) (fun _ _ _ _ _ => (pg_name (i := 1) sc__law_loom.nd rfl (Or.inl rfl))) (fun _ _ _ _ _ => pts_nil) (fun _ _ _ _ _ => (pe_callTy call_int1 (by rfl) T.b_int (by decide +kernel) (pa_cons (pv 1) pa_nil)))) (pa_cons pe_int (pa_cons pe_int pa_nil)))))), ?_⟩
  walk_at "rd"
  refine ⟨V.ref L, rfl, 58, rfl, L, _, rfl, hL, fun p hp => ⟨p, rfl, ⟨_, SqL.of upd_same⟩, ?_⟩⟩
  rw [show (58 : Int) = ((58 : Nat) : Int) from rfl, cut_map]
  have hn : (xs.take 58).length ≤ 58 := by rw [List.length_take]; omega
  have e0 : Ex H (upd H p (.lst ((xs.take 58).map V.int))) := Ex.new hp
  have h0 : (upd H p (.lst ((xs.take 58).map V.int))) p = some (.lst ((xs.take 58).map V.int)) := upd_same
  generalize upd H p (.lst ((xs.take 58).map V.int)) = H0 at e0 h0 ⊢
  generalize hy : xs.take 58 = ys at hn h0
  refine r_lcM (n := ys.length) (k := 1) (by simpa using walk_list (xs := ys.map V.int)) (fun j => .int (ys.getD j 0)) (by omega) (fun H' e => SqL.of (e _ _ h0)) (fun _ => rfl) ?_ ?_
  · rintro j y H1 H' hj e1 ⟨rfl, hy⟩
    refine ⟨Ex.refl _, fun H3 e3 R r => ?_⟩
    have : y = .int (ys.getD j 0) := by
      have := hy
      rw [List.getElem?_map] at this
      rw [List.getD_eq_getElem?_getD]
      cases q : ys[j]? with
      | none => rw [q] at this; cases this
      | some a => rw [q] at this; exact (Option.some.inj this).symm
    subst this
    walk_at "rd"
    exact r H3 (Ex.refl _)
  · intro q H2 hq e2 hl
    rw [range_map] at hl
    walk_at "rd"
    refine r_newL (sz_le (by simp)) fun b H3 hb e3 h3 => ?_
    have hbH : H b = none := (e0.trans e2).free hb
    refine k b H3 ((e0.trans e2).trans e3) hbH ⟨q, ys, 0, 0, h3, e3 _ _ hl, ?_, Int.le_refl _, Int.le_refl _, Int.le_refl _, (by omega), fun x hx => hz x ?_⟩
    · exact ne_of_none hl hb
    · rw [← hy] at hx
      exact List.mem_of_mem_take hx
theorem ok__law_weft {P : Program} {w : World} {K : PySem.W.Frag} {mg : Str → Option Value} {base : Heap} (T : Txt K mg) : ∃ fd, FnOk P w K mg base (L2.CX P w) 1 (He.ga K "_law_weft") fd ["loom", "many"] (spDrawG) ∧ Binds K fd ["loom", "many"] [] := by
  obtain ⟨fd, F⟩ := T.d__law_weft
  refine ⟨fd, F.ok sc__law_weft sp2_len (fun cdv A outer s H vs Q E hr h => ?_), F.bindsN fun _ _ _ _ _ _ us hl => match us, hl with | [_, _], _ => rfl⟩
  obtain ⟨b0, m0, rfl, b, m, n, rfl, rfl, m1, mz, hn, hbag, k⟩ := sp2_is h
  refine ⟨_, (pss_cons (ps_if (pt_cmpR op_gt (pe_ix (kx_ixl rfl) (pv 0) pe_int (fun _ _ => rfl)) pe_int (nomark _)) (pss_cons (ps_set (i := 2) sc__law_weft.nd rfl (Or.inl rfl) (pe_callTy call_int1 (by rfl) T.b_int (by decide +kernel) (pa_cons (pe_ix (kx_ixl rfl) (pv 0) pe_int (fun _ _ => rfl)) pa_nil)))
      (pss_cons (ps_asg (pe_op op_fdivW (pv 2) (pv 1)) (pg_sub (pv 0) pe_int set_list))
      (pss_one (ps_ret (pe_op op_mod (pe_callTy call_int1 (by rfl) T.b_int (by decide +kernel) (pa_cons (pv 2) pa_nil)) (pv 1)))))) pss_nil)
      (pss_cons (ps_set (i := 3) sc__law_weft.nd rfl (Or.inl rfl) (pe_ix (kx_ixl rfl) (pv 0) pe_int (fun _ _ => rfl)))
      (pss_cons (ps_asg (pe_op op_add (pv 3) pe_int) (pg_sub (pv 0) pe_int set_list))
      (pss_cons (ps_set (i := 4) sc__law_weft.nd rfl (Or.inl rfl) (pe_op op_add (pe_op op_mulB pe_int (pv 3)) pe_int))
      (pss_cons (ps_if (pt_cmpR (op_neD hr.units) (pe_ix (kx_ixl rfl) (pv 0) pe_int (fun _ _ => rfl)) (pe_lst pa_nil) (nomark _)) (pss_one (ps_set (i := 4) sc__law_weft.nd rfl (Or.inl rfl) (pe_ix (kx_ixl rfl) (pe_ix (kx_ixl rfl) (pv 0) pe_int (fun _ _ => rfl)) (pe_op op_mod (pe_callTy call_int1 (by rfl) T.b_int (by decide +kernel) (pa_cons (pv 3) pa_nil)) (pe_callB (kx_lens rfl) (by rfl) T.b_len PySem.boot_len (pa_cons (pe_ix (kx_ixl rfl) (pv 0) pe_int (fun _ _ => rfl)) pa_nil))) (fun _ _ => rfl)))) pss_nil)
      (pss_cons (ps_if (PW.pt (pw_and (pt_cmpR op_lt (pv 3) (pe_callB (kx_lens rfl) (by rfl) T.b_len PySem.boot_len (pa_cons (pe_ix (kx_ixl rfl) (pv 0) pe_int (fun _ _ => rfl)) pa_nil)) (nomark _)) (pw_and1 (pt_cmpR op_ge (pe_callB call_abs (by rfl) T.b_abs (by decide +kernel) (pa_cons (pv 4) pa_nil)) (pe_op op_powW pe_int pe_int) (nomark _))))) (pss_cons (ps_set (i := 2) sc__law_weft.nd rfl (Or.inl rfl) (pe_op op_add (pe_op op_mulB pe_int (pe_op op_sub (pe_callB call_abs (by rfl) T.b_abs (by decide +kernel) (pa_cons (pe_callTy call_int1 (by rfl) T.b_int (by decide +kernel) (pa_cons (pv 4) pa_nil)) pa_nil)) (pe_op op_powW pe_int pe_int))) (pe_callTy call_int1 (by rfl) T.b_int (by decide +kernel) (pa_cons (pe_cmpR op_lt (pv 4) pe_int (nomark _)) pa_nil))))
      (pss_cons (ps_asg (pe_op op_fdivW (pv 2) (pv 1)) (pg_sub (pv 0) pe_int set_list))
      (pss_one (ps_ret (pe_op op_mod (pe_callTy call_int1 (by rfl) T.b_int (by decide +kernel) (pa_cons (pv 2) pa_nil)) (pv 1)))))) pss_nil)
      (pss_cons (ps_set (i := 5) sc__law_weft.nd rfl (Or.inl rfl) (pe_op op_mod (pe_callTy call_int1 (by rfl) T.b_int (by decide +kernel) (pa_cons (pe_op op_powW (pe_op op_add (pe_op op_add (pe_op op_mod (pe_callTy call_int1 (by rfl) T.b_int (by decide +kernel) (pa_cons (pv 4) pa_nil)) pe_int) (pe_op op_mulB pe_int (pv 3))) pe_int) pe_int) pa_nil)) pe_int))
      (pss_cons (ps_set (i := 5) sc__law_weft.nd rfl (Or.inl rfl) (pe_op op_mod (pe_callTy call_int1 (by rfl) T.b_int (by decide +kernel) (pa_cons (pe_op op_powW (pe_op op_add (pe_op op_add (pe_op op_mulB (pv 5) (pe_op op_add (pe_op op_mulB pe_int (pv 3)) pe_int)) (pe_op op_mulB (pe_op op_mulB pe_int (pv 3)) (pv 3))) pe_int) pe_int) pa_nil)) pe_int))
      (pss_one (ps_ret (pe_op op_mod (pe_callTy call_int1 (by rfl) T.b_int (by decide +kernel) (pa_cons (pe_op op_fdivW (pv 5) pe_int) pa_nil)) (pv 1)))))))))))), ?_⟩
  obtain ⟨L, xs, a, l, hb, hL, hne, ha, han, hl, hx, hz⟩ := hbag.is
  have cd : ∀ i : Int, CDivW i m := fun i => wide_div m1 mz (by decide) (by decide)
  have fin : ∀ (H' : Hp) (x y r : Int), Bu b H H' → H' b = some (.lst [.ref L, .int y, .int x]) → 0 ≤ y → y ≤ n + 1 → 0 ≤ x → 0 ≤ r → r < m → Q (.int r) H' := fun H' x y r hbu hat y0 y1 x0 r0 r1 =>
    k r H' r0 r1 ⟨hbu, fun L' _ _ h => by rw [hb] at h; cases h; exact ⟨_, _, hat⟩⟩ ⟨L, xs, y, x, hat, hbu _ _ hne hL, hne, y0, y1, x0, hx, hz⟩
  have mn : ∀ i : Int, 0 ≤ i % m := fun i => Int.emod_nonneg _ (by omega)
  have ml : ∀ i : Int, i % m < m := fun i => Int.emod_lt_of_pos _ m1
  have dn : ∀ i : Int, 0 ≤ i → 0 ≤ i / m := fun i hi => Int.ediv_nonneg hi (by omega)
  walk_at "rd"
  refine r_ixL hb (v := .int l) rfl ?_
  walk_at "rd"
  by_cases c : 0 < l
  · refine ite_t (decide_eq_true c) ?_
    walk_at "rd"
    refine r_ixL hb (v := .int l) rfl ?_
    walk_at "rd"
    refine r_I (cd l) ?_
    walk_at "rd"
    refine r_setL hb (n := 2) rfl ?_
    walk_at "rd"
    refine r_I m1 ?_
    exact fin _ (l / m) a _ Bu.upd upd_same ha (by omega) (dn l hl) (mn l) (ml l)
  · refine ite_f (decide_eq_false c) ?_
    walk_at "rd"
    refine r_ixL hb (v := .int a) rfl ?_
    walk_at "rd"
    refine r_setL hb (n := 1) rfl ?_
    have za : Z 34 a := Z.small (by omega)
    have hL1 : ∀ o, (upd H b o) L = some (.lst (xs.map V.int)) := fun o => by rw [upd_ne hne]; exact hL
    have hB1 : Bu b H (upd H b (.lst ([V.ref L, .int a, .int l].set 1 (.int (a + 1))))) := Bu.upd
    have hb1 : (upd H b (.lst ([V.ref L, .int a, .int l].set 1 (.int (a + 1))))) b = some (.lst [.ref L, .int (a + 1), .int l]) := upd_same
    have hL1 := hB1 _ _ hne hL
    generalize upd H b _ = H1 at hB1 hb1 hL1 ⊢
    walk_at "rd"
    refine r_I (mulB_of (a := 34) (b := 34) (by decide) za (by decide) (by decide) (by decide)) ?_
    walk_at "rx"
    have z0 : Z 60 (51347 * a + 3391) := by
      unfold Z
      have : (2 : Nat) ^ 60 = 1152921504606846976 := rfl
      omega
    refine r_seqJ (fun σ' H' => ∃ cell, Z 2000000 cell ∧ Ex H1 H' ∧ σ' = [some (.ref b), some (.int m), none, some (.int a), some (.int cell), none]) (fun N hN => ?_) ?_
    · walk_at "rd"
      refine r_ixL hb1 (v := .ref L) rfl ?_
      walk_at "rd"
      refine r_newL (sz_le (by simp)) fun q H2 hq e2 h2 => ?_
      refine r_neInts (xs := xs) (ys := []) (e2 _ _ hL1) h2 ?_
      walk_at "rd"
      by_cases cx : xs = []
      · refine ite_f (by simp [cx]) ?_
        exact hN _ _ ⟨_, z0.mono (by decide), e2, rfl⟩
      · refine ite_t (by simp [cx]) ?_
        walk_at "rd"
        refine r_ixL (e2 _ _ hb1) (v := .ref L) rfl ?_
        walk_at "rd"
        refine r_ixL (e2 _ _ hb1) (v := .ref L) rfl ?_
        walk_at "rd"
        refine r_lenL (e2 _ _ hL1) ?_
        have hpos : 0 < xs.length := List.length_pos_iff.mpr cx
        rw [List.length_map]
        refine r_I (by omega) ?_
        obtain ⟨j, hj⟩ : ∃ j : Nat, a % (xs.length : Int) = (j : Int) := ⟨(a % (xs.length : Int)).toNat, by have := Int.emod_nonneg a (show (xs.length : Int) ≠ 0 by omega); omega⟩
        have hjl : j < xs.length := by have := Int.emod_lt_of_pos a (show (0 : Int) < xs.length by omega); omega
        rw [hj]
        refine r_ixL (e2 _ _ hL1) (v := .int xs[j]) (atI_nat (by rw [List.getElem?_map]; simp [hjl])) ?_
        walk_at "rd"
        exact hN _ _ ⟨xs[j], hz _ (List.getElem_mem hjl), e2, rfl⟩
    · rintro σ' H2 ⟨cell, zc, e2, rfl⟩
      have hb2 := e2 _ _ hb1
      have hL2 := e2 _ _ hL1
      have hB2 : Bu b H H2 := hB1.trans (Bu.of e2)
      refine r_seqJ (fun σ' H' => H' = H2 ∧ σ' = [some (.ref b), some (.int m), none, some (.int a), some (.int cell), none]) (fun N hN => ?_) ?_
      · walk_at "rd"
        refine r_ixL hb2 (v := .ref L) rfl ?_
        walk_at "rd"
        refine r_lenL hL2 ?_
        walk_at "rd"
        refine ite_b (fun _ => ?_) fun _ => ?_
        · walk_at "rd"
          refine r_pow (p10 18 (by decide)) pow1018 ?_
          walk_at "rd"
          refine ite_b (fun c2 => ?_) fun _ => ?_
          · have c3 : (1000000000000000000 : Int) ≤ (if cell < 0 then -cell else cell) := of_decide_eq_true c2
            have zd : Z 2000001 ((if cell < 0 then -cell else cell) - 1000000000000000000) := by
              refine Z.sub ?_ (Z.mono (n := 64) (by unfold Z; decide) (by decide))
              unfold Z at *
              split <;> omega
            walk_at "rd"
            refine r_pow (p10 18 (by decide)) pow1018 ?_
            walk_at "rd"
            refine r_I (mulB_of (i := 2) (a := 2) (by decide) zd (by decide) (by decide) (by decide)) ?_
            walk_at "rd"
            have hl2 : 0 ≤ 2 * ((if cell < 0 then -cell else cell) - 1000000000000000000) + (if decide (cell < 0) = true then 1 else 0) := by split <;> omega
            generalize 2 * ((if cell < 0 then -cell else cell) - 1000000000000000000) + (if decide (cell < 0) = true then 1 else 0) = t at hl2 ⊢
            refine r_I (cd t) ?_
            walk_at "rd"
            refine r_setL hb2 (n := 2) rfl ?_
            walk_at "rd"
            refine r_I m1 ?_
            exact fin _ (t / m) (a + 1) _ (hB2.trans Bu.upd) upd_same (by omega) (by omega) (dn t hl2) (mn t) (ml t)
          · exact hN _ _ ⟨rfl, rfl⟩
        · exact hN _ _ ⟨rfl, rfl⟩
      · rintro σ' H3 ⟨rfl, rfl⟩
        have pm : ∀ (i M : Int), 0 < M → M < 2147483648 → Z 34 (i % M) := fun i M h1 h2 => Z.small (by have := Int.emod_nonneg i (show M ≠ 0 by omega); have := Int.emod_lt_of_pos i h1; omega)
        walk_at "rd"
        refine r_I (by decide) ?_
        walk_at "rd"
        refine r_I (mulB_of (a := 34) (b := 34) (by decide) za (by decide) (by decide) (by decide)) ?_
        walk_at "rd"
        have z1 : Z 70 (cell % 2147483549 + 60913 * a + 3391) := by
          have := pm cell 2147483549 (by decide) (by decide)
          unfold Z at *
          have e1 : (2 : Nat) ^ 70 = 1180591620717411303424 := rfl
          have e2 : (2 : Nat) ^ 34 = 17179869184 := rfl
          omega
        refine r_I (cpow_of (n := 70) (k := 5) z1 (by decide)) ?_
        walk_at "rd"
        refine r_I (by decide) ?_
        walk_at "rd"
        refine r_I (mulB_of (a := 34) (b := 34) (by decide) za (by decide) (by decide) (by decide)) ?_
        walk_at "rd"
        generalize hx1 : (cell % 2147483549 + 60913 * a + 3391) ^ ((5 : Nat) : Int).toNat % 2147483543 = x1
        have zx1 : Z 34 x1 := by rw [← hx1]; exact pm _ _ (by decide) (by decide)
        have z2 : Z 40 (2 * a + 3407) := by
          unfold Z
          have e1 : (2 : Nat) ^ 40 = 1099511627776 := rfl
          omega
        refine r_I (mulB_of zx1 z2 (by decide) (by decide) (by decide)) ?_
        walk_at "rd"
        refine r_I (mulB_of (a := 34) (b := 34) (by decide) za (by decide) (by decide) (by decide)) ?_
        walk_at "rd"
        have z3 : Z 60 (51347 * a) := by
          unfold Z
          have : (2 : Nat) ^ 60 = 1152921504606846976 := rfl
          omega
        refine r_I (mulB_of z3 za (by decide) (by decide) (by decide)) ?_
        walk_at "rd"
        have z4 : Z 120 (x1 * (2 * a + 3407) + 51347 * a * a + 60917) := by
          refine (((zx1.mul z2).mono (m := 100) (by decide)).add ((z3.mul za).mono (m := 100) (by decide))).mono (m := 110) (by decide) |>.add (Z.mono (n := 34) (by unfold Z; decide) (by decide)) |>.mono (by decide)
        refine r_I (cpow_of (n := 120) (k := 3) z4 (by decide)) ?_
        walk_at "rd"
        refine r_I (by decide) ?_
        walk_at "rd"
        refine r_I (wide_div (b := 10) (by decide) (by decide) (by decide) (by decide)) ?_
        walk_at "rd"
        refine r_I m1 ?_
        exact fin _ l (a + 1) _ hB2 hb2 (by omega) (by omega) hl (mn _) (ml _)
/-! ### what is drawn -/
def spPick : Sp := sp2 fun b l H Q _ => ∃ (p : Addr) (n : Int) (L : Addr) (xs : List V), b = .ref p ∧ l = .ref L ∧ H L = some (.lst xs) ∧ L ≠ p ∧ xs ≠ [] ∧ xs.length ≤ 1000 ∧ n ≤ 100000 ∧ Bag H p n ∧ ∀ v H', v ∈ xs → Bg p H H' → Bag H' p (n + 1) → Q v H'
theorem ok__law_thread {P : Program} {w : World} {K : PySem.W.Frag} {mg : Str → Option Value} {base : Heap} (T : Txt K mg) : ∃ fd, FnOk P w K mg base (L2.CX P w) 2 (He.ga K "_law_thread") fd ["loom", "some"] (spPick) ∧ Binds K fd ["loom", "some"] [] := by
  obtain ⟨fd, F⟩ := T.d__law_thread
  obtain ⟨fd__law_weft, F__law_weft, B__law_weft⟩ := ok__law_weft (P := P) (w := w) (base := base) T
  refine ⟨fd, F.ok sc__law_thread sp2_len (fun cdv A outer s H vs Q E hr h => ?_), F.bindsN fun _ _ _ _ _ _ us hl => match us, hl with | [_, _], _ => rfl⟩
  have hr__law_weft : Room 1 _ := hr.mono (by decide)
  obtain ⟨b0, l0, rfl, p, n, L, xs, rfl, rfl, hL, hne, hx, hl, hn, hb, k⟩ := sp2_is h
  refine ⟨_, (pss_one (ps_ret (pe_ix (kx_ixl rfl) (pv 1) (pe_call F__law_weft hr__law_weft (by rfl) T.g__law_weft T.k__law_weft B__law_weft .nil passL (pa_cons (pv 0) (pa_cons (pe_callB (kx_lens rfl) (by rfl) T.b_len PySem.boot_len (pa_cons (pv 1) pa_nil)) pa_nil))) (fun _ _ => rfl)))), ?_⟩
  walk_at "rd"
  refine r_lenL hL ?_
  walk_at "rd"
  have h0 : 0 < xs.length := List.length_pos_iff.mpr hx
  refine r_DrawG hb hn (by omega) (Z.mono (n := 34) (Z.small (by omega)) (by decide)) fun r H' r0 r1 bu hb' => ?_
  walk_at "rd"
  have hj : r.toNat < xs.length := by omega
  have er : r = (r.toNat : Int) := by omega
  rw [er]
  refine r_ixL (bu.at_ hne hL) (v := xs[r.toNat]) (atI_nat (by simp [hj])) ?_
  exact k _ H' (List.getElem_mem hj) bu hb'
/-- one of a list that was just laid -/
theorem r_One {H H0 : Hp} {Q : VK} {E : XK} {p L : Addr} {n : Int} {xs : List V} (hb : Bag H p n) (hL : H L = some (.lst xs)) (no : ∀ l x y, HO.lst xs ≠ .lst [.ref l, .int x, .int y]) (hx : xs ≠ []) (hl : xs.length ≤ 1000) (hn : n ≤ 100000) (k : ∀ v H', v ∈ xs → Bg p H H' → Bag H' p (n + 1) → Q v H') : spPick ([.ref p, .ref L] ++ []) H Q E :=
  ⟨p, n, L, xs, rfl, rfl, hL, hb.ne hL no, hx, hl, hn, hb, k⟩
theorem zsm {i : Int} (h : i.natAbs < 10000000000) : Z 1000 i := Z.mono (n := 34) (Z.small h) (by decide)
theorem Bg.free {p D : Addr} {H H' : Hp} {n : Int} (g : Bg p H H') (hb : Bag H p n) (hD : H' D = none) : H D = none := by
  cases e : H D with
  | none => rfl
  | some o =>
    have np : D ≠ p := by
      rintro rfl
      obtain ⟨L, xs, x, y, h1, _⟩ := hb.is
      obtain ⟨x', y', h'⟩ := g.2 L _ _ h1
      rw [hD] at h'
      cases h'
    rw [g.at_ np e] at hD
    cases hD
def dN (ns : List Int) (d : Nat) : Prop := ns.length = d + 1 ∧ 0 < ns.headD 0 ∧ ∀ c ∈ ns, c.natAbs ≤ 1000000000000000000000000000000

end K31
namespace K31
open PySem PySem.Spec PyProof.Rows L2 GS TL
local macro_rules | `(tactic| walk_at "rd") => `(tactic| (repeat (first
  | with_reducible refine r_next ?_
  | with_reducible refine r_seq ?_
  | with_reducible refine r_ret ?_
  | with_reducible refine r_ifS ?_
  | with_reducible refine r_asg ?_
  | with_reducible refine r_drop ?_
  | with_reducible refine r_op ?_
  | with_reducible refine r_un ?_
  | with_reducible refine r_cbInt ?_
  | with_reducible refine r_cbAbs ?_
  | with_reducible refine r_cbLen ?_
  | with_reducible refine r_cbList ?_
  | with_reducible refine r_cbTup ?_
  | with_reducible refine r_iEnT ?_
  | with_reducible refine r_iEnL ?_
  | with_reducible refine r_zipA ?_
  | with_reducible refine r_zipX ?_
  | with_reducible refine r_augS ?_
  | with_reducible refine r_cb ?_
  | with_reducible refine r_call ?_
  | with_reducible refine r_make ?_
  | with_reducible refine r_callN0 ?_
  | with_reducible refine r_makeK0 ?_
  | with_reducible refine r_makeS ?_
  | with_reducible refine r_callS ?_
  | with_reducible refine r_cons ?_
  | with_reducible refine r_nil ?_
  | with_reducible refine r_test ?_
  | with_reducible refine r_B ?_
  | with_reducible refine r_and ?_
  | with_reducible refine r_or ?_
  | with_reducible refine r_not ?_
  | with_reducible refine r_andV ?_
  | with_reducible refine r_orV ?_
  | with_reducible refine r_notV ?_
  | with_reducible refine r_if ?_
  | with_reducible refine r_tup ?_
  | with_reducible refine r_lst ?_
  | with_reducible refine r_c ?_
  | with_reducible refine r_lc ?_
  | with_reducible refine r_chain ?_
  | with_reducible refine r_iT ?_
  | with_reducible refine r_iL ?_
  | with_reducible refine r_iR1 ?_
  | with_reducible refine r_iR2 ?_
  | with_reducible refine r_iR3 ?_
  | with_reducible refine r_asgG ?_
  | with_reducible refine r_gSub ?_
  | with_reducible refine r_for ?_
  | with_reducible refine r_smeth ?_
  | with_reducible refine r_par ?_
  | with_reducible refine r_parK ?_
  | with_reducible refine r_gCons ?_
  | with_reducible refine r_gNil ?_
  | with_reducible refine r_gName ?_
  | with_reducible refine r_intI ?_
  | with_reducible refine r_intB ?_
  | with_reducible refine r_absI ?_
  | with_reducible refine r_k ?_
  | with_reducible refine r_kV ?_
  | ((with_reducible show tVar _ _ _ _); refine r_var3 ?_ (by rfl))
  | with_reducible refine r_I0 ?_
  | with_reducible refine r_U ?_
  | with_reducible refine r_eqI ?_
  | with_reducible refine r_neI ?_
  | with_reducible refine r_F ?_
  | dsimp only)))
local macro_rules | `(tactic| walk_at "rx") => `(tactic| (repeat (first
  | with_reducible refine r_next ?_
  | with_reducible refine r_ret ?_
  | with_reducible refine r_ifS ?_
  | with_reducible refine r_asg ?_
  | with_reducible refine r_drop ?_
  | with_reducible refine r_op ?_
  | with_reducible refine r_un ?_
  | with_reducible refine r_cbInt ?_
  | with_reducible refine r_cbAbs ?_
  | with_reducible refine r_cbLen ?_
  | with_reducible refine r_cbList ?_
  | with_reducible refine r_cbTup ?_
  | with_reducible refine r_iEnT ?_
  | with_reducible refine r_iEnL ?_
  | with_reducible refine r_zipA ?_
  | with_reducible refine r_zipX ?_
  | with_reducible refine r_augS ?_
  | with_reducible refine r_cb ?_
  | with_reducible refine r_call ?_
  | with_reducible refine r_make ?_
  | with_reducible refine r_callN0 ?_
  | with_reducible refine r_makeK0 ?_
  | with_reducible refine r_makeS ?_
  | with_reducible refine r_callS ?_
  | with_reducible refine r_cons ?_
  | with_reducible refine r_nil ?_
  | with_reducible refine r_test ?_
  | with_reducible refine r_B ?_
  | with_reducible refine r_and ?_
  | with_reducible refine r_or ?_
  | with_reducible refine r_not ?_
  | with_reducible refine r_andV ?_
  | with_reducible refine r_orV ?_
  | with_reducible refine r_notV ?_
  | with_reducible refine r_if ?_
  | with_reducible refine r_tup ?_
  | with_reducible refine r_lst ?_
  | with_reducible refine r_c ?_
  | with_reducible refine r_lc ?_
  | with_reducible refine r_chain ?_
  | with_reducible refine r_iT ?_
  | with_reducible refine r_iL ?_
  | with_reducible refine r_iR1 ?_
  | with_reducible refine r_iR2 ?_
  | with_reducible refine r_iR3 ?_
  | with_reducible refine r_asgG ?_
  | with_reducible refine r_gSub ?_
  | with_reducible refine r_for ?_
  | with_reducible refine r_smeth ?_
  | with_reducible refine r_par ?_
  | with_reducible refine r_parK ?_
  | with_reducible refine r_gCons ?_
  | with_reducible refine r_gNil ?_
  | with_reducible refine r_gName ?_
  | with_reducible refine r_intI ?_
  | with_reducible refine r_intB ?_
  | with_reducible refine r_absI ?_
  | with_reducible refine r_k ?_
  | with_reducible refine r_kV ?_
  | ((with_reducible show tVar _ _ _ _); refine r_var3 ?_ (by rfl))
  | with_reducible refine r_I0 ?_
  | with_reducible refine r_U ?_
  | with_reducible refine r_eqI ?_
  | with_reducible refine r_neI ?_
  | with_reducible refine r_F ?_
  | dsimp only)))
/-! ### numbers drawn -/
theorem p107 : (10 : Int) ^ (7 : Int).toNat = 10000000 := rfl
theorem p106 : (10 : Int) ^ (6 : Int).toNat = 1000000 := rfl
def spNum0 : Sp := sp2 fun b s H Q _ => ∃ (p : Addr) (n size : Int), b = .ref p ∧ s = .int size ∧ 0 ≤ size ∧ size ≤ 10000000 ∧ n ≤ 100000 ∧ Bag H p n ∧ ∀ (c : Int) H', -size ≤ c → c ≤ size → Bg p H H' → Bag H' p (n + 1) → Q (.int c) H'
theorem ok__law_number0 {P : Program} {w : World} {K : PySem.W.Frag} {mg : Str → Option Value} {base : Heap} (T : Txt K mg) : ∃ fd, FnOk P w K mg base (L2.CX P w) 2 (He.ga K "_law_number") fd ["loom", "size"] (spNum0) ∧ Binds K fd ["loom", "size"] [] := by
  obtain ⟨fd, F⟩ := T.d__law_number
  obtain ⟨fd__law_weft, F__law_weft, B__law_weft⟩ := ok__law_weft (P := P) (w := w) (base := base) T
  refine ⟨fd, F.ok sc__law_number sp2_len (fun cdv A outer s H vs Q E hr h => ?_), F.bindsN fun _ _ _ _ _ _ us hl => match us, hl with | [_, _], _ => rfl⟩
  have hr__law_weft : Room 1 _ := hr.mono (by decide)
  obtain ⟨b0, s0, rfl, p, n, size, rfl, rfl, s1, s2, hn, hb, k⟩ := sp2_is h
  refine ⟨_, (pss_cons (ps_if (pt_cmpR op_gt (pv 1) (pe_op op_powW pe_int pe_int) (nomark _)) (pss_one ps_never) pss_nil)
      (pss_one (ps_ret (pe_op op_sub (pe_call F__law_weft hr__law_weft (by rfl) T.g__law_weft T.k__law_weft B__law_weft .nil passL (pa_cons (pv 0) (pa_cons (pe_op op_add (pe_op op_mulW pe_int (pv 1)) pe_int) pa_nil))) (pv 1))))), ?_⟩
  walk_at "rd"
  refine r_pow (p10 7 (by decide)) p107 ?_
  walk_at "rd"
  refine ite_f (decide_eq_false (by omega)) ?_
  walk_at "rd"
  refine r_I (mulOk (n := 2) (m := 34) (by unfold Z; decide) (Z.small (by omega)) (by decide) (by decide) (by decide)) ?_
  walk_at "rd"
  refine r_DrawG hb hn (by omega) (Z.mono (n := 34) (Z.small (by omega)) (by decide)) fun r H' r0 r1 bu hb' => ?_
  walk_at "rd"
  exact k _ H' (by omega) (by omega) bu hb'
def spNum : Sp := sp2 fun b s H Q _ => ∃ (p : Addr) (n size : Int), b = .ref p ∧ s = .int size ∧ 0 ≤ size ∧ size ≤ 100000000000000 ∧ n ≤ 90000 ∧ Bag H p n ∧ ∀ (c : Int) H', -(2 * size) ≤ c → c ≤ 2 * size → Bg p H H' → Bag H' p (n + 2) → Q (.int c) H'
theorem ok__law_number {P : Program} {w : World} {K : PySem.W.Frag} {mg : Str → Option Value} {base : Heap} (T : Txt K mg) : ∃ fd, FnOk P w K mg base (L2.CX P w) 3 (He.ga K "_law_number") fd ["loom", "size"] (spNum) ∧ Binds K fd ["loom", "size"] [] := by
  obtain ⟨fd, F⟩ := T.d__law_number
  obtain ⟨fd__law_weft, F__law_weft, B__law_weft⟩ := ok__law_weft (P := P) (w := w) (base := base) T
  obtain ⟨fd__law_number, F__law_number, B__law_number⟩ := ok__law_number0 (P := P) (w := w) (base := base) T
  refine ⟨fd, F.ok sc__law_number sp2_len (fun cdv A outer s H vs Q E hr h => ?_), F.bindsN fun _ _ _ _ _ _ us hl => match us, hl with | [_, _], _ => rfl⟩
  have hr__law_weft : Room 1 _ := hr.mono (by decide)
  have hr__law_number : Room 2 _ := hr.mono (by decide)
  obtain ⟨b0, s0, rfl, p, n, size, rfl, rfl, s1, s2, hn, hb, k⟩ := sp2_is h
  refine ⟨_, (pss_cons (ps_if (pt_cmpR op_gt (pv 1) (pe_op op_powW pe_int pe_int) (nomark _)) (pss_one (ps_ret (pe_op op_add (pe_op op_mulW (pe_call F__law_number hr__law_number (by rfl) T.g__law_number T.k__law_number B__law_number .nil passL (pa_cons (pv 0) (pa_cons (pe_op op_fdivW (pv 1) (pe_op op_powW pe_int pe_int)) pa_nil))) (pe_op op_powW pe_int pe_int)) (pe_call F__law_number hr__law_number (by rfl) T.g__law_number T.k__law_number B__law_number .nil passL (pa_cons (pv 0) (pa_cons (pe_op op_mulW pe_int (pe_op op_powW pe_int pe_int)) pa_nil)))))) pss_nil)
      (pss_one (ps_ret (pe_op op_sub (pe_call F__law_weft hr__law_weft (by rfl) T.g__law_weft T.k__law_weft B__law_weft .nil passL (pa_cons (pv 0) (pa_cons (pe_op op_add (pe_op op_mulW pe_int (pv 1)) pe_int) pa_nil))) (pv 1))))), ?_⟩
  walk_at "rd"
  refine r_pow (p10 7 (by decide)) p107 ?_
  walk_at "rd"
  by_cases c : 10000000 < size
  · refine ite_t (decide_eq_true (by omega)) ?_
    walk_at "rd"
    refine r_pow (p10 7 (by decide)) p107 ?_
    walk_at "rd"
    refine r_I (wide_div (b := 30) (by decide) (by decide) (by decide) (by decide)) ?_
    walk_at "rd"
    refine ⟨p, n, size / 10000000, rfl, rfl, by omega, by omega, by omega, hb, fun c1 H1 l1 u1 g1 b1 => ?_⟩
    walk_at "rd"
    refine r_pow (p10 7 (by decide)) p107 ?_
    walk_at "rd"
    refine r_I (mulOk (n := 34) (m := 30) (Z.small (by omega)) (by unfold Z; decide) (by decide) (by decide) (by decide)) ?_
    walk_at "rd"
    refine r_pow (p10 6 (by decide)) p106 ?_
    walk_at "rd"
    refine r_I (mulOk (n := 4) (m := 30) (by unfold Z; decide) (by unfold Z; decide) (by decide) (by decide) (by decide)) ?_
    walk_at "rd"
    refine ⟨p, n + 1, 5000000, rfl, rfl, by omega, by omega, by omega, b1, fun c2 H2 l2 u2 g2 b2 => ?_⟩
    walk_at "rd"
    exact k _ H2 (by omega) (by omega) (g1.trans g2) (b2.le (by omega))
  · refine ite_f (decide_eq_false (by omega)) ?_
    walk_at "rd"
    refine r_I (mulOk (n := 2) (m := 34) (by unfold Z; decide) (Z.small (by omega)) (by decide) (by decide) (by decide)) ?_
    walk_at "rd"
    refine r_DrawG hb (by omega) (by omega) (Z.mono (n := 34) (Z.small (by omega)) (by decide)) fun r H' r0 r1 bu hb' => ?_
    walk_at "rd"
    exact k _ H' (by omega) (by omega) bu (hb'.le (by omega))

end K31
namespace K31
open PySem PySem.Spec PyProof.Rows L2 GS TL
local macro_rules | `(tactic| walk_at "rd") => `(tactic| (repeat (first
  | with_reducible refine r_next ?_
  | with_reducible refine r_seq ?_
  | with_reducible refine r_ret ?_
  | with_reducible refine r_ifS ?_
  | with_reducible refine r_asg ?_
  | with_reducible refine r_drop ?_
  | with_reducible refine r_op ?_
  | with_reducible refine r_un ?_
  | with_reducible refine r_cbInt ?_
  | with_reducible refine r_cbAbs ?_
  | with_reducible refine r_cbLen ?_
  | with_reducible refine r_cbList ?_
  | with_reducible refine r_cbTup ?_
  | with_reducible refine r_iEnT ?_
  | with_reducible refine r_iEnL ?_
  | with_reducible refine r_zipA ?_
  | with_reducible refine r_zipX ?_
  | with_reducible refine r_augS ?_
  | with_reducible refine r_cb ?_
  | with_reducible refine r_call ?_
  | with_reducible refine r_make ?_
  | with_reducible refine r_callN0 ?_
  | with_reducible refine r_makeK0 ?_
  | with_reducible refine r_makeS ?_
  | with_reducible refine r_callS ?_
  | with_reducible refine r_cons ?_
  | with_reducible refine r_nil ?_
  | with_reducible refine r_test ?_
  | with_reducible refine r_B ?_
  | with_reducible refine r_and ?_
  | with_reducible refine r_or ?_
  | with_reducible refine r_not ?_
  | with_reducible refine r_andV ?_
  | with_reducible refine r_orV ?_
  | with_reducible refine r_notV ?_
  | with_reducible refine r_if ?_
  | with_reducible refine r_tup ?_
  | with_reducible refine r_lst ?_
  | with_reducible refine r_c ?_
  | with_reducible refine r_lc ?_
  | with_reducible refine r_chain ?_
  | with_reducible refine r_iT ?_
  | with_reducible refine r_iL ?_
  | with_reducible refine r_iR1 ?_
  | with_reducible refine r_iR2 ?_
  | with_reducible refine r_iR3 ?_
  | with_reducible refine r_asgG ?_
  | with_reducible refine r_gSub ?_
  | with_reducible refine r_for ?_
  | with_reducible refine r_smeth ?_
  | with_reducible refine r_par ?_
  | with_reducible refine r_parK ?_
  | with_reducible refine r_gCons ?_
  | with_reducible refine r_gNil ?_
  | with_reducible refine r_gName ?_
  | with_reducible refine r_intI ?_
  | with_reducible refine r_intB ?_
  | with_reducible refine r_absI ?_
  | with_reducible refine r_k ?_
  | with_reducible refine r_kV ?_
  | ((with_reducible show tVar _ _ _ _); refine r_var3 ?_ (by rfl))
  | with_reducible refine r_I0 ?_
  | with_reducible refine r_U ?_
  | with_reducible refine r_eqI ?_
  | with_reducible refine r_neI ?_
  | with_reducible refine r_F ?_
  | dsimp only)))
local macro_rules | `(tactic| walk_at "rx") => `(tactic| (repeat (first
  | with_reducible refine r_next ?_
  | with_reducible refine r_ret ?_
  | with_reducible refine r_ifS ?_
  | with_reducible refine r_asg ?_
  | with_reducible refine r_drop ?_
  | with_reducible refine r_op ?_
  | with_reducible refine r_un ?_
  | with_reducible refine r_cbInt ?_
  | with_reducible refine r_cbAbs ?_
  | with_reducible refine r_cbLen ?_
  | with_reducible refine r_cbList ?_
  | with_reducible refine r_cbTup ?_
  | with_reducible refine r_iEnT ?_
  | with_reducible refine r_iEnL ?_
  | with_reducible refine r_zipA ?_
  | with_reducible refine r_zipX ?_
  | with_reducible refine r_augS ?_
  | with_reducible refine r_cb ?_
  | with_reducible refine r_call ?_
  | with_reducible refine r_make ?_
  | with_reducible refine r_callN0 ?_
  | with_reducible refine r_makeK0 ?_
  | with_reducible refine r_makeS ?_
  | with_reducible refine r_callS ?_
  | with_reducible refine r_cons ?_
  | with_reducible refine r_nil ?_
  | with_reducible refine r_test ?_
  | with_reducible refine r_B ?_
  | with_reducible refine r_and ?_
  | with_reducible refine r_or ?_
  | with_reducible refine r_not ?_
  | with_reducible refine r_andV ?_
  | with_reducible refine r_orV ?_
  | with_reducible refine r_notV ?_
  | with_reducible refine r_if ?_
  | with_reducible refine r_tup ?_
  | with_reducible refine r_lst ?_
  | with_reducible refine r_c ?_
  | with_reducible refine r_lc ?_
  | with_reducible refine r_chain ?_
  | with_reducible refine r_iT ?_
  | with_reducible refine r_iL ?_
  | with_reducible refine r_iR1 ?_
  | with_reducible refine r_iR2 ?_
  | with_reducible refine r_iR3 ?_
  | with_reducible refine r_asgG ?_
  | with_reducible refine r_gSub ?_
  | with_reducible refine r_for ?_
  | with_reducible refine r_smeth ?_
  | with_reducible refine r_par ?_
  | with_reducible refine r_parK ?_
  | with_reducible refine r_gCons ?_
  | with_reducible refine r_gNil ?_
  | with_reducible refine r_gName ?_
  | with_reducible refine r_intI ?_
  | with_reducible refine r_intB ?_
  | with_reducible refine r_absI ?_
  | with_reducible refine r_k ?_
  | with_reducible refine r_kV ?_
  | ((with_reducible show tVar _ _ _ _); refine r_var3 ?_ (by rfl))
  | with_reducible refine r_I0 ?_
  | with_reducible refine r_U ?_
  | with_reducible refine r_eqI ?_
  | with_reducible refine r_neI ?_
  | with_reducible refine r_F ?_
  | dsimp only)))
/-! ### the table as the law tells it -/
def LL (H : Hp) (v : V) (rs : List (List Int)) : Prop := ∃ (p : Addr) (cs : List Addr), v = .ref p ∧ H p = some (.lst (cs.map V.ref)) ∧ LA H cs rs
theorem LL.ex {H H' : Hp} {v : V} {rs : List (List Int)} (h : LL H v rs) (e : Ex H H') : LL H' v rs := let ⟨p, cs, h1, h2, h3⟩ := h; ⟨p, cs, h1, e _ _ h2, h3.ex e⟩
theorem LA.nil {H : Hp} : LA H [] [] := ⟨rfl, fun j t r h => by simp at h⟩
theorem LA.tail {H : Hp} {t : Addr} {ts : List Addr} {r : List Int} {rs : List (List Int)} (h : LA H (t :: ts) (r :: rs)) : H t = some (.lst (r.map V.int)) ∧ LA H ts rs := ⟨h.2 0 t r rfl rfl, by simpa using h.1, fun j t' r' h1 h2 => h.2 (j + 1) t' r' (by simpa using h1) (by simpa using h2)⟩
theorem LA.at {H : Hp} {ts : List Addr} {rs : List (List Int)} (h : LA H ts rs) {j : Nat} {t : Addr} (ht : ts[j]? = some t) : ∃ r, rs[j]? = some r ∧ H t = some (.lst (r.map V.int)) := by
  have hj : j < rs.length := by rw [← h.1]; exact (List.getElem?_eq_some_iff.mp ht).1
  exact ⟨rs[j], by simp [hj], h.2 j t _ ht (by simp [hj])⟩
theorem LA.col {H : Hp} {ts : List Addr} {rs : List (List Int)} (h : LA H ts rs) {j : Nat} {r : List Int} (hr : rs[j]? = some r) : ∃ t, ts[j]? = some t ∧ H t = some (.lst (r.map V.int)) := by
  have hj : j < ts.length := by rw [h.1]; exact (List.getElem?_eq_some_iff.mp hr).1
  exact ⟨ts[j], by simp [hj], h.2 j _ r (by simp [hj]) hr⟩
def dRowL (rs : List (List Int)) : List PyData := rs.map fun r => .list (r.map PyData.int)
theorem dp_rowsL {K : PySem.W.Frag} {H : Hp} : ∀ {ts : List Addr} {rs : List (List Int)}, LA H ts rs → DpAll K H (ts.map V.ref) (dRowL rs)
  | [], [], _ => .nil
  | _ :: _, _ :: _, h => .cons (.lst (SqL.of h.tail.1) (dp_ints _)) (dp_rowsL h.tail.2)
  | [], _ :: _, h => by have := h.1; simp at this
  | _ :: _, [], h => by have := h.1; simp at this
theorem can_rowsL : ∀ rs : List (List Int), PyData.canLayAll0 (dRowL rs) = true
  | [] => rfl
  | r :: rs => by
    show (PyData.canLayAll0 (r.map PyData.int) && PyData.canLayAll0 (dRowL rs)) = true
    rw [can_ints, can_rowsL rs]
    rfl
theorem depth_rowsL : ∀ rs : List (List Int), PyData.depthAll (dRowL rs) ≤ 1
  | [] => Nat.zero_le _
  | r :: rs => by
    show max (PyData.depthAll (r.map PyData.int) + 1) (PyData.depthAll (dRowL rs)) ≤ 1
    rw [depth_ints]
    have := depth_rowsL rs
    omega
theorem shaped_rowsL (rs : List (List Int)) : SeqAt.shaped (.list (dRowL rs)) = true := by
  show (PyData.canLayAll0 (dRowL rs) && decide (PyData.depthAll (dRowL rs) + 1 ≤ 64)) = true
  rw [can_rowsL, decide_eq_true (by have := depth_rowsL rs; omega)]
  rfl
theorem eqv_rowsL : ∀ rs qs : List (List Int), PyData.eqvAll (dRowL rs) (dRowL qs) = decide (rs = qs)
  | [], [] => rfl
  | [], q :: qs => rfl
  | r :: rs, [] => rfl
  | r :: rs, q :: qs => by
    show (PyData.eqvAll (r.map PyData.int) (q.map PyData.int) && PyData.eqvAll (dRowL rs) (dRowL qs)) = _
    rw [eqv_ints, eqv_rowsL rs qs]
    by_cases c : r = q <;> simp [c]
theorem r_eqLL {K : PySem.W.Frag} {H : Hp} {Q : VK} {p q : Addr} {ts us : List Addr} {rs qs : List (List Int)} (h1 : H p = some (.lst (ts.map V.ref))) (g1 : LA H ts rs) (h2 : H q = some (.lst (us.map V.ref))) (g2 : LA H us qs) (k : Q (.bl (decide (rs = qs))) H) : rEqD K (.ref p) (.ref q) H Q := by
  refine ⟨_, _, .lst (SqL.of h1) (dp_rowsL g1), .lst (SqL.of h2) (dp_rowsL g2), shaped_rowsL rs, shaped_rowsL qs, ?_⟩
  show Q (.bl (PyData.eqvAll (dRowL rs) (dRowL qs))) H
  rw [eqv_rowsL]
  exact k
theorem la_rows {H : Hp} {ts : List Addr} {n : Nat} {f : Nat → List Int} (hl : ts.length = n) (h : ∀ (j : Nat) (t : Addr), ts[j]? = some t → H t = some (.lst ((f j).map V.int))) : LA H ts ((List.range n).map f) := by
  refine ⟨by simp [hl], fun j t r ht hr => ?_⟩
  have hj : j < n := by rw [← hl]; exact (List.getElem?_eq_some_iff.mp ht).1
  simp [hj] at hr
  rw [h j t ht, hr]
def tv (rs : List (List Int)) : V := if rs = [] then .non else if GV.upB rs = true then .int (GV.tot rs) else .non
theorem tv_up {rs : List (List Int)} (sh : GV.shR rs) (h : GV.upB rs = true) : tv rs = .int (GV.tot rs) := by
  unfold tv
  rw [if_neg (by rintro rfl; exact absurd sh.1 (by decide)), if_pos h]
theorem tv_no {rs : List (List Int)} (h : GV.upB rs = false) : tv rs = .non := by
  unfold tv
  rw [h]
  simp
theorem tv_is {rs : List (List Int)} (sh : rs = [] ∨ GV.shR rs) (h : tv rs ≠ .non) : GV.okR rs := by
  rcases sh with rfl | sh
  · exact absurd rfl h
  · refine ⟨sh, ?_⟩
    cases q : GV.upB rs with
    | true => rfl
    | false => exact absurd (tv_no q) h
theorem pr_z {n : Nat} : ∀ a b : List Int, (∀ c ∈ a, Z n c) → (∀ c ∈ b, Z n c) → (GV.pr a b).natAbs ≤ a.length * 2 ^ (n + n)
  | [], b, _, _ => by cases b <;> simp [GV.pr]
  | x :: a, [], _, _ => by simp [GV.pr]
  | x :: a, y :: b, h1, h2 => by
    show (x * y + GV.pr a b).natAbs ≤ (a.length + 1) * 2 ^ (n + n)
    have := pr_z a b (fun c m => h1 c (List.mem_cons_of_mem _ m)) fun c m => h2 c (List.mem_cons_of_mem _ m)
    have h3 : (x * y).natAbs < 2 ^ (n + n) := (h1 x List.mem_cons_self).mul (h2 y List.mem_cons_self)
    have := Int.natAbs_add_le (x * y) (GV.pr a b)
    rw [Nat.succ_mul]
    omega
theorem z_tot {rs : List (List Int)} {n : Nat} (l : rs.length ≤ 9) (hz : ∀ r ∈ rs, ∀ c ∈ r, Z n c) : Z (n + n + 4) (GV.tot rs) := by
  have h := pr_z (GV.col rs 0) (GV.col rs 0) (col_z hz 0) (col_z hz 0)
  have e : (GV.col rs 0).length = rs.length := by simp [GV.col]
  rw [e] at h
  unfold Z
  have h2 : rs.length * 2 ^ (n + n) ≤ 9 * 2 ^ (n + n) := Nat.mul_le_mul_right _ l
  have h3 : 0 < 2 ^ (n + n) := Nat.pow_pos (by decide)
  have h4 : (2 : Nat) ^ (n + n + 4) = 2 ^ (n + n) * 16 := Nat.pow_add 2 (n + n) 4
  exact Nat.lt_of_le_of_lt h (by omega)
def spTot (K : PySem.W.Frag) : Sp := sp1 fun v H Q _ => ∃ rs, LL H v rs ∧ (rs = [] ∨ GV.shR rs) ∧ (∀ r ∈ rs, ∀ c ∈ r, Z 5000 c) ∧ ∀ H', Ex H H' → Q (tv rs) H'
theorem ok__law_total {P : Program} {w : World} {K : PySem.W.Frag} {mg : Str → Option Value} {base : Heap} (T : Txt K mg) : ∃ fd, FnOk P w K mg base (L2.CX P w) 1 (He.ga K "_law_total") fd ["rows"] (spTot K) ∧ Binds K fd ["rows"] [] := by
  obtain ⟨fd, F⟩ := T.d__law_total
  refine ⟨fd, F.ok sc__law_total sp1_len (fun cdv A outer s H vs Q E hr h => ?_), F.bindsN fun _ _ _ _ _ _ us hl => match us, hl with | [_], _ => rfl⟩
  obtain ⟨v, rfl, rs, ⟨p, cs, rfl, hp, hla⟩, hsh, hz, k⟩ := sp1_is h
  refine ⟨_, (pss_cons (ps_if (pt_cmpR (op_eqD hr.units) (pv 0) (pe_lst pa_nil) (nomark _)) (pss_one (ps_ret pe_non)) pss_nil)
      (pss_cons (ps_set (i := 1) sc__law_total.nd rfl (Or.inr rfl) (pe_callB (kx_lens rfl) (by rfl) T.b_len PySem.boot_len (pa_cons (pe_ix (kx_ixl rfl) (pv 0) pe_int (fun _ _ => rfl)) pa_nil)))
      (pss_cons (ps_setLc (i := 2) (own := [("one", 5)]) (g := gName 5) (tt := tYes)  rfl sc__law_total.nd rfl rfl (sw_true rfl rfl rfl (by decide +kernel)) (pi_range1 (by rfl) T.b_range (pa_cons (pv 1) pa_nil)) (blkOk_by (own := [("one", 5)]) (N := ["rows", "length", "table", "row", "two", "one", "due", "even"]) (sc := defScope s__law_total) (by decide +kernel)) (fun _ _ _ _ _ => (pg_name (i := 5) sc__law_total.nd rfl (Or.inr rfl))) (fun _ _ _ _ _ => pts_nil) (fun _ _ _ _ _ => (pe_lc (own := [("two", 4)]) (g := gName 4) (tt := tYes)  rfl sc__law_total.nd (pi_range1 (by rfl) T.b_range (pa_cons (pv 1) pa_nil)) (blkOk_by (own := [("two", 4)]) (N := ["rows", "length", "table", "row", "two", "one", "due", "even"]) (by rfl)) (fun _ _ _ _ _ => (pg_name (i := 4) sc__law_total.nd rfl (Or.inr rfl))) (fun _ _ _ _ _ => pts_nil) (fun _ _ _ _ _ => (pe_callB (kx_sum (K := K) rfl rfl) (by rfl) T.b_sum (by decide +kernel) (pa_cons (pe_lc (own := [("row", 3)]) (g := gName 3) (tt := tYes)  rfl sc__law_total.nd (kx_pilist (K := K) rfl (pv 0)) (blkOk_by (own := [("row", 3)]) (N := ["rows", "length", "table", "row", "two", "one", "due", "even"]) (by rfl)) (fun _ _ _ _ _ => (pg_name (i := 3) sc__law_total.nd rfl (Or.inl rfl))) (fun _ _ _ _ _ => pts_nil) (fun _ _ _ _ _ => (pe_op op_mulW (pe_ix (kx_ixl rfl) (pv 3) (pv 5) (fun _ _ => rfl)) (pe_ix (kx_ixl rfl) (pv 3) (pv 4) (fun _ _ => rfl))))) pa_nil))))))
      (pss_cons (ps_set (i := 6) sc__law_total.nd rfl (Or.inr rfl) (pe_ix (kx_ixl rfl) (pe_ix (kx_ixl rfl) (pv 2) pe_int (fun _ _ => rfl)) pe_int (fun _ _ => rfl)))
      (pss_cons (ps_setLc (i := 7) (own := [("one", 5)]) (g := gName 5) (tt := tYes)  rfl sc__law_total.nd rfl rfl (sw_true rfl rfl rfl (by decide +kernel)) (pi_range1 (by rfl) T.b_range (pa_cons (pv 1) pa_nil)) (blkOk_by (own := [("one", 5)]) (N := ["rows", "length", "table", "row", "two", "one", "due", "even"]) (sc := defScope s__law_total) (by decide +kernel)) (fun _ _ _ _ _ => (pg_name (i := 5) sc__law_total.nd rfl (Or.inr rfl))) (fun _ _ _ _ _ => pts_nil) (fun _ _ _ _ _ => (pe_lc (own := [("two", 4)]) (g := gName 4) (tt := tYes)  rfl sc__law_total.nd (pi_range1 (by rfl) T.b_range (pa_cons (pv 1) pa_nil)) (blkOk_by (own := [("two", 4)]) (N := ["rows", "length", "table", "row", "two", "one", "due", "even"]) (by rfl)) (fun _ _ _ _ _ => (pg_name (i := 4) sc__law_total.nd rfl (Or.inl rfl))) (fun _ _ _ _ _ => pts_nil) (fun _ _ _ _ _ => (pe_op op_mulW (pv 6) (pe_callTy call_int1 (by rfl) T.b_int (by decide +kernel) (pa_cons (pe_cmpR op_eq (pv 5) (pv 4) (nomark _)) pa_nil)))))))
      (pss_one (ps_ret (pe_ifExp (PW.pt (pw_and (pt_cmpR op_gt (pv 6) pe_int (nomark _)) (pw_and1 (pt_cmpR (op_eqD hr.units) (pv 2) (pv 7) (nomark _))))) (pv 6) pe_non)))))))), ?_⟩
  walk_at "rd"
  refine r_newL (Nat.zero_le _) fun q H1 hq e1 h1 => ?_
  refine r_eqLL (e1 _ _ hp) (hla.ex e1) (us := []) (qs := []) h1 LA.nil ?_
  walk_at "rd"
  by_cases c : rs = []
  · refine ite_t (decide_eq_true c) ?_
    walk_at "rd"
    have := k _ e1
    rw [show tv rs = .non by unfold tv; rw [if_pos c]] at this
    exact this
  · refine ite_f (decide_eq_false c) ?_
    have sh : GV.shR rs := hsh.resolve_left c
    have l9 := sh.2.1
    have w1 := sh.2.2.1
    have w3 := sh.2.2.2.1
    walk_at "rd"
    have l0 : 0 < cs.length := by rw [hla.1]; exact sh.1
    obtain ⟨r0, hr0, hrow0⟩ := hla.at (j := 0) (t := cs[0]) (by simp [l0])
    refine r_ixL (e1 _ _ hp) (v := .ref cs[0]) (atI_nat (j := 0) (by rw [List.getElem?_map]; simp [l0])) ?_
    walk_at "rd"
    refine len_row (.inl (e1 _ _ hrow0)) ?_
    rw [sh.2.2.2.2 r0 (List.mem_of_getElem? hr0)]
    walk_at "rd"
    refine ⟨_, rfl, by omega, by omega, ?_⟩
    refine r_lcLs (n := GV.wid rs) (k := 5) walk_range (fun i => ((List.range (GV.wid rs)).map fun j => GV.tb rs i j).map V.int) (by omega) (fun _ _ => trivial) (fun _ => rfl) ?_ ?_
    · rintro i y H2 H3 hi e2 ⟨rfl, rfl⟩
      refine ⟨Ex.refl _, fun R kR => ?_⟩
      walk_at "rd"
      refine ⟨_, rfl, by omega, by omega, ?_⟩
      refine r_lcM (n := GV.wid rs) (k := 4) walk_range (fun j => .int (GV.tb rs i j)) (by omega) (fun _ _ => trivial) (fun _ => rfl) ?_ fun D H4 hD e4 h4 => ?_
      · rintro j y H4 H5 hj e4 ⟨rfl, rfl⟩
        refine ⟨Ex.refl _, fun H6 e6 R2 kR2 => ?_⟩
        walk_at "rd"
        have e16 := ((e1.trans e2).trans e4).trans e6
        refine ⟨p, rfl, ⟨_, SqL.of (e16 _ _ hp)⟩, ?_⟩
        refine r_lcM (n := cs.length) (k := 3) (by simpa using walk_list (xs := cs.map V.ref)) (fun m => .int ((rs.map fun r => r.getD i 0 * r.getD j 0).getD m 0)) (by have := hla.1; omega) (fun H' e => SqL.of (e _ _ (e16 _ _ hp))) (fun _ => rfl) ?_ ?_
        · rintro m y H7 H8 hm e7 ⟨rfl, hy⟩
          refine ⟨Ex.refl _, fun H9 e9 R3 kR3 => ?_⟩
          obtain ⟨t, ht, rfl⟩ := ref_at hy
          obtain ⟨r, hr', hrow⟩ := (hla.ex ((e16.trans e7).trans e9)).at ht
          have hlr : r.length = GV.wid rs := sh.2.2.2.2 r (List.mem_of_getElem? hr')
          have e : (rs.map fun r => r.getD i 0 * r.getD j 0).getD m 0 = r.getD i 0 * r.getD j 0 := by
            rw [List.getD_eq_getElem?_getD, List.getElem?_map, hr']
            rfl
          rw [e] at kR3
          have gi : r[i]? = some (r.getD i 0) := by simp [hlr, hi]
          have gj : r[j]? = some (r.getD j 0) := by simp [hlr, hj]
          walk_at "rd"
          refine r_ixL hrow (v := .int (r.getD i 0)) (by rw [Int.zero_add]; exact atI_nat (by rw [List.getElem?_map, gi]; rfl)) ?_
          walk_at "rd"
          refine r_ixL hrow (v := .int (r.getD j 0)) (by rw [Int.zero_add]; exact atI_nat (by rw [List.getElem?_map, gj]; rfl)) ?_
          refine r_I (mulOk (hz r (List.mem_of_getElem? hr') _ (List.mem_of_getElem? gi)) (hz r (List.mem_of_getElem? hr') _ (List.mem_of_getElem? gj)) (by decide) (by decide) (by decide)) ?_
          exact kR3 _ (Ex.refl _)
        · intro D H7 hD e7 h7
          have e : (List.range cs.length).map (fun m => V.int ((rs.map fun r => r.getD i 0 * r.getD j 0).getD m 0)) = (rs.map fun r => r.getD i 0 * r.getD j 0).map V.int := by
            have := range_map (rs.map fun r => r.getD i 0 * r.getD j 0)
            rwa [List.length_map, ← hla.1] at this
          rw [e] at h7
          refine ⟨D, _, rfl, SqL.of h7, ?_⟩
          rw [GV.sum_tb]
          exact kR2 _ e7
      · refine kR D H4 e4 hD ?_
        rw [h4, List.map_map]
        rfl
    · intro D ts H2 hD e2 h2 hlen hnd hnew hrow
      have la2 : LA H2 ts (GV.mat (GV.tb rs) (GV.wid rs)) := la_rows hlen hrow
      walk_at "rd"
      have lt0 : 0 < ts.length := by omega
      refine r_ixL h2 (v := .ref ts[0]) (atI_nat (j := 0) (by rw [List.getElem?_map]; simp [lt0])) ?_
      walk_at "rd"
      refine r_ixL (hrow 0 ts[0] (by simp [lt0])) (v := .int (GV.tot rs)) (atI_nat (j := 0) (by rw [List.getElem?_map, List.getElem?_map, List.getElem?_range (by omega)]; rfl)) ?_
      walk_at "rd"
      refine ⟨_, rfl, by omega, by omega, ?_⟩
      have zt : Z 20000 (GV.tot rs) := (z_tot l9 hz).mono (by decide)
      refine r_lcLs (n := GV.wid rs) (k := 5) walk_range (fun i => ((List.range (GV.wid rs)).map fun j => GV.idn (GV.tot rs) i j).map V.int) (by omega) (fun _ _ => trivial) (fun _ => rfl) ?_ ?_
      · rintro i y H3 H4 hi e3 ⟨rfl, rfl⟩
        refine ⟨Ex.refl _, fun R kR => ?_⟩
        walk_at "rd"
        refine ⟨_, rfl, by omega, by omega, ?_⟩
        refine r_lcM (n := GV.wid rs) (k := 4) walk_range (fun j => .int (GV.idn (GV.tot rs) i j)) (by omega) (fun _ _ => trivial) (fun _ => rfl) ?_ fun D H4 hD e4 h4 => ?_
        · rintro j y H4 H5 hj e4 ⟨rfl, rfl⟩
          refine ⟨Ex.refl _, fun H6 e6 R2 kR2 => ?_⟩
          walk_at "rd"
          refine r_I (mulOk zt (m := 2) (by unfold Z; split <;> decide) (by decide) (by decide) (by decide)) ?_
          have e : (decide ((0 : Int) + (i : Nat) = 0 + (j : Nat))) = decide (i = j) := decide_eq_decide.mpr (by omega)
          rw [e]
          exact kR2 _ (Ex.refl _)
        · refine kR D H4 e4 hD ?_
          rw [h4, List.map_map]
          rfl
      · intro D2 us H3 hD2 e3 h3 hlen3 hnd3 hnew3 hrow3
        have la3 : LA H3 us (GV.mat (GV.idn (GV.tot rs)) (GV.wid rs)) := la_rows hlen3 hrow3
        have e13 := (e1.trans e2).trans e3
        have kk := k _ e13
        walk_at "rd"
        by_cases ct : 0 < GV.tot rs
        · refine ite_t (decide_eq_true ct) ?_
          walk_at "rd"
          refine r_eqLL (e3 _ _ h2) (la2.ex e3) h3 la3 ?_
          walk_at "rd"
          by_cases cm : GV.mat (GV.tb rs) (GV.wid rs) = GV.mat (GV.idn (GV.tot rs)) (GV.wid rs)
          · refine ite_t (decide_eq_true cm) ?_
            walk_at "rd"
            rw [tv_up sh ((GV.up_iff rs).mpr ⟨ct, cm⟩)] at kk
            exact kk
          · refine ite_f (decide_eq_false cm) ?_
            walk_at "rd"
            rw [tv_no (by rw [Bool.eq_false_iff]; exact fun z => cm ((GV.up_iff rs).mp z).2)] at kk
            exact kk
        · refine ite_f (decide_eq_false ct) ?_
          walk_at "rd"
          rw [tv_no (by rw [Bool.eq_false_iff]; exact fun z => ct ((GV.up_iff rs).mp z).1)] at kk
          exact kk

end K31
namespace K31
open PySem PySem.Spec PyProof.Rows L2 GS TL
local macro_rules | `(tactic| walk_at "rd") => `(tactic| (repeat (first
  | with_reducible refine r_next ?_
  | with_reducible refine r_seq ?_
  | with_reducible refine r_ret ?_
  | with_reducible refine r_ifS ?_
  | with_reducible refine r_asg ?_
  | with_reducible refine r_drop ?_
  | with_reducible refine r_op ?_
  | with_reducible refine r_un ?_
  | with_reducible refine r_cbInt ?_
  | with_reducible refine r_cbAbs ?_
  | with_reducible refine r_cbLen ?_
  | with_reducible refine r_cbList ?_
  | with_reducible refine r_cbTup ?_
  | with_reducible refine r_iEnT ?_
  | with_reducible refine r_iEnL ?_
  | with_reducible refine r_zipA ?_
  | with_reducible refine r_zipX ?_
  | with_reducible refine r_augS ?_
  | with_reducible refine r_cb ?_
  | with_reducible refine r_call ?_
  | with_reducible refine r_make ?_
  | with_reducible refine r_callN0 ?_
  | with_reducible refine r_makeK0 ?_
  | with_reducible refine r_makeS ?_
  | with_reducible refine r_callS ?_
  | with_reducible refine r_cons ?_
  | with_reducible refine r_nil ?_
  | with_reducible refine r_test ?_
  | with_reducible refine r_B ?_
  | with_reducible refine r_and ?_
  | with_reducible refine r_or ?_
  | with_reducible refine r_not ?_
  | with_reducible refine r_andV ?_
  | with_reducible refine r_orV ?_
  | with_reducible refine r_notV ?_
  | with_reducible refine r_if ?_
  | with_reducible refine r_tup ?_
  | with_reducible refine r_lst ?_
  | with_reducible refine r_c ?_
  | with_reducible refine r_lc ?_
  | with_reducible refine r_chain ?_
  | with_reducible refine r_iT ?_
  | with_reducible refine r_iL ?_
  | with_reducible refine r_iR1 ?_
  | with_reducible refine r_iR2 ?_
  | with_reducible refine r_iR3 ?_
  | with_reducible refine r_asgG ?_
  | with_reducible refine r_gSub ?_
  | with_reducible refine r_for ?_
  | with_reducible refine r_smeth ?_
  | with_reducible refine r_par ?_
  | with_reducible refine r_parK ?_
  | with_reducible refine r_gCons ?_
  | with_reducible refine r_gNil ?_
  | with_reducible refine r_gName ?_
  | with_reducible refine r_intI ?_
  | with_reducible refine r_intB ?_
  | with_reducible refine r_absI ?_
  | with_reducible refine r_k ?_
  | with_reducible refine r_kV ?_
  | ((with_reducible show tVar _ _ _ _); refine r_var3 ?_ (by rfl))
  | with_reducible refine r_I0 ?_
  | with_reducible refine r_U ?_
  | with_reducible refine r_eqI ?_
  | with_reducible refine r_neI ?_
  | with_reducible refine r_F ?_
  | dsimp only)))
local macro_rules | `(tactic| walk_at "rx") => `(tactic| (repeat (first
  | with_reducible refine r_next ?_
  | with_reducible refine r_ret ?_
  | with_reducible refine r_ifS ?_
  | with_reducible refine r_asg ?_
  | with_reducible refine r_drop ?_
  | with_reducible refine r_op ?_
  | with_reducible refine r_un ?_
  | with_reducible refine r_cbInt ?_
  | with_reducible refine r_cbAbs ?_
  | with_reducible refine r_cbLen ?_
  | with_reducible refine r_cbList ?_
  | with_reducible refine r_cbTup ?_
  | with_reducible refine r_iEnT ?_
  | with_reducible refine r_iEnL ?_
  | with_reducible refine r_zipA ?_
  | with_reducible refine r_zipX ?_
  | with_reducible refine r_augS ?_
  | with_reducible refine r_cb ?_
  | with_reducible refine r_call ?_
  | with_reducible refine r_make ?_
  | with_reducible refine r_callN0 ?_
  | with_reducible refine r_makeK0 ?_
  | with_reducible refine r_makeS ?_
  | with_reducible refine r_callS ?_
  | with_reducible refine r_cons ?_
  | with_reducible refine r_nil ?_
  | with_reducible refine r_test ?_
  | with_reducible refine r_B ?_
  | with_reducible refine r_and ?_
  | with_reducible refine r_or ?_
  | with_reducible refine r_not ?_
  | with_reducible refine r_andV ?_
  | with_reducible refine r_orV ?_
  | with_reducible refine r_notV ?_
  | with_reducible refine r_if ?_
  | with_reducible refine r_tup ?_
  | with_reducible refine r_lst ?_
  | with_reducible refine r_c ?_
  | with_reducible refine r_lc ?_
  | with_reducible refine r_chain ?_
  | with_reducible refine r_iT ?_
  | with_reducible refine r_iL ?_
  | with_reducible refine r_iR1 ?_
  | with_reducible refine r_iR2 ?_
  | with_reducible refine r_iR3 ?_
  | with_reducible refine r_asgG ?_
  | with_reducible refine r_gSub ?_
  | with_reducible refine r_for ?_
  | with_reducible refine r_smeth ?_
  | with_reducible refine r_par ?_
  | with_reducible refine r_parK ?_
  | with_reducible refine r_gCons ?_
  | with_reducible refine r_gNil ?_
  | with_reducible refine r_gName ?_
  | with_reducible refine r_intI ?_
  | with_reducible refine r_intB ?_
  | with_reducible refine r_absI ?_
  | with_reducible refine r_k ?_
  | with_reducible refine r_kV ?_
  | ((with_reducible show tVar _ _ _ _); refine r_var3 ?_ (by rfl))
  | with_reducible refine r_I0 ?_
  | with_reducible refine r_U ?_
  | with_reducible refine r_eqI ?_
  | with_reducible refine r_neI ?_
  | with_reducible refine r_F ?_
  | dsimp only)))
/-! ### strips -/
theorem r_Num {H : Hp} {Q : VK} {E : XK} {p : Addr} {n size : Int} (hb : Bag H p n) (hn : n ≤ 90000) (h0 : 0 ≤ size) (h1 : size ≤ 100000000000000) (k : ∀ (c : Int) H', -(2 * size) ≤ c → c ≤ 2 * size → Bg p H H' → Bag H' p (n + 2) → Q (.int c) H') : spNum ([.ref p, .int size] ++ []) H Q E := ⟨p, n, size, rfl, rfl, h0, h1, hn, hb, k⟩
theorem LA.cons {H : Hp} {t : Addr} {ts : List Addr} {r : List Int} {rs : List (List Int)} (h : H t = some (.lst (r.map V.int))) (g : LA H ts rs) : LA H (t :: ts) (r :: rs) := by
  refine ⟨by simp [g.1], fun j t' r' h1 h2 => ?_⟩
  cases j with
  | zero => cases h1; cases h2; exact h
  | succ j => exact g.2 j t' r' (by simpa using h1) (by simpa using h2)
theorem p104 : (10 : Int) ^ (4 : Int).toNat = 10000 := rfl
theorem p1013 : (10 : Int) ^ (13 : Int).toNat = 10000000000000 := rfl
/-- what a strip may be -/
def stR (d : Nat) (rs : List (List Int)) : Prop := 1 ≤ rs.length ∧ rs.length ≤ 6 ∧ ∀ r ∈ rs, r.length = d ∧ ∀ c ∈ r, -1000000000000000 ≤ c ∧ c ≤ 1000000000000000
def spStrip : Sp := sp3 fun b l s H Q _ => ∃ (p : Addr) (n : Int) (d : Nat) (size : Int), b = .ref p ∧ l = .int d ∧ s = .int size ∧ 1 ≤ d ∧ d ≤ 3 ∧ 1 ≤ size ∧ size ≤ 10000000000000 ∧ n ≤ 80000 ∧ Bag H p n ∧
  ∀ q cs rs H', Bg p H H' → Bag H' p (n + 20) → H q = none → (∀ t ∈ cs, H t = none) → H' q = some (.lst (cs.map V.ref)) → LA H' cs rs → stR d rs → Q (.ref q) H'
theorem ok__law_strip {P : Program} {w : World} {K : PySem.W.Frag} {mg : Str → Option Value} {base : Heap} (T : Txt K mg) : ∃ fd, FnOk P w K mg base (L2.CX P w) 4 (He.ga K "_law_strip") fd ["loom", "length", "size"] (spStrip) ∧ Binds K fd ["loom", "length", "size"] [] := by
  obtain ⟨fd, F⟩ := T.d__law_strip
  obtain ⟨fd__law_number, F__law_number, B__law_number⟩ := ok__law_number (P := P) (w := w) (base := base) T
  obtain ⟨fd__law_weft, F__law_weft, B__law_weft⟩ := ok__law_weft (P := P) (w := w) (base := base) T
  refine ⟨fd, F.ok sc__law_strip sp3_len (fun cdv A outer s H vs Q E hr h => ?_), F.bindsN fun _ _ _ _ _ _ us hl => match us, hl with | [_, _, _], _ => rfl⟩
  have hr__law_number : Room 3 _ := hr.mono (by decide)
  have hr__law_weft : Room 1 _ := hr.mono (by decide)
  obtain ⟨b0, l0, s0, rfl, p, n, d, size, rfl, rfl, rfl, d1, d3, s1, s2, hn, hb, k⟩ := sp3_is h
  refine ⟨_, (pss_cons (ps_asg (pe_tup (pa_cons (pe_call F__law_weft hr__law_weft (by rfl) T.g__law_weft T.k__law_weft B__law_weft .nil passL (pa_cons (pv 0) (pa_cons pe_int pa_nil))) (pa_cons (pe_call F__law_number hr__law_number (by rfl) T.g__law_number T.k__law_number B__law_number .nil passL (pa_cons (pv 0) (pa_cons (pv 2) pa_nil))) (pa_cons (pe_call F__law_number hr__law_number (by rfl) T.g__law_number T.k__law_number B__law_number .nil passL (pa_cons (pv 0) (pa_cons (pv 2) pa_nil))) pa_nil)))) (pg_tup rfl (pgs_cons (pg_name (i := 3) sc__law_strip.nd rfl (Or.inl rfl)) (pgs_cons (pg_name (i := 4) sc__law_strip.nd rfl (Or.inr rfl)) (pgs_cons (pg_name (i := 5) sc__law_strip.nd rfl (Or.inl rfl)) pgs_nil)))))
      (pss_cons (ps_if (pt_cmpR op_eq (pv 3) pe_int (nomark _)) (pss_one (ps_ret (pe_lst (pa_cons (pe_lc (own := [("spot", 6)]) (g := gName 6) (tt := tYes)  rfl sc__law_strip.nd (pi_range1 (by rfl) T.b_range (pa_cons (pv 1) pa_nil)) (blkOk_by (own := [("spot", 6)]) (N := ["loom", "length", "size", "way", "a", "b", "spot", "at", "c", "d", "many", "u", "whole", "each"]) (sc := defScope s__law_strip) (by decide +kernel)) (fun _ _ _ _ _ => (pg_name (i := 6) sc__law_strip.nd rfl (Or.inl rfl))) (fun _ _ _ _ _ => pts_nil) (fun _ _ _ _ _ => pe_int)) pa_nil)))) pss_nil)
      (pss_cons (ps_if (PW.pt (pw_and (pt_cmpR op_eq (pv 1) pe_int (nomark _)) (pw_and1 (pt_cmpR op_lt (pv 3) pe_int (nomark _))))) (pss_one (ps_ret (pe_lst (pa_cons (pe_lst (pa_cons (pv 4) pa_nil)) pa_nil)))) pss_nil)
      (pss_cons (ps_if (pt_cmpR op_eq (pv 3) pe_int (nomark _)) (pss_one (ps_ret (pe_lc (own := [("at", 7)]) (g := gName 7) (tt := tYes)  rfl sc__law_strip.nd (pi_range1 (by rfl) T.b_range (pa_cons (pv 1) pa_nil)) (blkOk_by (own := [("at", 7)]) (N := ["loom", "length", "size", "way", "a", "b", "spot", "at", "c", "d", "many", "u", "whole", "each"]) (sc := defScope s__law_strip) (by decide +kernel)) (fun _ _ _ _ _ => (pg_name (i := 7) sc__law_strip.nd rfl (Or.inr rfl))) (fun _ _ _ _ _ => pts_nil) (fun _ _ _ _ _ => (pe_lc (own := [("spot", 6)]) (g := gName 6) (tt := tYes)  rfl sc__law_strip.nd (pi_range1 (by rfl) T.b_range (pa_cons (pv 1) pa_nil)) (blkOk_by (own := [("spot", 6)]) (N := ["loom", "length", "size", "way", "a", "b", "spot", "at", "c", "d", "many", "u", "whole", "each"]) (by rfl)) (fun _ _ _ _ _ => (pg_name (i := 6) sc__law_strip.nd rfl (Or.inl rfl))) (fun _ _ _ _ _ => pts_nil) (fun _ _ _ _ _ => (pe_op op_mulW (pv 4) (pe_callTy call_int1 (by rfl) T.b_int (by decide +kernel) (pa_cons (pe_cmpR op_eq (pv 7) (pv 6) (nomark _)) pa_nil))))))))) pss_nil)
      (pss_cons (ps_if (PW.pt (pw_and (pt_cmpR op_eq (pv 1) pe_int (nomark _)) (pw_and1 (pt_cmpR op_lt (pv 3) pe_int (nomark _))))) (pss_one (ps_ret (pe_ifExp (pt_cmpR op_eq (pv 3) pe_int (nomark _)) (pe_lst (pa_cons (pe_lst (pa_cons (pv 4) (pa_cons (pv 5) pa_nil))) (pa_cons (pe_lst (pa_cons (pe_un un_neg (pv 5)) (pa_cons (pv 4) pa_nil))) pa_nil))) (pe_lst (pa_cons (pe_lst (pa_cons (pv 4) (pa_cons (pv 5) pa_nil))) (pa_cons (pe_lst (pa_cons (pv 5) (pa_cons (pe_un un_neg (pv 4)) pa_nil))) pa_nil)))))) pss_nil)
      (pss_cons (ps_if (PW.pt (pw_and (pt_cmpR op_eq (pv 1) pe_int (nomark _)) (pw_and1 (pt_cmpR op_lt (pv 3) pe_int (nomark _))))) (pss_cons (ps_par (i := 8) (j := 9) (by rfl) sc__law_strip.nd rfl rfl (by decide) rfl rfl (pa_cons (pe_call F__law_number hr__law_number (by rfl) T.g__law_number T.k__law_number B__law_number .nil passL (pa_cons (pv 0) (pa_cons (pv 2) pa_nil))) (pa_cons (pe_call F__law_number hr__law_number (by rfl) T.g__law_number T.k__law_number B__law_number .nil passL (pa_cons (pv 0) (pa_cons (pv 2) pa_nil))) pa_nil)) (by rfl))
      (pss_one (ps_ret (pe_lst (pa_cons (pe_lst (pa_cons (pv 4) (pa_cons (pe_un un_neg (pv 5)) (pa_cons (pe_un un_neg (pv 8)) pa_nil)))) (pa_cons (pe_lst (pa_cons (pv 5) (pa_cons (pv 4) (pa_cons (pe_un un_neg (pv 9)) pa_nil)))) (pa_cons (pe_lst (pa_cons (pv 8) (pa_cons (pv 9) (pa_cons (pv 4) pa_nil)))) (pa_cons (pe_lst (pa_cons (pv 9) (pa_cons (pe_un un_neg (pv 8)) (pa_cons (pv 5) pa_nil)))) pa_nil)))))))) pss_nil)
      (pss_cons (ps_set (i := 10) sc__law_strip.nd rfl (Or.inl rfl) (pe_op op_add (pv 1) (pe_call F__law_weft hr__law_weft (by rfl) T.g__law_weft T.k__law_weft B__law_weft .nil passL (pa_cons (pv 0) (pa_cons (pe_op op_sub pe_int (pv 1)) pa_nil)))))
      (pss_cons (ps_set (i := 11) sc__law_strip.nd rfl (Or.inr rfl) (pe_lc (own := [("at", 7)]) (g := gName 7) (tt := tYes)  rfl sc__law_strip.nd (pi_range1 (by rfl) T.b_range (pa_cons (pv 10) pa_nil)) (blkOk_by (own := [("at", 7)]) (N := ["loom", "length", "size", "way", "a", "b", "spot", "at", "c", "d", "many", "u", "whole", "each"]) (sc := defScope s__law_strip) (by decide +kernel)) (fun _ _ _ _ _ => (pg_name (i := 7) sc__law_strip.nd rfl (Or.inl rfl))) (fun _ _ _ _ _ => pts_nil) (fun _ _ _ _ _ => (pe_call F__law_number hr__law_number (by rfl) T.g__law_number T.k__law_number B__law_number .nil passL (pa_cons (pv 0) (pa_cons (pe_callB (call_min2 rfl) (by rfl) T.b_min (by decide +kernel) (pa_cons (pv 2) (pa_cons (pe_op op_powW pe_int pe_int) pa_nil))) pa_nil))))))
      (pss_cons (ps_set (i := 12) sc__law_strip.nd rfl (Or.inr rfl) (pe_callB (kx_sum (K := K) rfl rfl) (by rfl) T.b_sum (by decide +kernel) (pa_cons (pe_lc (own := [("each", 13)]) (g := gName 13) (tt := tYes)  rfl sc__law_strip.nd (pi_list (pv 11)) (blkOk_by (own := [("each", 13)]) (N := ["loom", "length", "size", "way", "a", "b", "spot", "at", "c", "d", "many", "u", "whole", "each"]) (sc := defScope s__law_strip) (by decide +kernel)) (fun _ _ _ _ _ => (pg_name (i := 13) sc__law_strip.nd rfl (Or.inl rfl))) (fun _ _ _ _ _ => pts_nil) (fun _ _ _ _ _ => (pe_op op_mulW (pv 13) (pv 13)))) pa_nil)))
      (pss_one (ps_ret (pe_lc (own := [("at", 7)]) (g := gName 7) (tt := tYes)  rfl sc__law_strip.nd (pi_range1 (by rfl) T.b_range (pa_cons (pv 10) pa_nil)) (blkOk_by (own := [("at", 7)]) (N := ["loom", "length", "size", "way", "a", "b", "spot", "at", "c", "d", "many", "u", "whole", "each"]) (sc := defScope s__law_strip) (by decide +kernel)) (fun _ _ _ _ _ => (pg_name (i := 7) sc__law_strip.nd rfl (Or.inr rfl))) (fun _ _ _ _ _ => pts_nil) (fun _ _ _ _ _ => (pe_lc (own := [("spot", 6)]) (g := gName 6) (tt := tYes)  rfl sc__law_strip.nd (pi_range1 (by rfl) T.b_range (pa_cons (pv 1) pa_nil)) (blkOk_by (own := [("spot", 6)]) (N := ["loom", "length", "size", "way", "a", "b", "spot", "at", "c", "d", "many", "u", "whole", "each"]) (by rfl)) (fun _ _ _ _ _ => (pg_name (i := 6) sc__law_strip.nd rfl (Or.inl rfl))) (fun _ _ _ _ _ => pts_nil) (fun _ _ _ _ _ => (pe_op op_sub (pe_op op_mulW (pv 12) (pe_callTy call_int1 (by rfl) T.b_int (by decide +kernel) (pa_cons (pe_cmpR op_eq (pv 7) (pv 6) (nomark _)) pa_nil))) (pe_op op_mulW (pe_op op_mulW pe_int (pe_ix (kx_ixl rfl) (pv 11) (pv 7) (fun _ _ => rfl))) (pe_ix (kx_ixl rfl) (pv 11) (pv 6) (fun _ _ => rfl))))))))))))))))))), ?_⟩
  walk_at "rd"
  refine r_DrawG hb (by omega) (by decide) (zsm (by decide)) fun way H1 w0 w1 g1 b1 => ?_
  walk_at "rd"
  refine r_Num b1 (by omega) (by omega) (by omega) fun a H2 a0 a1 g2 b2 => ?_
  walk_at "rd"
  refine r_Num b2 (by omega) (by omega) (by omega) fun b H3 c0 c1 g3 b3 => ?_
  walk_at "rd"
  refine r_newT (sz_le (by simp)) fun t0 H4 ht0 e4 h4 => ?_
  refine r_gTup h4 rfl (r_gCons (r_gName (r_gCons (r_gName (r_gCons (r_gName (r_gNil ?_)))))))
  have g4 : Bg p H H4 := ((g1.trans g2).trans g3).trans (Bg.of e4)
  have b4 : Bag H4 p (n + 5) := (b3.ex e4).le (by omega)
  clear g1 g2 g3 b1 b2 b3 h4 ht0 e4
  have fin : ∀ {H5 H6 : Hp} (q : Addr) (cs : List Addr) (rs : List (List Int)), Bg p H H5 → Ex H5 H6 → Bag H5 p (n + 20) → H5 q = none → (∀ t ∈ cs, H5 t = none) → H6 q = some (.lst (cs.map V.ref)) → LA H6 cs rs → stR d rs → Q (.ref q) H6 := fun {H5 H6} q cs rs g e b hq hc h1 h2 h3 =>
    k q cs rs H6 (g.trans (Bg.of e)) (b.ex e) (Bg.free g hb hq) (fun t ht => Bg.free g hb (hc t ht)) h1 h2 h3
  walk_at "rx"
  have E : ∀ {H5 H6 : Hp} {t : Addr}, Ex H5 H6 → H6 t = none → H5 t = none := fun e h => e.free h
  refine r_seqJ (fun σ' H' => H' = H4 ∧ σ' = [some (.ref p), some (.int d), some (.int size), some (.int way), some (.int a), some (.int b), none, none, none, none, none, none, none, none]) (fun N hN => ?_) ?_
  · walk_at "rd"
    by_cases c : way = 0
    · refine ite_t (decide_eq_true c) ?_
      walk_at "rd"
      refine ⟨_, rfl, by omega, by omega, ?_⟩
      refine r_lcM (n := d) (k := 6) walk_range (fun _ => .int 0) (by omega) (fun _ _ => trivial) (fun _ => rfl) ?_ fun D H5 hD e5 h5 => ?_
      · rintro i y H5 H6 hi e5 ⟨rfl, rfl⟩
        exact ⟨Ex.refl _, fun H7 e7 R kR => kR _ (Ex.refl _)⟩
      · walk_at "rd"
        refine r_newL (sz_le (by simp)) fun q H6 hq e6 h6 => ?_
        refine fin q [D] [(List.range d).map fun _ => 0] g4 (e5.trans e6) (b4.le (by omega)) (E e5 hq) (by simpa using hD) h6 (LA.cons (by rw [e6 _ _ h5, List.map_map]; rfl) LA.nil) ⟨by simp, by simp, fun r hr => ?_⟩
        rw [List.mem_singleton.mp hr]
        exact ⟨by simp, fun c hc => by obtain ⟨_, _, rfl⟩ := List.mem_map.mp hc; decide⟩
    · refine ite_f (decide_eq_false c) ?_
      exact hN _ _ ⟨rfl, rfl⟩
  rintro σ' H' ⟨rfl, rfl⟩
  refine r_seqJ (fun σ' H'' => H'' = H' ∧ (d = 1 → ¬ way < 4) ∧ σ' = [some (.ref p), some (.int d), some (.int size), some (.int way), some (.int a), some (.int b), none, none, none, none, none, none, none, none]) (fun N hN => ?_) ?_
  · walk_at "rd"
    refine ite_b (fun c => ?_) fun c => ?_
    · walk_at "rd"
      refine ite_b (fun c2 => ?_) fun c2 => ?_
      · have hd : d = 1 := by have := of_decide_eq_true c; omega
        walk_at "rd"
        refine r_newL (sz_le (by simp)) fun t H5 ht e5 h5 => ?_
        walk_at "rd"
        refine r_newL (sz_le (by simp)) fun q H6 hq e6 h6 => ?_
        refine fin q [t] [[a]] g4 (e5.trans e6) (b4.le (by omega)) (E e5 hq) (by simpa using ht) h6 (LA.cons (e6 _ _ h5) LA.nil) ⟨by simp, by simp, fun r hr => ?_⟩
        rw [List.mem_singleton.mp hr]
        exact ⟨hd.symm, fun c hc => by rw [List.mem_singleton.mp hc]; omega⟩
      · exact hN _ _ ⟨rfl, fun _ => of_decide_eq_false c2, rfl⟩
    · exact hN _ _ ⟨rfl, fun z => absurd (of_decide_eq_false c) (by omega), rfl⟩
  rintro σ' H'' ⟨rfl, hd1, rfl⟩
  refine r_seqJ (fun σ' H' => H' = H'' ∧ σ' = [some (.ref p), some (.int d), some (.int size), some (.int way), some (.int a), some (.int b), none, none, none, none, none, none, none, none]) (fun N hN => ?_) ?_
  · walk_at "rd"
    refine ite_b (fun c => ?_) fun c => ?_
    · walk_at "rd"
      refine ⟨_, rfl, by omega, by omega, ?_⟩
      refine r_lcLs (n := d) (k := 7) walk_range (fun i => ((List.range d).map fun j => GV.idn a i j).map V.int) (by omega) (fun _ _ => trivial) (fun _ => rfl) ?_ ?_
      · rintro i y H3 H4 hi e3 ⟨rfl, rfl⟩
        refine ⟨Ex.refl _, fun R kR => ?_⟩
        walk_at "rd"
        refine ⟨_, rfl, by omega, by omega, ?_⟩
        refine r_lcM (n := d) (k := 6) walk_range (fun j => .int (GV.idn a i j)) (by omega) (fun _ _ => trivial) (fun _ => rfl) ?_ fun D H4 hD e4 h4 => ?_
        · rintro j y H4 H5 hj e4 ⟨rfl, rfl⟩
          refine ⟨Ex.refl _, fun H6 e6 R2 kR2 => ?_⟩
          walk_at "rd"
          refine r_I (mulOk (n := 100) (m := 2) (by unfold Z; have : (2 : Nat) ^ 100 = 1267650600228229401496703205376 := rfl; omega) (by unfold Z; split <;> decide) (by decide) (by decide) (by decide)) ?_
          have e : (decide ((0 : Int) + (i : Nat) = 0 + (j : Nat))) = decide (i = j) := decide_eq_decide.mpr (by omega)
          rw [e]
          exact kR2 _ (Ex.refl _)
        · refine kR D H4 e4 hD ?_
          rw [h4, List.map_map]
          rfl
      · intro q ts H6 hq e6 h6 hlen hnd hnew hrow
        refine fin q ts (GV.mat (GV.idn a) d) g4 e6 (b4.le (by omega)) hq hnew h6 (la_rows hlen hrow) ⟨by simp [GV.mat]; omega, by simp [GV.mat]; omega, fun r hr => ?_⟩
        obtain ⟨i, hi, rfl⟩ := List.mem_map.mp hr
        refine ⟨by simp, fun c hc => ?_⟩
        obtain ⟨j, hj, rfl⟩ := List.mem_map.mp hc
        unfold GV.idn
        split <;> omega
    · exact hN _ _ ⟨rfl, rfl⟩
  rintro σ' H' ⟨rfl, rfl⟩
  refine r_seqJ (fun σ' H'' => H'' = H' ∧ σ' = [some (.ref p), some (.int d), some (.int size), some (.int way), some (.int a), some (.int b), none, none, none, none, none, none, none, none]) (fun N hN => ?_) ?_
  · walk_at "rd"
    refine ite_b (fun c => ?_) fun c => ?_
    · walk_at "rd"
      refine ite_b (fun c2 => ?_) fun c2 => ?_
      · have hd : d = 2 := by have := of_decide_eq_true c; omega
        walk_at "rd"
        refine ite_b (fun c3 => ?_) fun c3 => ?_
        · walk_at "rd"
          refine r_newL (sz_le (by simp)) fun t H5 ht e5 h5 => ?_
          walk_at "rd"
          refine r_newL (sz_le (by simp)) fun u H6 hu e6 h6 => ?_
          walk_at "rd"
          refine r_newL (sz_le (by simp)) fun q H7 hq e7 h7 => ?_
          refine fin q [t, u] [[a, b], [-b, a]] g4 ((e5.trans e6).trans e7) (b4.le (by omega)) (E (e5.trans e6) hq) (fun x hx => ?_) h7 (LA.cons (e7 _ _ (e6 _ _ h5)) (LA.cons (e7 _ _ h6) LA.nil)) ⟨by simp, by simp, fun r hr => ?_⟩
          · rcases List.mem_cons.mp hx with rfl | hx
            · exact ht
            · rw [List.mem_singleton.mp hx]; exact E e5 hu
          · rcases List.mem_cons.mp hr with rfl | hr
            · exact ⟨hd.symm, fun c hc => by simp at hc; omega⟩
            · rw [List.mem_singleton.mp hr]
              exact ⟨hd.symm, fun c hc => by simp at hc; omega⟩
        · walk_at "rd"
          refine r_newL (sz_le (by simp)) fun t H5 ht e5 h5 => ?_
          walk_at "rd"
          refine r_newL (sz_le (by simp)) fun u H6 hu e6 h6 => ?_
          walk_at "rd"
          refine r_newL (sz_le (by simp)) fun q H7 hq e7 h7 => ?_
          refine fin q [t, u] [[a, b], [b, -a]] g4 ((e5.trans e6).trans e7) (b4.le (by omega)) (E (e5.trans e6) hq) (fun x hx => ?_) h7 (LA.cons (e7 _ _ (e6 _ _ h5)) (LA.cons (e7 _ _ h6) LA.nil)) ⟨by simp, by simp, fun r hr => ?_⟩
          · rcases List.mem_cons.mp hx with rfl | hx
            · exact ht
            · rw [List.mem_singleton.mp hx]; exact E e5 hu
          · rcases List.mem_cons.mp hr with rfl | hr
            · exact ⟨hd.symm, fun c hc => by simp at hc; omega⟩
            · rw [List.mem_singleton.mp hr]
              exact ⟨hd.symm, fun c hc => by simp at hc; omega⟩
      · exact hN _ _ ⟨rfl, rfl⟩
    · exact hN _ _ ⟨rfl, rfl⟩
  rintro σ' H'' ⟨rfl, rfl⟩
  refine r_seqJ (fun σ' H' => H' = H'' ∧ σ' = [some (.ref p), some (.int d), some (.int size), some (.int way), some (.int a), some (.int b), none, none, none, none, none, none, none, none]) (fun N hN => ?_) ?_
  · walk_at "rd"
    refine ite_b (fun c => ?_) fun c => ?_
    · walk_at "rd"
      refine ite_b (fun c2 => ?_) fun c2 => ?_
      · have hd : d = 3 := by have := of_decide_eq_true c; omega
        walk_at "rd"
        refine r_Num b4 (by omega) (by omega) (by omega) fun c H5 x0 x1 g5 b5 => ?_
        walk_at "rd"
        refine r_Num b5 (by omega) (by omega) (by omega) fun e H6 y0 y1 g6 b6 => ?_
        walk_at "rd"
        refine r_newL (sz_le (by simp)) fun t1 H7 ht1 e7 h7 => ?_
        walk_at "rd"
        refine r_newL (sz_le (by simp)) fun t2 H8 ht2 e8 h8 => ?_
        walk_at "rd"
        refine r_newL (sz_le (by simp)) fun t3 H9 ht3 e9 h9 => ?_
        walk_at "rd"
        refine r_newL (sz_le (by simp)) fun t4 H10 ht4 e10 h10 => ?_
        walk_at "rd"
        refine r_newL (sz_le (by simp)) fun q H11 hq e11 h11 => ?_
        refine fin q [t1, t2, t3, t4] [[a, -b, -c], [b, a, -e], [c, e, a], [e, -c, b]] (g4.trans (g5.trans g6)) ((((e7.trans e8).trans e9).trans e10).trans e11) (b6.le (by omega)) (E (((e7.trans e8).trans e9).trans e10) hq) (fun x hx => ?_) h11
          (LA.cons (e11 _ _ (e10 _ _ (e9 _ _ (e8 _ _ h7)))) (LA.cons (e11 _ _ (e10 _ _ (e9 _ _ h8))) (LA.cons (e11 _ _ (e10 _ _ h9)) (LA.cons (e11 _ _ h10) LA.nil)))) ⟨by simp, by simp, fun r hr => ?_⟩
        · simp only [List.mem_cons, List.not_mem_nil, or_false] at hx
          rcases hx with rfl | rfl | rfl | rfl
          · exact ht1
          · exact E e7 ht2
          · exact E (e7.trans e8) ht3
          · exact E ((e7.trans e8).trans e9) ht4
        · simp only [List.mem_cons, List.not_mem_nil, or_false] at hr
          rcases hr with rfl | rfl | rfl | rfl <;> exact ⟨hd.symm, fun c hc => by simp at hc; omega⟩
      · exact hN _ _ ⟨rfl, rfl⟩
    · exact hN _ _ ⟨rfl, rfl⟩
  rintro σ' H' ⟨rfl, rfl⟩
  walk_at "rd"
  refine r_DrawG b4 (by omega) (by omega) (zsm (by omega)) fun r H5 r0 r1 g5 b5 => ?_
  walk_at "rd"
  obtain ⟨m, hm⟩ : ∃ m : Nat, (d : Int) + r = m := ⟨((d : Int) + r).toNat, by omega⟩
  rw [hm]
  have m5 : m ≤ 5 := by omega
  have md : d ≤ m := by omega
  refine ⟨_, rfl, by omega, by omega, ?_⟩
  rw [Int.toNat_natCast]
  refine r_lcG (n := m) (walk_range (lo := 0) (n := m)) (fun D i ys H' => ∃ zs : List Int, ys = zs.map V.int ∧ (∀ z ∈ zs, -2000000 ≤ z ∧ z ≤ 2000000) ∧ Bg p H5 H' ∧ Bag H' p (n + 6 + 2 * (i : Nat))) (by omega) (fun _ _ _ _ _ => trivial) (fun D hD => ⟨[], rfl, (fun _ z => by cases z), (Bg.refl p H5).updD b5 hD, (b5.le (by omega)).updD b5 (Bg.refl p H5) hD⟩) ?_ ?_ ?_
  · rintro D i ys H' o hD ⟨zs, e, hz, g, hb'⟩
    exact ⟨zs, e, hz, g.updD b5 hD, hb'.updD b5 g hD⟩
  · rintro D i x ys H' H6 hi hD hl li ⟨zs, rfl, hz, g, hb'⟩ ⟨rfl, rfl⟩ N hN
    refine r_gName ⟨rfl, ?_⟩
    walk_at "rd"
    refine r_pow (p10 6 (by decide)) p106 ?_
    walk_at "rd"
    refine ⟨_, _, rfl, ?_⟩
    walk_at "rd"
    have nD : D ≠ p := by rintro rfl; have := b5.is; obtain ⟨L, xs, a, l, h1, _⟩ := this; rw [hD] at h1; cases h1
    refine r_Num hb' (by omega) (by split <;> omega) (by split <;> omega) fun z H7 z0 z1 g7 b7 => hN _ H7 (g7.at_ nD hl) ⟨zs ++ [z], by simp, fun y hy => ?_, g.trans g7, b7.le (by omega)⟩
    rcases List.mem_append.mp hy with hm | hm
    · exact hz y hm
    · rw [List.mem_singleton.mp hm]
      constructor <;> revert z0 z1 <;> split <;> intros <;> omega
  · rintro D ys H6 hD hl l ⟨zs, rfl, hz, g6, b6⟩
    walk_at "rd"
    have lz : zs.length = m := by simpa using l
    have g16 : Bg p H H6 := (g4.trans g5).trans g6
    have zs_at : ∀ {H7 : Hp} (j : Nat), j < m → Ex H6 H7 → ∃ z, zs[j]? = some z ∧ zs.getD j 0 = z ∧ (-2000000 ≤ z ∧ z ≤ 2000000) := fun {H7} j hj e => ⟨zs[j], by simp, by simp [lz, hj], hz _ (List.getElem_mem _)⟩
    have gz : ∀ j, -2000000 ≤ zs.getD j 0 ∧ zs.getD j 0 ≤ 2000000 := fun j => by
      rw [List.getD_eq_getElem?_getD]
      cases q : zs[j]? with
      | none => decide
      | some z => exact hz z (List.mem_of_getElem? q)
    have gat : ∀ j, j < m → zs[j]? = some (zs.getD j 0) := fun j hj => by simp [lz, hj]
    have zz : ∀ z : Int, -2000000 ≤ z ∧ z ≤ 2000000 → Z 100 z := fun z h => by unfold Z; have : (2 : Nat) ^ 100 = 1267650600228229401496703205376 := rfl; omega
    refine ⟨D, rfl, ⟨_, SqL.of hl⟩, ?_⟩
    refine r_lcM (n := zs.length) (k := 13) (by simpa using walk_list (xs := zs.map V.int)) (fun j => .int ((zs.map fun z => z * z).getD j 0)) (by omega) (fun H' e => SqL.of (e _ _ hl)) (fun _ => rfl) ?_ ?_
    · rintro j y H7 H8 hj e7 ⟨rfl, hy⟩
      refine ⟨Ex.refl _, fun H9 e9 R kR => ?_⟩
      obtain ⟨z, hz', rfl⟩ := int_at hy
      walk_at "rd"
      refine r_I (mulOk (zz z (hz z (List.mem_of_getElem? hz'))) (zz z (hz z (List.mem_of_getElem? hz'))) (by decide) (by decide) (by decide)) ?_
      have e : (zs.map fun z => z * z).getD j 0 = z * z := by rw [List.getD_eq_getElem?_getD, List.getElem?_map, hz']; rfl
      rw [e] at kR
      exact kR _ (Ex.refl _)
    · intro D2 H7 hD2 e7 h7
      have e : (List.range zs.length).map (fun j => V.int ((zs.map fun z => z * z).getD j 0)) = (zs.map fun z => z * z).map V.int := by
        have := range_map (zs.map fun z => z * z)
        rwa [List.length_map] at this
      rw [e] at h7
      refine ⟨D2, _, rfl, SqL.of h7, ?_⟩
      have bz : ∀ l : List Int, (∀ z ∈ l, -2000000 ≤ z ∧ z ≤ 2000000) → 0 ≤ (l.map fun z => z * z).sum ∧ (l.map fun z => z * z).sum ≤ l.length * 4000000000000 := by
        intro l
        induction l with
        | nil => intro _; decide
        | cons x l ih =>
          intro h
          have := ih fun z m => h z (List.mem_cons_of_mem _ m)
          have hx := h x List.mem_cons_self
          have h1 : 0 ≤ x * x := GV.sq_nn x
          have h2 : x * x ≤ 4000000000000 := by
            have h3 : (x * x).natAbs = x.natAbs * x.natAbs := Int.natAbs_mul x x
            have h4 : x.natAbs * x.natAbs ≤ 2000000 * 2000000 := Nat.mul_le_mul (by omega) (by omega)
            omega
          rw [List.map_cons, List.sum_cons, List.length_cons]
          omega
      have hw := bz zs hz
      generalize (zs.map fun z => z * z).sum = whole at hw
      walk_at "rd"
      refine ⟨_, rfl, by omega, by omega, ?_⟩
      rw [Int.toNat_natCast]
      let f : Nat → Nat → Int := fun i j => GV.idn whole i j - 2 * zs.getD i 0 * zs.getD j 0
      refine r_lcLs (n := m) (k := 7) walk_range (fun i => ((List.range d).map fun j => f i j).map V.int) (by omega) (fun _ _ => trivial) (fun _ => rfl) ?_ ?_
      · rintro i y H3 H4 hi e3 ⟨rfl, rfl⟩
        refine ⟨Ex.refl _, fun R kR => ?_⟩
        walk_at "rd"
        refine ⟨_, rfl, by omega, by omega, ?_⟩
        refine r_lcM (n := d) (k := 6) walk_range (fun j => .int (f i j)) (by omega) (fun _ _ => trivial) (fun _ => rfl) ?_ fun D H4 hD e4 h4 => ?_
        · rintro j y H4 H5 hj e4 ⟨rfl, rfl⟩
          refine ⟨Ex.refl _, fun H6' e6 R2 kR2 => ?_⟩
          have hl' := e6 _ _ (e4 _ _ (e3 _ _ (e7 _ _ hl)))
          walk_at "rd"
          refine r_I (mulOk (n := 100) (m := 2) (by unfold Z; have : (2 : Nat) ^ 100 = 1267650600228229401496703205376 := rfl; omega) (by unfold Z; split <;> decide) (by decide) (by decide) (by decide)) ?_
          walk_at "rd"
          refine r_ixL hl' (v := .int (zs.getD i 0)) (by rw [Int.zero_add]; exact atI_nat (by rw [List.getElem?_map, gat i hi]; rfl)) ?_
          walk_at "rd"
          refine r_I (mulOk (n := 100) (m := 100) (by unfold Z; decide) (zz _ (gz i)) (by decide) (by decide) (by decide)) ?_
          walk_at "rd"
          refine r_ixL hl' (v := .int (zs.getD j 0)) (by rw [Int.zero_add]; exact atI_nat (by rw [List.getElem?_map, gat j (by omega)]; rfl)) ?_
          walk_at "rd"
          refine r_I (mulOk (n := 200) (m := 100) ((Z.mul (n := 100) (m := 100) (by unfold Z; decide) (zz _ (gz i)))) (zz _ (gz j)) (by decide) (by decide) (by decide)) ?_
          walk_at "rd"
          have e : (decide ((0 : Int) + (i : Nat) = 0 + (j : Nat))) = decide (i = j) := decide_eq_decide.mpr (by omega)
          rw [e]
          exact kR2 _ (Ex.refl _)
        · refine kR D H4 e4 hD ?_
          rw [h4, List.map_map]
          rfl
      · intro q ts H8 hq e8 h8 hlen hnd hnew hrow
        refine fin q ts (GV.matN f m d) (g16.trans (Bg.of e7)) e8 ((b6.le (by omega)).ex e7) hq hnew h8 (la_rows hlen hrow) ⟨by simp [GV.matN]; omega, by simp [GV.matN]; omega, fun r hr => ?_⟩
        obtain ⟨i, hi, rfl⟩ := List.mem_map.mp hr
        refine ⟨by simp, fun c hc => ?_⟩
        obtain ⟨j, hj, rfl⟩ := List.mem_map.mp hc
        show _ ≤ GV.idn whole i j - 2 * zs.getD i 0 * zs.getD j 0 ∧ _
        have h1 : GV.idn whole i j = whole ∨ GV.idn whole i j = 0 := by unfold GV.idn; split <;> omega
        have h2 : (2 * zs.getD i 0 * zs.getD j 0).natAbs ≤ 4000000 * 2000000 := by
          rw [Int.natAbs_mul]
          have := gz i
          have := gz j
          exact Nat.mul_le_mul (by omega) (by omega)
        constructor
        · omega
        · show GV.idn whole i j - 2 * zs.getD i 0 * zs.getD j 0 ≤ _
          omega

end K31
namespace K31
open PySem PySem.Spec PyProof.Rows L2 GS TL
local macro_rules | `(tactic| walk_at "rd") => `(tactic| (repeat (first
  | with_reducible refine r_next ?_
  | with_reducible refine r_seq ?_
  | with_reducible refine r_ret ?_
  | with_reducible refine r_ifS ?_
  | with_reducible refine r_asg ?_
  | with_reducible refine r_drop ?_
  | with_reducible refine r_op ?_
  | with_reducible refine r_un ?_
  | with_reducible refine r_cbInt ?_
  | with_reducible refine r_cbAbs ?_
  | with_reducible refine r_cbLen ?_
  | with_reducible refine r_cbList ?_
  | with_reducible refine r_cbTup ?_
  | with_reducible refine r_iEnT ?_
  | with_reducible refine r_iEnL ?_
  | with_reducible refine r_zipA ?_
  | with_reducible refine r_zipX ?_
  | with_reducible refine r_augS ?_
  | with_reducible refine r_cb ?_
  | with_reducible refine r_call ?_
  | with_reducible refine r_make ?_
  | with_reducible refine r_callN0 ?_
  | with_reducible refine r_makeK0 ?_
  | with_reducible refine r_makeS ?_
  | with_reducible refine r_callS ?_
  | with_reducible refine r_cons ?_
  | with_reducible refine r_nil ?_
  | with_reducible refine r_test ?_
  | with_reducible refine r_B ?_
  | with_reducible refine r_and ?_
  | with_reducible refine r_or ?_
  | with_reducible refine r_not ?_
  | with_reducible refine r_andV ?_
  | with_reducible refine r_orV ?_
  | with_reducible refine r_notV ?_
  | with_reducible refine r_if ?_
  | with_reducible refine r_tup ?_
  | with_reducible refine r_lst ?_
  | with_reducible refine r_c ?_
  | with_reducible refine r_lc ?_
  | with_reducible refine r_chain ?_
  | with_reducible refine r_iT ?_
  | with_reducible refine r_iL ?_
  | with_reducible refine r_iR1 ?_
  | with_reducible refine r_iR2 ?_
  | with_reducible refine r_iR3 ?_
  | with_reducible refine r_asgG ?_
  | with_reducible refine r_gSub ?_
  | with_reducible refine r_for ?_
  | with_reducible refine r_smeth ?_
  | with_reducible refine r_par ?_
  | with_reducible refine r_parK ?_
  | with_reducible refine r_gCons ?_
  | with_reducible refine r_gNil ?_
  | with_reducible refine r_gName ?_
  | with_reducible refine r_intI ?_
  | with_reducible refine r_intB ?_
  | with_reducible refine r_absI ?_
  | with_reducible refine r_k ?_
  | with_reducible refine r_kV ?_
  | ((with_reducible show tVar _ _ _ _); refine r_var3 ?_ (by rfl))
  | with_reducible refine r_I0 ?_
  | with_reducible refine r_U ?_
  | with_reducible refine r_eqI ?_
  | with_reducible refine r_neI ?_
  | with_reducible refine r_F ?_
  | dsimp only)))
local macro_rules | `(tactic| walk_at "rx") => `(tactic| (repeat (first
  | with_reducible refine r_next ?_
  | with_reducible refine r_ret ?_
  | with_reducible refine r_ifS ?_
  | with_reducible refine r_asg ?_
  | with_reducible refine r_drop ?_
  | with_reducible refine r_op ?_
  | with_reducible refine r_un ?_
  | with_reducible refine r_cbInt ?_
  | with_reducible refine r_cbAbs ?_
  | with_reducible refine r_cbLen ?_
  | with_reducible refine r_cbList ?_
  | with_reducible refine r_cbTup ?_
  | with_reducible refine r_iEnT ?_
  | with_reducible refine r_iEnL ?_
  | with_reducible refine r_zipA ?_
  | with_reducible refine r_zipX ?_
  | with_reducible refine r_augS ?_
  | with_reducible refine r_cb ?_
  | with_reducible refine r_call ?_
  | with_reducible refine r_make ?_
  | with_reducible refine r_callN0 ?_
  | with_reducible refine r_makeK0 ?_
  | with_reducible refine r_makeS ?_
  | with_reducible refine r_callS ?_
  | with_reducible refine r_cons ?_
  | with_reducible refine r_nil ?_
  | with_reducible refine r_test ?_
  | with_reducible refine r_B ?_
  | with_reducible refine r_and ?_
  | with_reducible refine r_or ?_
  | with_reducible refine r_not ?_
  | with_reducible refine r_andV ?_
  | with_reducible refine r_orV ?_
  | with_reducible refine r_notV ?_
  | with_reducible refine r_if ?_
  | with_reducible refine r_tup ?_
  | with_reducible refine r_lst ?_
  | with_reducible refine r_c ?_
  | with_reducible refine r_lc ?_
  | with_reducible refine r_chain ?_
  | with_reducible refine r_iT ?_
  | with_reducible refine r_iL ?_
  | with_reducible refine r_iR1 ?_
  | with_reducible refine r_iR2 ?_
  | with_reducible refine r_iR3 ?_
  | with_reducible refine r_asgG ?_
  | with_reducible refine r_gSub ?_
  | with_reducible refine r_for ?_
  | with_reducible refine r_smeth ?_
  | with_reducible refine r_par ?_
  | with_reducible refine r_parK ?_
  | with_reducible refine r_gCons ?_
  | with_reducible refine r_gNil ?_
  | with_reducible refine r_gName ?_
  | with_reducible refine r_intI ?_
  | with_reducible refine r_intB ?_
  | with_reducible refine r_absI ?_
  | with_reducible refine r_k ?_
  | with_reducible refine r_kV ?_
  | ((with_reducible show tVar _ _ _ _); refine r_var3 ?_ (by rfl))
  | with_reducible refine r_I0 ?_
  | with_reducible refine r_U ?_
  | with_reducible refine r_eqI ?_
  | with_reducible refine r_neI ?_
  | with_reducible refine r_F ?_
  | dsimp only)))
/-! ### cloth -/
theorem LA.bg {H H' : Hp} {p : Addr} {n : Int} {ts : List Addr} {rs : List (List Int)} (h : LA H ts rs) (hb : Bag H p n) (g : Bg p H H') : LA H' ts rs := ⟨h.1, fun j t r h1 h2 => by
  have := h.2 j t r h1 h2
  refine g.at_ (hb.ne this fun L x y z => ?_) this
  injection z with z
  cases r with
  | nil => cases z
  | cons a r => injection z with z1; cases z1⟩
theorem ls_ne {H : Hp} {p q : Addr} {n : Int} {cs : List Addr} (hb : Bag H p n) (h : H q = some (.lst (cs.map V.ref))) : q ≠ p := hb.ne h fun L x y z => by
  injection z with z
  match cs, z with
  | a :: b :: _, z => injection z with _ z; injection z with z; cases z
theorem LA.upd {H : Hp} {q : Addr} {o : HO} {ts : List Addr} {rs : List (List Int)} (h : LA H ts rs) (n : q ∉ ts) : LA (upd H q o) ts rs := ⟨h.1, fun j t r h1 h2 => by rw [upd_ne (fun z => n (by rw [← z]; exact List.mem_of_getElem? h1))]; exact h.2 j t r h1 h2⟩
theorem LA.app {H : Hp} {ts us : List Addr} {rs qs : List (List Int)} (h : LA H ts rs) (g : LA H us qs) : LA H (ts ++ us) (rs ++ qs) := by
  refine ⟨by simp [h.1, g.1], fun j t r h1 h2 => ?_⟩
  rcases Nat.lt_or_ge j ts.length with c | c
  · rw [List.getElem?_append_left c] at h1
    rw [List.getElem?_append_left (by rw [← h.1]; exact c)] at h2
    exact h.2 j t r h1 h2
  · rw [List.getElem?_append_right c] at h1
    rw [List.getElem?_append_right (by rw [← h.1]; exact c), ← h.1] at h2
    exact g.2 _ t r h1 h2
theorem LA.erase {H : Hp} {ts : List Addr} {rs : List (List Int)} (h : LA H ts rs) (k : Nat) : LA H (ts.eraseIdx k) (rs.eraseIdx k) := by
  refine ⟨by rw [List.length_eraseIdx, List.length_eraseIdx, h.1], fun j t r h1 h2 => ?_⟩
  rw [List.getElem?_eraseIdx] at h1 h2
  split at h1
  · rename_i c
    rw [if_pos c] at h2
    exact h.2 j t r h1 h2
  · rename_i c
    rw [if_neg c] at h2
    exact h.2 _ t r h1 h2
theorem map_erase {α β : Type} (f : α → β) : ∀ (l : List α) (k : Nat), (l.map f).eraseIdx k = (l.eraseIdx k).map f
  | [], _ => rfl
  | _ :: _, 0 => rfl
  | a :: l, k + 1 => by
    show f a :: (l.map f).eraseIdx k = f a :: (l.eraseIdx k).map f
    rw [map_erase f l k]
theorem erase_perm {α : Type} : ∀ (l : List α) {k : Nat} (h : k < l.length), (l[k] :: l.eraseIdx k).Perm l
  | a :: l, 0, h => List.Perm.refl _
  | a :: l, k + 1, h => by
    have h' : k < l.length := by simpa using h
    show (l[k] :: a :: l.eraseIdx k).Perm (a :: l)
    exact (List.Perm.swap a l[k] _).trans ((erase_perm l h').cons a)
/-- numbers of a cloth -/
def clZ (rs : List (List Int)) : Prop := ∀ r ∈ rs, ∀ c ∈ r, -1000000000000000 ≤ c ∧ c ≤ 1000000000000000
theorem clZ.z {rs : List (List Int)} {n : Nat} (h : clZ rs) (hn : 60 ≤ n := by decide) : ∀ r ∈ rs, ∀ c ∈ r, Z n c := fun r hr c hc => by
  have := h r hr c hc
  refine Z.mono (n := 60) ?_ hn
  unfold Z
  have e : (2 : Nat) ^ 60 = 1152921504606846976 := rfl
  omega
theorem r_popAt {H : Hp} {Q : VK} {l : Addr} {xs : List V} {r : Int} {y : V} (h : H l = some (.lst xs)) (h0 : 0 ≤ r) (h1 : r < xs.length) (hl : xs.length ≤ 1000) (hy : xs[r.toNat]? = some y) (q : Q y (upd H l (.lst (xs.eraseIdx r.toNat)))) : rPopAt (.ref l) [.int r] H Q := by
  refine ⟨l, xs, r, r.toNat, y, rfl, rfl, h, by omega, by omega, ?_, hy, q⟩
  have e : ((if r < 0 then r + (xs.length : Int) else r) : Int) = r := if_neg (by omega)
  simp only [seqIndex?, e]
  rw [if_pos (by simp; omega)]
def spCloth : Sp := sp2 fun b m H Q _ => ∃ (p : Addr) (n : Int), b = .ref p ∧ m = .int 9 ∧ n ≤ 70000 ∧ Bag H p n ∧
  ∀ q cs rs H', Bg p H H' → Bag H' p (n + 300) → H q = none → (∀ t ∈ cs, H t = none) → H' q = some (.lst (cs.map V.ref)) → LA H' cs rs → GV.okR rs → clZ rs → Q (.ref q) H'
theorem ok__law_cloth {P : Program} {w : World} {K : PySem.W.Frag} {mg : Str → Option Value} {base : Heap} (T : Txt K mg) : ∃ fd, FnOk P w K mg base (L2.CX P w) 5 (He.ga K "_law_cloth") fd ["loom", "most"] (spCloth) ∧ Binds K fd ["loom", "most"] [] := by
  obtain ⟨fd, F⟩ := T.d__law_cloth
  obtain ⟨fd__law_weft, F__law_weft, B__law_weft⟩ := ok__law_weft (P := P) (w := w) (base := base) T
  obtain ⟨fd__law_total, F__law_total, B__law_total⟩ := ok__law_total (P := P) (w := w) (base := base) T
  obtain ⟨fd__law_strip, F__law_strip, B__law_strip⟩ := ok__law_strip (P := P) (w := w) (base := base) T
  obtain ⟨fd__law_thread, F__law_thread, B__law_thread⟩ := ok__law_thread (P := P) (w := w) (base := base) T
  refine ⟨fd, F.ok sc__law_cloth sp2_len (fun cdv A outer s H vs Q E hr h => ?_), F.bindsN fun _ _ _ _ _ _ us hl => match us, hl with | [_, _], _ => rfl⟩
  have hr__law_weft : Room 1 _ := hr.mono (by decide)
  have hr__law_total : Room 1 _ := hr.mono (by decide)
  have hr__law_strip : Room 4 _ := hr.mono (by decide)
  have hr__law_thread : Room 2 _ := hr.mono (by decide)
  obtain ⟨b0, m0, rfl, p, n, rfl, rfl, hn, hb, k⟩ := sp2_is h
  refine ⟨_, (pss_cons (ps_asg (pe_tup (pa_cons (pe_op op_add pe_int (pe_call F__law_weft hr__law_weft (by rfl) T.g__law_weft T.k__law_weft B__law_weft .nil passL (pa_cons (pv 0) (pa_cons pe_int pa_nil)))) (pa_cons (pe_call F__law_thread hr__law_thread (by rfl) T.g__law_thread T.k__law_thread B__law_thread .nil passL (pa_cons (pv 0) (pa_cons (pe_lst (pa_cons pe_int (pa_cons pe_int (pa_cons pe_int (pa_cons (pe_op op_powW pe_int pe_int) (pa_cons (pe_op op_powW pe_int pe_int) pa_nil)))))) pa_nil))) pa_nil))) (pg_tup rfl (pgs_cons (pg_name (i := 2) sc__law_cloth.nd rfl (Or.inr rfl)) (pgs_cons (pg_name (i := 3) sc__law_cloth.nd rfl (Or.inr rfl)) pgs_nil))))
      (pss_cons (ps_set (i := 4) sc__law_cloth.nd rfl (Or.inl rfl) (pe_lst pa_nil))
      (pss_cons (ps_for (passes_of rfl) rfl (pi_range1 (by rfl) T.b_range (pa_cons (pe_op op_add pe_int (pe_call F__law_weft hr__law_weft (by rfl) T.g__law_weft T.k__law_weft B__law_weft .nil passL (pa_cons (pv 0) (pa_cons pe_int pa_nil)))) pa_nil)) (pg_name (i := 5) sc__law_cloth.nd rfl (Or.inl rfl)) (pss_cons (ps_set (i := 6) sc__law_cloth.nd rfl (Or.inl rfl) (pe_call F__law_strip hr__law_strip (by rfl) T.g__law_strip T.k__law_strip B__law_strip .nil passL (pa_cons (pv 0) (pa_cons (pv 2) (pa_cons (pv 3) pa_nil)))))
      (pss_one (ps_if (pt_cmpR op_le (pe_op op_add (pe_callB (kx_lens rfl) (by rfl) T.b_len PySem.boot_len (pa_cons (pv 4) pa_nil)) (pe_callB (kx_lens rfl) (by rfl) T.b_len PySem.boot_len (pa_cons (pv 6) pa_nil))) (pv 1) (nomark _)) (pss_one (ps_expr (pe_bm PySem.F.plainAttrs_list PySem.F.slot_list_extend PySem.F.type_list_extend mt_extend (pv 4) (pa_cons (pv 6) pa_nil)))) pss_nil))))
      (pss_cons (ps_if (pt_cmpR op_isN (pe_call F__law_total hr__law_total (by rfl) T.g__law_total T.k__law_total B__law_total .nil passL (pa_cons (pv 4) pa_nil)) pe_non (nomark _)) (pss_one (ps_setLc (i := 4) (own := [("at", 8)]) (g := gName 8) (tt := tYes)  rfl sc__law_cloth.nd rfl rfl (sw_true rfl rfl rfl (by decide +kernel)) (pi_range1 (by rfl) T.b_range (pa_cons (pv 2) pa_nil)) (blkOk_by (own := [("at", 8)]) (N := ["loom", "most", "length", "size", "rows", "turn", "more", "spot", "at", "found"]) (sc := defScope s__law_cloth) (by decide +kernel)) (fun _ _ _ _ _ => (pg_name (i := 8) sc__law_cloth.nd rfl (Or.inr rfl))) (fun _ _ _ _ _ => pts_nil) (fun _ _ _ _ _ => (pe_lc (own := [("spot", 7)]) (g := gName 7) (tt := tYes)  rfl sc__law_cloth.nd (pi_range1 (by rfl) T.b_range (pa_cons (pv 2) pa_nil)) (blkOk_by (own := [("spot", 7)]) (N := ["loom", "most", "length", "size", "rows", "turn", "more", "spot", "at", "found"]) (by rfl)) (fun _ _ _ _ _ => (pg_name (i := 7) sc__law_cloth.nd rfl (Or.inl rfl))) (fun _ _ _ _ _ => pts_nil) (fun _ _ _ _ _ => (pe_op op_mulW (pv 3) (pe_callTy call_int1 (by rfl) T.b_int (by decide +kernel) (pa_cons (pe_cmpR op_eq (pv 8) (pv 7) (nomark _)) pa_nil)))))))) pss_nil)
      (pss_cons (ps_set (i := 9) sc__law_cloth.nd rfl (Or.inl rfl) (pe_lst pa_nil))
      (pss_cons (ps_for (passes_of rfl) rfl (pi_range1 (by rfl) T.b_range (pa_cons (pe_callB (kx_lens rfl) (by rfl) T.b_len PySem.boot_len (pa_cons (pv 4) pa_nil)) pa_nil)) (pg_name (i := 5) sc__law_cloth.nd rfl (Or.inl rfl)) (pss_one (ps_expr (pe_bm PySem.F.plainAttrs_list PySem.F.slot_list_append PySem.F.type_list_append mt_append (pv 9) (pa_cons (pe_bm PySem.F.plainAttrs_list PySem.F.slot_list_pop PySem.F.type_list_pop mt_popAt (pv 4) (pa_cons (pe_call F__law_weft hr__law_weft (by rfl) T.g__law_weft T.k__law_weft B__law_weft .nil passL (pa_cons (pv 0) (pa_cons (pe_callB (kx_lens rfl) (by rfl) T.b_len PySem.boot_len (pa_cons (pv 4) pa_nil)) pa_nil))) pa_nil)) pa_nil)))))
      (pss_one (ps_ret (pv 9))))))))), ?_⟩
  walk_at "rd"
  refine r_DrawG hb (by omega) (by decide) (zsm (by decide)) fun r H1 r0 r1 g1 b1 => ?_
  walk_at "rd"
  refine r_pow (p10 4 (by decide)) p104 ?_
  walk_at "rd"
  refine r_pow (p10 13 (by decide)) p1013 ?_
  walk_at "rd"
  refine r_newL (sz_le (by simp)) fun t0 H2 ht0 e2 h2 => ?_
  walk_at "rd"
  refine r_One (H0 := H2) (b1.ex e2) h2 (fun _ _ _ z => by cases z) (by simp) (by simp) (by omega) fun v H3 hv g3 b3 => ?_
  obtain ⟨size, rfl, s1, s2⟩ : ∃ size : Int, v = .int size ∧ 1 ≤ size ∧ size ≤ 10000000000000 := by
    simp only [List.mem_cons, List.not_mem_nil, or_false] at hv
    rcases hv with rfl | rfl | rfl | rfl | rfl <;> exact ⟨_, rfl, by decide, by decide⟩
  walk_at "rd"
  refine r_newT (sz_le (by simp)) fun t1 H4 ht1 e4 h4 => ?_
  refine r_gTup h4 rfl (r_gCons (r_gName (r_gCons (r_gName (r_gNil ?_)))))
  obtain ⟨d, hd⟩ : ∃ d : Nat, 1 + r = (d : Int) := ⟨(1 + r).toNat, by omega⟩
  have d1 : 1 ≤ d := by omega
  have d3 : d ≤ 3 := by omega
  rw [hd]
  walk_at "rd"
  refine r_newL (Nat.zero_le _) fun q H5 hq e5 h5 => ?_
  have g5 : Bg p H H5 := ((((g1.trans (Bg.of e2)).trans g3).trans (Bg.of e4)).trans (Bg.of e5))
  have b5 : Bag H5 p (n + 2) := (((b3.ex e4).ex e5)).le (by omega)
  have hqH : H q = none := Bg.free ((((g1.trans (Bg.of e2)).trans g3).trans (Bg.of e4))) hb hq
  have fr : ∀ {t : Addr}, H5 t = none → H t = none := fun h => Bg.free g5 hb h
  clear g1 g3 b1 b3 h2 h4 e2 e4 e5 ht0 ht1 hq
  walk_at "rx"
  refine r_seqJ (fun σ' H' => ∃ cs rs s5 s6, σ' = [some (.ref p), some (.int 9), some (.int d), some (.int size), some (.ref q), s5, s6, none, none, none] ∧ Bg p H H' ∧ Bag H' p (n + 150) ∧ H' q = some (.lst (cs.map V.ref)) ∧ q ∉ cs ∧ (∀ t ∈ cs, H t = none) ∧ LA H' cs rs ∧ GV.shE d rs ∧ clZ rs) (fun N hN => ?_) ?_
  · walk_at "rd"
    refine r_DrawG b5 (by omega) (by decide) (zsm (by decide)) fun m H6 m0 m1 g6 b6 => ?_
    walk_at "rd"
    have h6 := g6.at_ (ls_ne (cs := []) b5 h5) h5
    obtain ⟨mm, hm⟩ : ∃ mm : Nat, 1 + m = (mm : Int) := ⟨(1 + m).toNat, by omega⟩
    rw [hm]
    refine ⟨_, rfl, by omega, by omega, ?_⟩
    refine for_of (walk_range (lo := 0) (n := mm)) (fun i σ' H' => ∃ cs rs s5 s6, σ' = [some (.ref p), some (.int 9), some (.int d), some (.int size), some (.ref q), s5, s6, none, none, none] ∧ Bg p H H' ∧ Bag H' p (n + 3 + 20 * (i : Nat)) ∧ H' q = some (.lst (cs.map V.ref)) ∧ q ∉ cs ∧ (∀ t ∈ cs, H t = none) ∧ LA H' cs rs ∧ GV.shE d rs ∧ clZ rs)
      ⟨[], [], none, none, rfl, g5.trans g6, b6.le (by omega), h6, by simp, (fun t h => nomatch h), LA.nil, ⟨by simp, (fun r h => nomatch h)⟩, (fun r h => nomatch h)⟩ (fun _ _ _ _ _ => trivial) ?_ ?_
    · rintro i x σ' H7 H8 hi ⟨cs, rs, s5, s6, rfl, g7, b7, h7, hnq, hfr, hla, hsh, hz⟩ ⟨rfl, rfl⟩
      refine r_gName ?_
      walk_at "rd"
      refine ⟨p, _, d, size, rfl, rfl, rfl, d1, d3, s1, s2, by omega, b7, fun q2 cs2 rs2 H9 g9 b9 hq2 hc2 h9 hla2 hst => ?_⟩
      walk_at "rd"
      have h79 := g9.at_ (ls_ne b7 h7) h7
      refine r_lenL h79 ?_
      walk_at "rd"
      refine r_lenL h9 ?_
      walk_at "rd"
      have l1 := hla.1
      have l2 := hla2.1
      by_cases c : cs.length + cs2.length ≤ 9
      · refine ite_t (decide_eq_true (by rw [List.length_map, List.length_map]; omega)) ?_
        walk_at "rd"
        refine r_bm ?_
        walk_at "rd"
        refine ⟨tyL h79, ?_⟩
        walk_at "rd"
        refine ⟨q, q2, _, _, rfl, rfl, h79, h9, sz_le (by simp; omega), ?_⟩
        walk_at "rd"
        have nq2 : q ∉ cs2 := fun z => by have := hc2 q z; rw [h7] at this; cases this
        have hq9 : H q = none := hqH
        refine ⟨cs ++ cs2, rs ++ rs2, _, _, rfl, (g7.trans g9).updD hb hq9, ?_, by rw [upd_same, List.map_append], by simp [hnq, nq2], fun t ht => ?_, ((hla.bg b7 g9).app hla2).upd (by simp [hnq, nq2]), ⟨by simp; omega, fun r hr => ?_⟩, fun r hr => ?_⟩
        · refine (b9.updD hb (g7.trans g9) hq9).le (by push_cast; omega)
        · rcases List.mem_append.mp ht with z | z
          · exact hfr t z
          · exact Bg.free g7 hb (hc2 t z)
        · rcases List.mem_append.mp hr with z | z
          · exact hsh.2 r z
          · exact (hst.2.2 r z).1
        · rcases List.mem_append.mp hr with z | z
          · exact hz r z
          · exact (hst.2.2 r z).2
      · refine ite_f (decide_eq_false (by rw [List.length_map, List.length_map]; omega)) ?_
        walk_at "rd"
        exact ⟨cs, rs, _, _, rfl, g7.trans g9, b9.le (by push_cast; omega), h79, hnq, hfr, hla.bg b7 g9, hsh, hz⟩
    · rintro σ' H' ⟨cs, rs, s5, s6, rfl, g7, b7, r7⟩
      exact hN _ _ ⟨cs, rs, s5, s6, rfl, g7, b7.le (by omega), r7⟩
  clear h5 g5 b5 fr
  rintro σ' H6 ⟨cs, rs, s5, s6, rfl, g6, b6, h6, hnq, hfr, hla, hsh, hz⟩
  refine r_seqJ (fun σ' H' => ∃ q cs rs s5 s6 s7 s8, σ' = [some (.ref p), some (.int 9), some (.int d), some (.int size), some (.ref q), s5, s6, s7, s8, none] ∧ Bg p H H' ∧ Bag H' p (n + 150) ∧ H q = none ∧ H' q = some (.lst (cs.map V.ref)) ∧ q ∉ cs ∧ (∀ t ∈ cs, H t = none) ∧ LA H' cs rs ∧ GV.okR rs ∧ clZ rs) (fun N hN => ?_) ?_
  · walk_at "rd"
    refine ⟨rs, ⟨q, cs, rfl, h6, hla⟩, ?_, hz.z, fun H7 e7 => ?_⟩
    · by_cases c : rs = []
      · exact .inl c
      · exact .inr (hsh.sh d1 d3 c).1
    walk_at "rd"
    by_cases c : tv rs = .non
    · refine ⟨rfl, _, rfl, ite_t (decide_eq_true c) ?_⟩
      walk_at "rd"
      refine ⟨_, rfl, by omega, by omega, ?_⟩
      rw [Int.toNat_natCast]
      refine r_lcLs (n := d) (k := 8) walk_range (fun i => ((List.range d).map fun j => GV.idn size i j).map V.int) (by omega) (fun _ _ => trivial) (fun _ => rfl) ?_ ?_
      · rintro i y H3 H4 hi e3 ⟨rfl, rfl⟩
        refine ⟨Ex.refl _, fun R kR => ?_⟩
        walk_at "rd"
        refine ⟨_, rfl, by omega, by omega, ?_⟩
        rw [Int.toNat_natCast]
        refine r_lcM (n := d) (k := 7) walk_range (fun j => .int (GV.idn size i j)) (by omega) (fun _ _ => trivial) (fun _ => rfl) ?_ fun D H4 hD e4 h4 => ?_
        · rintro j y H4 H5 hj e4 ⟨rfl, rfl⟩
          refine ⟨Ex.refl _, fun H6 e6 R2 kR2 => ?_⟩
          walk_at "rd"
          refine r_I (mulOk (n := 100) (m := 2) (by unfold Z; have : (2 : Nat) ^ 100 = 1267650600228229401496703205376 := rfl; omega) (by unfold Z; split <;> decide) (by decide) (by decide) (by decide)) ?_
          have e : (decide ((0 : Int) + (i : Nat) = 0 + (j : Nat))) = decide (i = j) := decide_eq_decide.mpr (by omega)
          rw [e]
          exact kR2 _ (Ex.refl _)
        · refine kR D H4 e4 hD ?_
          rw [h4, List.map_map]
          rfl
      · intro q8 ts H8 hq8 e8 h8 hlen hnd hnew hrow
        have g8 : Bg p H H8 := (g6.trans (Bg.of e7)).trans (Bg.of e8)
        have fr : ∀ {t : Addr}, H7 t = none → H t = none := fun h => Bg.free (g6.trans (Bg.of e7)) hb h
        refine hN _ _ ⟨q8, ts, GV.mat (GV.idn size) d, s5, s6, none, none, rfl, g8, (b6.ex e7).ex e8, fr hq8, h8, (List.nodup_cons.mp hnd).1, fun t ht => fr (hnew t ht), la_rows hlen hrow, GV.up_unit (by omega) d d1 d3, fun r hr c hc => ?_⟩
        obtain ⟨i, hi, rfl⟩ := List.mem_map.mp hr
        obtain ⟨j, hj, rfl⟩ := List.mem_map.mp hc
        unfold GV.idn
        split <;> omega
    · refine ⟨rfl, _, rfl, ite_f (decide_eq_false c) ?_⟩
      have hok : GV.okR rs := tv_is (by
        by_cases c : rs = []
        · exact .inl c
        · exact .inr (hsh.sh d1 d3 c).1) c
      exact hN _ _ ⟨q, cs, rs, s5, s6, none, none, rfl, g6.trans (Bg.of e7), b6.ex e7, hqH, e7 _ _ h6, hnq, hfr, hla.ex e7, hok, hz⟩
  clear h6 g6 b6 hnq hfr hla hsh hz hqH
  rintro σ' H7 ⟨q, cs, rs, s5, s6, s7, s8, rfl, g7, b7, hq0, h7, hnq, hfr, hla, hok, hz⟩
  walk_at "rd"
  refine r_newL (Nat.zero_le _) fun f H8 hf e8 h8 => ?_
  walk_at "rd"
  refine r_lenL (e8 _ _ h7) ?_
  walk_at "rd"
  have lcs : cs.length = rs.length := hla.1
  have l9 := hok.1.2.1
  have ffr : H f = none := Bg.free g7 hb hf
  have nqf : q ≠ f := by rintro rfl; rw [h7] at hf; cases hf
  refine ⟨_, rfl, by omega, by rw [List.length_map]; omega, ?_⟩
  rw [Int.toNat_natCast]
  have nfc : f ∉ cs := fun z => by
    obtain ⟨j, hj⟩ := List.getElem?_of_mem z
    obtain ⟨r, _, hr⟩ := hla.at hj
    rw [hf] at hr
    cases hr
  refine for_of (walk_range (lo := 0) (n := (cs.map V.ref).length)) (fun i σ' H' => ∃ c1 c2 r1 r2 s5, σ' = [some (.ref p), some (.int 9), some (.int d), some (.int size), some (.ref q), s5, s6, s7, s8, some (.ref f)] ∧ Bg p H H' ∧ Bag H' p (n + 150 + (i : Nat)) ∧ H' f = some (.lst (c1.map V.ref)) ∧ H' q = some (.lst (c2.map V.ref)) ∧ LA H' c1 r1 ∧ LA H' c2 r2 ∧ (r1 ++ r2).Perm rs ∧ r1.length = i ∧ (∀ t ∈ c1 ++ c2, H t = none ∧ t ≠ q ∧ t ≠ f))
    ⟨[], cs, [], rs, s5, rfl, g7.trans (Bg.of e8), (b7.ex e8).le (by omega), h8, e8 _ _ h7, LA.nil, hla.ex e8, List.Perm.refl _, rfl, fun t ht => ⟨hfr t ht, fun z => hnq (z ▸ ht), fun z => nfc (z ▸ ht)⟩⟩ (fun _ _ _ _ _ => trivial) ?_ ?_
  · rintro i x σ' H9 H10 hi ⟨c1, c2, r1, r2, s5, rfl, g9, b9, hf9, hq9, la1, la2, hpm, hl1, hfr9⟩ ⟨rfl, rfl⟩
    refine r_gName ?_
    rw [List.length_map] at hi
    have lr : r1.length + r2.length = rs.length := by rw [← List.length_append]; exact hpm.length_eq
    have lc2 := la2.1
    walk_at "rd"
    refine r_bm ?_
    walk_at "rd"
    refine ⟨tyL hf9, ?_⟩
    walk_at "rd"
    refine r_bm ?_
    walk_at "rd"
    refine ⟨tyL hq9, ?_⟩
    walk_at "rd"
    refine r_lenL hq9 ?_
    walk_at "rd"
    refine r_DrawG b9 (by omega) (by rw [List.length_map]; omega) (zsm (by rw [List.length_map]; omega)) fun r H11 r0 r1' g11 b11 => ?_
    walk_at "rd"
    rw [List.length_map] at r1'
    have hf11 := g11.at_ (ls_ne b9 hf9) hf9
    have hq11 := g11.at_ (ls_ne b9 hq9) hq9
    have hk : r.toNat < c2.length := by omega
    have hk2 : r.toNat < r2.length := by omega
    refine r_popAt hq11 r0 (by rw [List.length_map]; omega) (by rw [List.length_map]; omega) (y := .ref c2[r.toNat]) (by rw [List.getElem?_map]; simp [hk]) ?_
    have nfq : f ≠ q := nqf.symm
    have hf12 : (upd H11 q (.lst ((c2.map V.ref).eraseIdx r.toNat))) f = some (.lst (c1.map V.ref)) := by rw [upd_ne nfq]; exact hf11
    walk_at "rd"
    refine r_app hf12 (by rw [List.length_map]; have := la1.1; omega) ?_
    walk_at "rd"
    have g12 : Bg p H (upd (upd H11 q (.lst ((c2.map V.ref).eraseIdx r.toNat))) f (.lst (c1.map V.ref ++ [V.ref c2[r.toNat]]))) := ((g9.trans g11).updD hb hq0).updD hb ffr
    have b12 : Bag (upd (upd H11 q (.lst ((c2.map V.ref).eraseIdx r.toNat))) f (.lst (c1.map V.ref ++ [V.ref c2[r.toNat]]))) p (n + 150 + (i : Nat) + 1) := (b11.updD hb (g9.trans g11) hq0).updD hb ((g9.trans g11).updD hb hq0) ffr
    have m2 : ∀ {t}, t ∈ c2.eraseIdx r.toNat → t ∈ c2 := fun h => List.mem_of_mem_eraseIdx h
    have la12 : LA H11 c1 r1 := la1.bg b9 g11
    have la22 : LA H11 c2 r2 := la2.bg b9 g11
    have hx : r2[r.toNat]? = some r2[r.toNat] := by simp [hk2]
    have hrow := la22.2 r.toNat c2[r.toNat] _ (by simp [hk]) hx
    have cm : c2[r.toNat] ∈ c1 ++ c2 := List.mem_append_right _ (List.getElem_mem hk)
    refine ⟨c1 ++ [c2[r.toNat]], c2.eraseIdx r.toNat, r1 ++ [r2[r.toNat]], r2.eraseIdx r.toNat, _, rfl, g12, b12.le (by push_cast; omega), by rw [upd_same, List.map_append]; rfl, by rw [upd_ne nqf, upd_same, map_erase], ?_, ?_, ?_, by simp [hl1], fun t ht => hfr9 t ?_⟩
    · refine LA.upd (LA.upd (la12.app (LA.cons hrow LA.nil)) fun z => ?_) fun z => ?_
      · rcases List.mem_append.mp z with z | z
        · exact (hfr9 q (List.mem_append_left _ z)).2.1 rfl
        · exact (hfr9 _ cm).2.1 (List.mem_singleton.mp z).symm
      · rcases List.mem_append.mp z with z | z
        · exact (hfr9 f (List.mem_append_left _ z)).2.2 rfl
        · exact (hfr9 _ cm).2.2 (List.mem_singleton.mp z).symm
    · exact LA.upd (LA.upd (la22.erase _) fun z => (hfr9 q (List.mem_append_right _ (m2 z))).2.1 rfl) fun z => (hfr9 f (List.mem_append_right _ (m2 z))).2.2 rfl
    · rw [List.append_assoc]
      exact (List.Perm.append_left r1 (erase_perm r2 hk2)).trans hpm
    · rcases List.mem_append.mp ht with z | z
      · rcases List.mem_append.mp z with z | z
        · exact List.mem_append_left _ z
        · rw [List.mem_singleton.mp z]; exact cm
      · exact List.mem_append_right _ (m2 z)
  · rintro σ' H' ⟨c1, c2, r1, r2, s5, rfl, g9, b9, hf9, hq9, la1, la2, hpm, hl1, hfr9⟩
    rw [List.length_map, lcs] at hl1
    have hr2 : r2 = [] := List.length_eq_zero_iff.mp (by have := hpm.length_eq; rw [List.length_append] at this; omega)
    subst hr2
    rw [List.append_nil] at hpm
    have ok1 : GV.okR r1 := ⟨GV.sh_perm hpm.symm hok.1, by rw [GV.up_perm hpm.symm hok.1]; exact hok.2⟩
    walk_at "rd"
    exact k f c1 r1 H' g9 (b9.le (by rw [List.length_map]; omega)) ffr (fun t ht => (hfr9 t (List.mem_append_left _ ht)).1) hf9 la1 ok1 fun r hr => hz r (hpm.mem_iff.mp hr)

end K31
namespace K31
open PySem PySem.Spec PyProof.Rows L2 GS TL
local macro_rules | `(tactic| walk_at "rd") => `(tactic| (repeat (first
  | with_reducible refine r_next ?_
  | with_reducible refine r_seq ?_
  | with_reducible refine r_ret ?_
  | with_reducible refine r_ifS ?_
  | with_reducible refine r_asg ?_
  | with_reducible refine r_drop ?_
  | with_reducible refine r_op ?_
  | with_reducible refine r_un ?_
  | with_reducible refine r_cbInt ?_
  | with_reducible refine r_cbAbs ?_
  | with_reducible refine r_cbLen ?_
  | with_reducible refine r_cbList ?_
  | with_reducible refine r_cbTup ?_
  | with_reducible refine r_iEnT ?_
  | with_reducible refine r_iEnL ?_
  | with_reducible refine r_zipA ?_
  | with_reducible refine r_zipX ?_
  | with_reducible refine r_augS ?_
  | with_reducible refine r_cb ?_
  | with_reducible refine r_call ?_
  | with_reducible refine r_make ?_
  | with_reducible refine r_callN0 ?_
  | with_reducible refine r_makeK0 ?_
  | with_reducible refine r_makeS ?_
  | with_reducible refine r_callS ?_
  | with_reducible refine r_cons ?_
  | with_reducible refine r_nil ?_
  | with_reducible refine r_test ?_
  | with_reducible refine r_B ?_
  | with_reducible refine r_and ?_
  | with_reducible refine r_or ?_
  | with_reducible refine r_not ?_
  | with_reducible refine r_andV ?_
  | with_reducible refine r_orV ?_
  | with_reducible refine r_notV ?_
  | with_reducible refine r_if ?_
  | with_reducible refine r_tup ?_
  | with_reducible refine r_lst ?_
  | with_reducible refine r_c ?_
  | with_reducible refine r_lc ?_
  | with_reducible refine r_chain ?_
  | with_reducible refine r_iT ?_
  | with_reducible refine r_iL ?_
  | with_reducible refine r_iR1 ?_
  | with_reducible refine r_iR2 ?_
  | with_reducible refine r_iR3 ?_
  | with_reducible refine r_asgG ?_
  | with_reducible refine r_gSub ?_
  | with_reducible refine r_for ?_
  | with_reducible refine r_smeth ?_
  | with_reducible refine r_par ?_
  | with_reducible refine r_parK ?_
  | with_reducible refine r_gCons ?_
  | with_reducible refine r_gNil ?_
  | with_reducible refine r_gName ?_
  | with_reducible refine r_intI ?_
  | with_reducible refine r_intB ?_
  | with_reducible refine r_absI ?_
  | with_reducible refine r_k ?_
  | with_reducible refine r_kV ?_
  | ((with_reducible show tVar _ _ _ _); refine r_var3 ?_ (by rfl))
  | with_reducible refine r_I0 ?_
  | with_reducible refine r_U ?_
  | with_reducible refine r_eqI ?_
  | with_reducible refine r_neI ?_
  | with_reducible refine r_F ?_
  | dsimp only)))
local macro_rules | `(tactic| walk_at "rx") => `(tactic| (repeat (first
  | with_reducible refine r_next ?_
  | with_reducible refine r_ret ?_
  | with_reducible refine r_ifS ?_
  | with_reducible refine r_asg ?_
  | with_reducible refine r_drop ?_
  | with_reducible refine r_op ?_
  | with_reducible refine r_un ?_
  | with_reducible refine r_cbInt ?_
  | with_reducible refine r_cbAbs ?_
  | with_reducible refine r_cbLen ?_
  | with_reducible refine r_cbList ?_
  | with_reducible refine r_cbTup ?_
  | with_reducible refine r_iEnT ?_
  | with_reducible refine r_iEnL ?_
  | with_reducible refine r_zipA ?_
  | with_reducible refine r_zipX ?_
  | with_reducible refine r_augS ?_
  | with_reducible refine r_cb ?_
  | with_reducible refine r_call ?_
  | with_reducible refine r_make ?_
  | with_reducible refine r_callN0 ?_
  | with_reducible refine r_makeK0 ?_
  | with_reducible refine r_makeS ?_
  | with_reducible refine r_callS ?_
  | with_reducible refine r_cons ?_
  | with_reducible refine r_nil ?_
  | with_reducible refine r_test ?_
  | with_reducible refine r_B ?_
  | with_reducible refine r_and ?_
  | with_reducible refine r_or ?_
  | with_reducible refine r_not ?_
  | with_reducible refine r_andV ?_
  | with_reducible refine r_orV ?_
  | with_reducible refine r_notV ?_
  | with_reducible refine r_if ?_
  | with_reducible refine r_tup ?_
  | with_reducible refine r_lst ?_
  | with_reducible refine r_c ?_
  | with_reducible refine r_lc ?_
  | with_reducible refine r_chain ?_
  | with_reducible refine r_iT ?_
  | with_reducible refine r_iL ?_
  | with_reducible refine r_iR1 ?_
  | with_reducible refine r_iR2 ?_
  | with_reducible refine r_iR3 ?_
  | with_reducible refine r_asgG ?_
  | with_reducible refine r_gSub ?_
  | with_reducible refine r_for ?_
  | with_reducible refine r_smeth ?_
  | with_reducible refine r_par ?_
  | with_reducible refine r_parK ?_
  | with_reducible refine r_gCons ?_
  | with_reducible refine r_gNil ?_
  | with_reducible refine r_gName ?_
  | with_reducible refine r_intI ?_
  | with_reducible refine r_intB ?_
  | with_reducible refine r_absI ?_
  | with_reducible refine r_k ?_
  | with_reducible refine r_kV ?_
  | ((with_reducible show tVar _ _ _ _); refine r_var3 ?_ (by rfl))
  | with_reducible refine r_I0 ?_
  | with_reducible refine r_U ?_
  | with_reducible refine r_eqI ?_
  | with_reducible refine r_neI ?_
  | with_reducible refine r_F ?_
  | dsimp only)))
/-! ### texts of rows -/
theorem ntB_nS {i : Int} (h : i.natAbs < 10 ^ 60) : ntB (nS i) = true := by
  have e : dgt (nS i) = dg i := rp_nS i
  have l1 : 1 ≤ (dg i).length := List.length_pos_iff.mpr (dg_ne i)
  have l2 := dg_len (k := 60) (by decide) h
  have d := dg_digits i
  have ha : (dg i).all isD = true := List.all_eq_true.mpr fun c hc => decide_eq_true (iD_mem (d c hc))
  unfold ntB
  rw [e, ha, decide_eq_true l1, decide_eq_true l2]
  by_cases z : i = 0
  · subst z
    decide +kernel
  · have hh := numL_head (n := i.natAbs) (by omega)
    have : (dg i).headD 48 ≠ 48 := by
      unfold dg at *
      cases q : numL i.natAbs with
      | nil => exact absurd q (numL_ne _)
      | cons a r =>
        rw [q] at hh
        intro z
        exact hh (by show some a = _; rw [show a = 48 from z])
    rw [decide_eq_false this]
    rfl
/-- what an item tells -/
def OkI (y : Str) (o : Option Int) : Prop := (y.length ≤ 100 ∧ ∀ c ∈ tl y, c < 1114112) ∧ 32 ∉ tl y ∧ ntB y = o.isSome ∧ ∀ i, o = some i → y = nS i ∧ i.natAbs < 10 ^ 60
theorem nS_cp (i : Int) : ∀ c ∈ tl (nS i), c < 1114112 := by
  have d := dg_digits i
  by_cases c : 0 ≤ i
  · rw [tl_nS_nn c]
    exact fun c hc => by have := d c hc; omega
  · rw [tl_nS_neg (by omega)]
    intro c hc
    rcases List.mem_cons.mp hc with rfl | hc
    · decide
    · have := d c hc; omega
theorem okI_nS {i : Int} (h : i.natAbs < 10 ^ 60) : OkI (nS i) (some i) := by
  refine ⟨⟨?_, nS_cp i⟩, nS_free (by decide) (by decide), ntB_nS h, fun j e => ?_⟩
  · have := nS_len (k := 60) (by decide) h
    omega
  · cases e
    exact ⟨rfl, h⟩
theorem okI_no {y : Str} (h : (y.length ≤ 100 ∧ ∀ c ∈ tl y, c < 1114112) ∧ 32 ∉ tl y ∧ ntB y = false) : OkI y none := ⟨h.1, h.2.1, h.2.2, fun i e => by cases e⟩
/-- items and what they tell -/
inductive Its : List Str → List (Option Int) → Prop
  | nil : Its [] []
  | cons {y : Str} {o : Option Int} {ys : List Str} {vs : List (Option Int)} : OkI y o → Its ys vs → Its (y :: ys) (o :: vs)
theorem Its.its : ∀ {ys : List Str} {vs : List (Option Int)}, Its ys vs → ItS ys vs
  | _, _, .nil => ⟨rfl, (fun _ h => nomatch h), fun j y o h => by simp at h⟩
  | _, _, .cons (ys := ys) (vs := vs) h t => by
    obtain ⟨t1, t2, t3⟩ := t.its
    refine ⟨by simp [t1], fun y hy => ?_, fun j y o h1 h2 => ?_⟩
    · rcases List.mem_cons.mp hy with rfl | hy
      · have := h.1.1; omega
      · exact t2 y hy
    · cases j with
      | zero => cases h1; cases h2; exact h.2.2
      | succ j => exact t3 j y o (by simpa using h1) (by simpa using h2)
theorem Its.free : ∀ {ys : List Str} {vs : List (Option Int)}, Its ys vs → ∀ y ∈ ys, 32 ∉ tl y ∧ y.length ≤ 100 ∧ ∀ c ∈ tl y, c < 1114112
  | _, _, .nil, _, h => nomatch h
  | _, _, .cons h t, y, hy => by
    rcases List.mem_cons.mp hy with rfl | hy
    · exact ⟨h.2.1, h.1⟩
    · exact t.free y hy
theorem Its.of : ∀ {ys : List Str}, (∀ y ∈ ys, ∃ o, OkI y o) → ∃ vs, Its ys vs
  | [], _ => ⟨[], .nil⟩
  | y :: ys, h => by
    obtain ⟨o, ho⟩ := h y List.mem_cons_self
    obtain ⟨vs, hv⟩ := Its.of fun z m => h z (List.mem_cons_of_mem _ m)
    exact ⟨o :: vs, .cons ho hv⟩
theorem Its.some : ∀ {ys : List Str} {vs : List (Option Int)}, Its ys vs → ∀ y ∈ ys, ∃ o, OkI y o
  | _, _, .cons h t, y, hy => by
    rcases List.mem_cons.mp hy with rfl | hy
    · exact ⟨_, h⟩
    · exact t.some y hy
theorem its_ints : ∀ {cs : List Int}, (∀ c ∈ cs, c.natAbs < 10 ^ 60) → Its (cs.map nS) (cs.map Option.some)
  | [], _ => .nil
  | c :: cs, h => .cons (okI_nS (h c List.mem_cons_self)) (its_ints fun d m => h d (List.mem_cons_of_mem _ m))
def rz (rs : List (List Int)) : Prop := ∀ r ∈ rs, ∀ c ∈ r, c.natAbs < 10 ^ 60
theorem vI_its {rs : List (List Int)} (sh : GV.shR rs) (hz : rz rs) : Its (vI rs) (GV.vsI rs) := by
  refine .cons (okI_nS (by have := sh.2.2.2.1; rw [Int.natAbs_natCast]; omega)) (.cons (okI_no (by decide +kernel)) (its_ints fun c hc => ?_))
  obtain ⟨r, hr, hc⟩ := List.mem_flatten.mp hc
  exact hz r hr c hc
theorem clZ.rz {rs : List (List Int)} (h : clZ rs) : rz rs := fun r hr c hc => by
  have := h r hr c hc
  have e : (10 : Nat) ^ 60 = 1000000000000000000000000000000000000000000000000000000000000 := rfl
  omega
theorem rz.z {rs : List (List Int)} {n : Nat} (h : rz rs) (hn : 200 ≤ n := by decide) : ∀ r ∈ rs, ∀ c ∈ r, Z n c := fun r hr c hc => (show Z 200 c from Nat.lt_of_lt_of_le (h r hr c hc) (by decide)).mono hn
theorem join_len : ∀ {ys : List Str}, (∀ y ∈ ys, y.length ≤ 100) → ys.length ≤ 100 → (Txt.join (Str.ofString " ") ys).length ≤ 20000
  | [], _, _ => by decide
  | y :: ys, h, l => by
    show (Builtin.Str.glued (Str.ofString " ") (y :: ys)).length ≤ _
    rw [StrLaws.glued_eq_join, len_join_cons]
    have := sum_len (n := 100) (y :: ys) h
    have e : (Str.ofString " ").length = 1 := rfl
    rw [e]
    simp only [List.length_cons] at *
    omega
def spText (K : PySem.W.Frag) : Sp := sp1 fun v H Q _ => ∃ rs, LL H v rs ∧ GV.shR rs ∧ rz rs ∧ ∀ H', Ex H H' → Q (.str (vS rs)) H'
theorem nS_log {c : Int} (h : c.natAbs < 10 ^ 60) : c.natAbs.log2 < 1920 := by
  by_cases z : c.natAbs = 0
  · rw [z]; decide +kernel
  · exact Nat.lt_of_lt_of_le ((Nat.log2_lt z).mpr (Nat.lt_of_lt_of_le h (show 10 ^ 60 ≤ 2 ^ 1000 by decide))) (by decide)
theorem ok__law_text {P : Program} {w : World} {K : PySem.W.Frag} {mg : Str → Option Value} {base : Heap} (T : Txt K mg) : ∃ fd, FnOk P w K mg base (L2.CX P w) 1 (He.ga K "_law_text") fd ["rows"] (spText K) ∧ Binds K fd ["rows"] [] := by
  obtain ⟨fd, F⟩ := T.d__law_text
  refine ⟨fd, F.ok sc__law_text sp1_len (fun cdv A outer s H vs Q E hr h => ?_), F.bindsN fun _ _ _ _ _ _ us hl => match us, hl with | [_], _ => rfl⟩
  obtain ⟨v, rfl, rs, ⟨p, cs, rfl, hp, hla⟩, sh, hz, k⟩ := sp1_is h
  refine ⟨_, (pss_cons (ps_set (i := 1) sc__law_text.nd rfl (Or.inl rfl) (pe_lst (pa_cons (pe_callTy call_str_int (by rfl) T.b_str (by decide +kernel) (pa_cons (pe_callB (kx_lens rfl) (by rfl) T.b_len PySem.boot_len (pa_cons (pe_ix (kx_ixl rfl) (pv 0) pe_int (fun _ _ => rfl)) pa_nil)) pa_nil)) (pa_cons pe_str pa_nil))))
      (pss_cons (ps_for (passes_of rfl) rfl (pi_list (pv 0)) (pg_name (i := 2) sc__law_text.nd rfl (Or.inl rfl)) (pss_one (ps_expr (pe_bm PySem.F.plainAttrs_list PySem.F.slot_list_extend PySem.F.type_list_extend mt_extend (pv 1) (pa_cons (pe_lc (own := [("each", 3)]) (g := gName 3) (tt := tYes)  rfl sc__law_text.nd (pi_list (pv 2)) (blkOk_by (own := [("each", 3)]) (N := ["rows", "items", "row", "each"]) (sc := defScope s__law_text) (by decide +kernel)) (fun _ _ _ _ _ => (pg_name (i := 3) sc__law_text.nd rfl (Or.inl rfl))) (fun _ _ _ _ _ => pts_nil) (fun _ _ _ _ _ => (pe_callTy call_str_int (by rfl) T.b_str (by decide +kernel) (pa_cons (pv 3) pa_nil)))) pa_nil)))))
      (pss_one (ps_ret (pe_join pe_str (pv 1)))))), ?_⟩
  walk_at "rd"
  have l0 : 0 < cs.length := by rw [hla.1]; exact sh.1
  have l9 := sh.2.1
  have w3 := sh.2.2.2.1
  have lcs := hla.1
  obtain ⟨r0, hr0, hrow0⟩ := hla.at (j := 0) (t := cs[0]) (by simp [l0])
  refine r_ixL hp (v := .ref cs[0]) (atI_nat (j := 0) (by rw [List.getElem?_map]; simp [l0])) ?_
  walk_at "rd"
  refine len_row (.inl hrow0) ?_
  rw [sh.2.2.2.2 r0 (List.mem_of_getElem? hr0)]
  walk_at "rd"
  refine ⟨_, rfl, nS_log (by rw [Int.natAbs_natCast]; omega), ?_⟩
  walk_at "rd"
  refine r_newL (sz_le (by simp)) fun q H1 hq e1 h1 => ?_
  walk_at "rd"
  refine ⟨p, rfl, ⟨_, SqL.of (e1 _ _ hp)⟩, ?_⟩
  have fl : ∀ m, ((rs.take m).flatten).length ≤ 27 := fun m => by
    have := flat_len (n := 3) (rs.take m) fun r hr => by rw [sh.2.2.2.2 r (List.mem_of_mem_take hr)]; exact w3
    have : (rs.take m).length ≤ 9 := by rw [List.length_take]; omega
    omega
  refine for_of (by simpa using walk_list (xs := cs.map V.ref)) (n := cs.length) (fun i σ' H' => ∃ s2 s3, σ' = [some (.ref p), some (.ref q), s2, s3] ∧ Ex H H' ∧ H' q = some (.lst ((nS (GV.wid rs : Int) :: Str.ofString ":" :: (rs.take i).flatten.map nS).map V.str))) ⟨none, none, rfl, e1, by rw [h1]; rfl⟩ (fun i σ' H' _ ⟨_, _, _, e, _⟩ => SqL.of (e _ _ hp)) ?_ ?_
  · rintro i x σ' H2 H3 hi ⟨s2, s3, rfl, e2, h2⟩ ⟨rfl, hx⟩
    obtain ⟨t, ht, rfl⟩ := ref_at hx
    obtain ⟨r, hr, hrow⟩ := (hla.ex e2).at ht
    refine r_gName ?_
    walk_at "rd"
    refine r_bm ?_
    walk_at "rd"
    refine ⟨tyL h2, ?_⟩
    walk_at "rd"
    refine ⟨t, rfl, ⟨_, SqL.of hrow⟩, ?_⟩
    have lr : r.length = GV.wid rs := sh.2.2.2.2 r (List.mem_of_getElem? hr)
    refine r_lcM (n := r.length) (k := 3) (by simpa using walk_list (xs := r.map V.int)) (fun j => .str (nS (r.getD j 0))) (by omega) (fun H' e => SqL.of (e _ _ hrow)) (fun _ => rfl) ?_ ?_
    · rintro j y H4 H5 hj e4 ⟨rfl, hy⟩
      refine ⟨Ex.refl _, fun H6 e6 R kR => ?_⟩
      obtain ⟨c, hc, rfl⟩ := int_at hy
      walk_at "rd"
      refine ⟨_, rfl, nS_log (hz r (List.mem_of_getElem? hr) c (List.mem_of_getElem? hc)), ?_⟩
      have e : r.getD j 0 = c := by rw [List.getD_eq_getElem?_getD, hc]; rfl
      rw [e] at kR
      exact kR _ (Ex.refl _)
    · intro D H4 hD e4 h4
      walk_at "rd"
      have e : (List.range r.length).map (fun j => V.str (nS (r.getD j 0))) = (r.map nS).map V.str := by
        refine List.ext_getElem (by simp) fun j h1 h2 => ?_
        simp at h1
        simp [h1]
      rw [e] at h4
      refine ⟨q, D, _, _, rfl, rfl, e4 _ _ h2, h4, sz_le ?_, ?_⟩
      · have := fl i
        simp only [List.length_map, List.length_cons]
        omega
      walk_at "rd"
      have hH : H q = none := hq
      refine ⟨_, _, rfl, fun a o ha => ?_, ?_⟩
      · rw [upd_ne (ne_of_none ha hq)]
        exact e4 _ _ (e2 _ _ ha)
      · rw [upd_same, List.take_add_one, hr]
        simp
  · rintro σ' H2 ⟨s2, s3, rfl, e2, h2⟩
    rw [lcs, List.take_length] at h2
    walk_at "rd"
    refine ⟨⟨_, rfl⟩, ?_⟩
    walk_at "rd"
    have vl := vI_len sh
    have := sum_len (n := 61) (vI rs) (vI_each sh hz)
    refine ⟨_, q, vI rs, rfl, rfl, .inl (SqL.of h2), ?_, k H2 e2⟩
    rw [show (Str.ofString " ").length = 1 from rfl, Nat.mul_one]
    omega
/-! ### items as the law reads them -/
theorem rp_tl (z : Str) : tl (Txt.removeprefix z (Str.ofString "-")) = if (tl z).take 1 = [45] then (tl z).drop 1 else tl z := by
  unfold Txt.removeprefix
  by_cases c : (tl z).take 1 = [45]
  · have h1 : Builtin.Str.subAt z (Str.ofString "-") 0 = true := by
      rw [StrLaws.subAt_eq]
      show ((tl z).drop 0).take 1 == [45]
      rw [List.drop_zero, c]
      rfl
    have hl : 0 < z.length := by
      rw [len_tl]
      cases q : tl z with
      | nil => rw [q] at c; cases c
      | cons a r => simp
    rw [if_pos h1, if_pos c]
    show tl (if (z.length - 1 == z.length) = true then z else Builtin.Str.strSub z 1 z.length) = _
    rw [if_neg (by simp; omega), tl_strSub_end]
  · have h1 : Builtin.Str.subAt z (Str.ofString "-") 0 = false := by
      rw [StrLaws.subAt_eq]
      show (((tl z).drop 0).take 1 == [45]) = false
      rw [List.drop_zero]
      simpa using c
    rw [h1, if_neg c]
    rfl
theorem tl_cut (z : Str) (k : Nat) (h : k ≤ 1) : tl (cutS z none (some (k : Int))) = (tl z).take k := by
  unfold cutS
  rw [HT.sIx_none, HT.sIx_nat, List.drop_zero, Nat.sub_zero]
  show ((tl z).take (min k z.length)).toArray.toList = _
  rw [len_tl]
  simp
theorem tl_cut1 (z : Str) : tl (cutS z (some 1) none) = (tl z).drop 1 := by
  unfold cutS
  rw [HT.sIx_none, show (1 : Int) = ((1 : Nat) : Int) from rfl, HT.sIx_nat]
  show (((tl z).drop (min 1 z.length)).take (z.length - min 1 z.length)).toArray.toList = _
  rw [len_tl]
  cases tl z with
  | nil => rfl
  | cons a r => simp
theorem dp_strs {K : PySem.W.Frag} {H : Hp} : ∀ xs : List Str, DpAll K H (xs.map V.str) (xs.map PyData.str)
  | [] => .nil
  | x :: xs => .cons (.str x) (dp_strs xs)
theorem strOk_of {x : Str} (h : ∀ c ∈ tl x, c < 1114112) : PyData.strOk x = true := by
  have : PyData.strOk x = x.cps.toList.all (fun c => decide (c < 1114112)) := by simp [PyData.strOk]
  rw [this]
  exact List.all_eq_true.mpr fun c hc => decide_eq_true (h c hc)
theorem can_strs : ∀ xs : List Str, (∀ x ∈ xs, ∀ c ∈ tl x, c < 1114112) → PyData.canLayAll0 (xs.map PyData.str) = true
  | [], _ => rfl
  | x :: xs, h => by
    have e : PyData.canLay0 (.str x) = true := by simp only [PyData.canLay0]; exact strOk_of (h x List.mem_cons_self)
    show (PyData.canLay0 (.str x) && PyData.canLayAll0 (xs.map PyData.str)) = true
    rw [can_strs xs fun y m => h y (List.mem_cons_of_mem _ m), e]
    rfl
theorem depth_strs : ∀ xs : List Str, PyData.depthAll (xs.map PyData.str) = 0
  | [] => rfl
  | x :: xs => by
    show max _ (PyData.depthAll (xs.map PyData.str)) = 0
    rw [depth_strs xs]
    rfl
theorem shaped_strs (xs : List Str) (h : ∀ x ∈ xs, ∀ c ∈ tl x, c < 1114112) : SeqAt.shaped (.list (xs.map PyData.str)) = true := by
  show (PyData.canLayAll0 (xs.map PyData.str) && decide (PyData.depthAll (xs.map PyData.str) + 1 ≤ 64)) = true
  rw [can_strs xs h, depth_strs]
  rfl
/-- xs != [], texts -/
theorem r_neStrs {K : PySem.W.Frag} {H : Hp} {Q : VK} {p q : Addr} {xs : List Str} (h1 : H p = some (.lst (xs.map V.str))) (h2 : H q = some (.lst [])) (h : ∀ x ∈ xs, ∀ c ∈ tl x, c < 1114112) (k : Q (.bl (!decide (xs = []))) H) : rNeD K (.ref p) (.ref q) H Q := by
  refine ⟨_, _, .lst (SqL.of h1) (dp_strs xs), .lst (SqL.of h2) .nil, shaped_strs xs h, shaped_strs [] (fun _ m => nomatch m), ?_⟩
  show Q (.bl (!PyData.eqvAll (xs.map PyData.str) [])) H
  have e : PyData.eqvAll (xs.map PyData.str) [] = decide (xs = []) := by cases xs <;> rfl
  rw [e]
  exact k
def spWrit (K : PySem.W.Frag) : Sp := sp1 fun v H Q _ => ∃ z : Str, v = .str z ∧ z.length ≤ 1000 ∧ (∀ c ∈ tl z, c < 1114112) ∧ ∀ H', Ex H H' → Q (.bl (ntB z)) H'
theorem ok__law_written {P : Program} {w : World} {K : PySem.W.Frag} {mg : Str → Option Value} {base : Heap} (T : Txt K mg) : ∃ fd, FnOk P w K mg base (L2.CX P w) 1 (He.ga K "_law_written") fd ["item"] (spWrit K) ∧ Binds K fd ["item"] [] := by
  obtain ⟨fd, F⟩ := T.d__law_written
  refine ⟨fd, F.ok sc__law_written sp1_len (fun cdv A outer s H vs Q E hr h => ?_), F.bindsN fun _ _ _ _ _ _ us hl => match us, hl with | [_], _ => rfl⟩
  obtain ⟨v, rfl, z, rfl, hz, hcp0, k⟩ := sp1_is h
  refine ⟨_, (pss_cons (ps_set (i := 1) sc__law_written.nd rfl (Or.inl rfl) (pe_ifExp (pt_cmpR op_eq (pe_slice sl_str (pv 0) po_none (po_some pe_int)) pe_str (nomark _)) (pe_slice sl_str (pv 0) (po_some pe_int) po_none) (pv 0)))
      (pss_cons (ps_if (PW.pt (pw_or (pt_cmpR op_eq (pv 1) pe_str (nomark _)) (pw_or (pt_cmpR op_gt (pe_callB call_len_str (by rfl) T.b_len PySem.boot_len (pa_cons (pv 1) pa_nil)) pe_int (nomark _)) (pw_or1 (pt_cmpR (op_neD hr.units) (pe_lc (own := [("sign", 2)]) (g := gName 2)  rfl sc__law_written.nd (pi_str (pv 1)) (blkOk_by (own := [("sign", 2)]) (N := ["item", "digits", "sign"]) (sc := defScope s__law_written) (by decide +kernel)) (fun _ _ _ _ _ => (pg_name (i := 2) sc__law_written.nd rfl (Or.inl rfl))) (fun _ _ _ _ _ => (pts_one (pt_cmpR op_notIn_sign (pv 2) pe_str rfl))) (fun _ _ _ _ _ => (pv 2))) (pe_lst pa_nil) (nomark _)))))) (pss_one (ps_ret pe_bl)) pss_nil)
      (pss_one (ps_ret (pe_or (pe_cmpR op_eq (pv 0) pe_str (nomark _)) (pe_one (pe_cmpR op_ne (pe_ix ix_str (pv 1) pe_int (fun _ _ => rfl)) pe_str (nomark _)))))))), ?_⟩
  walk_at "rx"
  refine r_seqJ (fun σ' H' => H' = H ∧ ∃ x : Str, σ' = [some (.str z), some (.str x), none] ∧ tl x = dgt z) (fun N hN => ?_) ?_
  · walk_at "rd"
    refine ⟨V.str z, rfl, 1, rfl, z, rfl, sz_le (by omega), ?_⟩
    walk_at "rd"
    refine r_eq rfl ?_
    walk_at "rd"
    have ed : dgt z = if (tl z).take 1 = [45] then (tl z).drop 1 else tl z := rp_tl z
    have e1 := tl_cut z 1 (Nat.le_refl _)
    by_cases c : (tl z).take 1 = [45]
    · refine ite_t (decide_eq_true (congrArg V.str (str_ext (by rw [show (1 : Int) = ((1 : Nat) : Int) from rfl, e1, c]; rfl)))) ?_
      walk_at "rd"
      refine ⟨V.str z, rfl, 1, rfl, z, rfl, sz_le (by omega), ?_⟩
      walk_at "rd"
      exact hN _ _ ⟨rfl, _, rfl, by rw [tl_cut1, ed, if_pos c]⟩
    · refine ite_f (decide_eq_false fun e => c ?_) ?_
      · injection e with e
        rw [← e1, show ((1 : Nat) : Int) = 1 from rfl, e]
        rfl
      · walk_at "rd"
        exact hN _ _ ⟨rfl, _, rfl, by rw [ed, if_neg c]⟩
  · rintro σ' H' ⟨rfl, x, rfl, hx⟩
    have lx : x.length ≤ z.length := by
      have := rp_le z
      rw [len_tl, hx]
      show (tl _).length ≤ _
      rw [← len_tl]
      exact this
    have hcp : ∀ c ∈ dgt z, c < 1114112 := fun c hc => hcp0 c (by
      have e : dgt z = _ := rp_tl z
      rw [e] at hc
      split at hc
      · exact List.mem_of_mem_drop hc
      · exact hc)
    have lxd : x.length = (dgt z).length := by rw [len_tl, hx]
    have no : ∀ {H2 : Hp}, Ex H' H2 → ntB z = false → Q (.bl false) H2 := fun e z' => by
      have := k _ e
      rw [z'] at this
      exact this
    walk_at "rd"
    refine r_eq rfl ?_
    walk_at "rd"
    by_cases c0 : x = Str.ofString ""
    · refine ite_t (decide_eq_true (by rw [c0])) ?_
      refine ite_t rfl ?_
      walk_at "rd"
      refine no (Ex.refl _) ?_
      have : dgt z = [] := by rw [← hx, c0]; rfl
      unfold ntB
      rw [this]
      rfl
    · refine ite_f (decide_eq_false fun e => c0 (by injection e)) ?_
      have l1 : 1 ≤ (dgt z).length := by
        rw [← hx]
        cases q : tl x with
        | nil => exact absurd (str_ext (by rw [q]; rfl)) c0
        | cons a r => simp
      walk_at "rd"
      refine ⟨x, rfl, sz_le (by omega), ?_⟩
      walk_at "rd"
      by_cases c60 : x.length ≤ 60
      · refine ite_f (decide_eq_false (by omega)) ?_
        walk_at "rd"
        refine ⟨V.str x, rfl, x, rfl, ?_⟩
        have hsz : x.cps.size = (tl x).length := by show _ = x.cps.toList.length; simp
        refine r_lcF (n := x.cps.size) (k := 2) (walk_str (z := x)) (fun j => !isD ((tl x).getD j 0)) (fun j => .str ⟨#[(tl x).getD j 0]⟩) (by have : x.cps.size = x.length := rfl; omega) (fun _ _ => trivial) (fun _ => rfl) ?_ ?_ ?_
        · rintro j y H0 H2 hj e0 ⟨rfl, c, hc, rfl⟩
          refine ⟨Ex.refl _, fun R r => ?_⟩
          have e : (tl x).getD j 0 = c := by
            rw [List.getD_eq_getElem?_getD]
            show (x.cps.toList[j]?).getD 0 = c
            rw [Array.getElem?_toList, hc]
            rfl
          walk_at "rd"
          refine ⟨c, _, rfl, rfl, ?_⟩
          rw [e] at r
          exact ⟨_, rfl, r H2 (Ex.refl _)⟩
        · rintro j y H0 hj ht e0 ⟨H2, H3, ⟨rfl, c, hc, rfl⟩, e2, e3, e4⟩ R r
          have e : (tl x).getD j 0 = c := by
            rw [List.getD_eq_getElem?_getD]
            show (x.cps.toList[j]?).getD 0 = c
            rw [Array.getElem?_toList, hc]
            rfl
          rw [e] at r
          walk_at "rd"
          exact r H0 (Ex.refl _)
        · intro p H2 hp e2 h2
          walk_at "rd"
          refine r_newL (Nat.zero_le _) fun q H3 hq e3 h3 => ?_
          have eg : given x.cps.size (fun j => !isD ((tl x).getD j 0)) (fun j => .str ⟨#[(tl x).getD j 0]⟩) = (((List.range x.cps.size).filter fun j => !isD ((tl x).getD j 0)).map fun j => (⟨#[(tl x).getD j 0]⟩ : Str)).map V.str := by
            unfold given
            rw [List.map_map]
            rfl
          rw [eg] at h2
          refine r_neStrs (e3 _ _ h2) h3 (fun y hy c hc => ?_) ?_
          · obtain ⟨j, hj, rfl⟩ := List.mem_map.mp hy
            obtain rfl : c = (tl x).getD j 0 := by simpa [tl] using hc
            rw [List.getD_eq_getElem?_getD]
            cases q : (tl x)[j]? with
            | none => decide
            | some c => exact hcp c (hx ▸ List.mem_of_getElem? q)
          have e23 := e2.trans e3
          have ha : ((dgt z).all isD = true) ↔ (((List.range x.cps.size).filter fun j => !isD ((tl x).getD j 0)).map fun j => (⟨#[(tl x).getD j 0]⟩ : Str)) = [] := by
            rw [← hx, ← all_rangeN (tl x) 0 isD, hsz, List.map_eq_nil_iff, List.filter_eq_nil_iff, List.all_eq_true]
            simp
          cases hall : (dgt z).all isD with
          | false =>
            refine ⟨_, rfl, ite_t (by rw [decide_eq_false fun e => by rw [ha.mpr e] at hall; cases hall]; rfl) ?_⟩
            walk_at "rd"
            exact no e23 (by unfold ntB; rw [hall]; simp)
          | true =>
            refine ⟨_, rfl, ite_f (by rw [decide_eq_true (ha.mp hall)]; rfl) ?_⟩
            walk_at "rd"
            cases q : dgt z with
            | nil => rw [q] at l1; simp at l1
            | cons c r =>
              have nt : ntB z = (!decide (c = 48) || decide (z = Str.ofString "0")) := by
                unfold ntB
                rw [hall, ← lxd, decide_eq_true (show 1 ≤ x.length by omega), decide_eq_true c60, q]
                rfl
              have kz := k H3 e23
              rw [nt] at kz
              refine r_eq rfl ?_
              by_cases cz : z = Str.ofString "0"
              · refine ⟨_, rfl, ite_t (decide_eq_true (by rw [cz])) ?_⟩
                rw [decide_eq_true cz, Bool.or_true] at kz
                exact kz
              · refine ⟨_, rfl, ite_f (decide_eq_false fun e => cz (by injection e)) ?_⟩
                rw [decide_eq_false cz, Bool.or_false] at kz
                walk_at "rd"
                refine ⟨x, 0, c, rfl, rfl, sz_le (by omega), ?_, ?_⟩
                · show atI (tl x) ((0 : Nat) : Int) = some c
                  exact atI_nat (by rw [hx, q]; rfl)
                · walk_at "rd"
                  refine r_ne rfl ?_
                  have e0 : decide (V.str (⟨#[c]⟩ : Str) = V.str (Str.ofString "0")) = decide (c = 48) := decide_eq_decide.mpr ⟨fun z => by
                    have z1 : (⟨#[c]⟩ : Str) = Str.ofString "0" := by injection z
                    have z2 : ([c] : List Nat) = [48] := congrArg tl z1
                    exact (List.cons.inj z2).1, fun z => by subst z; decide +kernel⟩
                  rw [e0]
                  exact kz
      · refine ite_t (decide_eq_true (by omega)) ?_
        refine ite_t rfl ?_
        walk_at "rd"
        exact no (Ex.refl _) (by unfold ntB; rw [← lxd, decide_eq_false c60]; simp)

end K31
namespace K31
open PySem PySem.Spec PyProof.Rows L2 GS TL
local macro_rules | `(tactic| walk_at "rd") => `(tactic| (repeat (first
  | with_reducible refine r_next ?_
  | with_reducible refine r_seq ?_
  | with_reducible refine r_ret ?_
  | with_reducible refine r_ifS ?_
  | with_reducible refine r_asg ?_
  | with_reducible refine r_drop ?_
  | with_reducible refine r_op ?_
  | with_reducible refine r_un ?_
  | with_reducible refine r_cbInt ?_
  | with_reducible refine r_cbAbs ?_
  | with_reducible refine r_cbLen ?_
  | with_reducible refine r_cbList ?_
  | with_reducible refine r_cbTup ?_
  | with_reducible refine r_iEnT ?_
  | with_reducible refine r_iEnL ?_
  | with_reducible refine r_zipA ?_
  | with_reducible refine r_zipX ?_
  | with_reducible refine r_augS ?_
  | with_reducible refine r_cb ?_
  | with_reducible refine r_call ?_
  | with_reducible refine r_make ?_
  | with_reducible refine r_callN0 ?_
  | with_reducible refine r_makeK0 ?_
  | with_reducible refine r_makeS ?_
  | with_reducible refine r_callS ?_
  | with_reducible refine r_cons ?_
  | with_reducible refine r_nil ?_
  | with_reducible refine r_test ?_
  | with_reducible refine r_B ?_
  | with_reducible refine r_and ?_
  | with_reducible refine r_or ?_
  | with_reducible refine r_not ?_
  | with_reducible refine r_andV ?_
  | with_reducible refine r_orV ?_
  | with_reducible refine r_notV ?_
  | with_reducible refine r_if ?_
  | with_reducible refine r_tup ?_
  | with_reducible refine r_lst ?_
  | with_reducible refine r_c ?_
  | with_reducible refine r_lc ?_
  | with_reducible refine r_chain ?_
  | with_reducible refine r_iT ?_
  | with_reducible refine r_iL ?_
  | with_reducible refine r_iR1 ?_
  | with_reducible refine r_iR2 ?_
  | with_reducible refine r_iR3 ?_
  | with_reducible refine r_asgG ?_
  | with_reducible refine r_gSub ?_
  | with_reducible refine r_for ?_
  | with_reducible refine r_smeth ?_
  | with_reducible refine r_par ?_
  | with_reducible refine r_parK ?_
  | with_reducible refine r_gCons ?_
  | with_reducible refine r_gNil ?_
  | with_reducible refine r_gName ?_
  | with_reducible refine r_intI ?_
  | with_reducible refine r_intB ?_
  | with_reducible refine r_absI ?_
  | with_reducible refine r_k ?_
  | with_reducible refine r_kV ?_
  | ((with_reducible show tVar _ _ _ _); refine r_var3 ?_ (by rfl))
  | with_reducible refine r_I0 ?_
  | with_reducible refine r_U ?_
  | with_reducible refine r_eqI ?_
  | with_reducible refine r_neI ?_
  | with_reducible refine r_F ?_
  | dsimp only)))
local macro_rules | `(tactic| walk_at "rx") => `(tactic| (repeat (first
  | with_reducible refine r_next ?_
  | with_reducible refine r_ret ?_
  | with_reducible refine r_ifS ?_
  | with_reducible refine r_asg ?_
  | with_reducible refine r_drop ?_
  | with_reducible refine r_op ?_
  | with_reducible refine r_un ?_
  | with_reducible refine r_cbInt ?_
  | with_reducible refine r_cbAbs ?_
  | with_reducible refine r_cbLen ?_
  | with_reducible refine r_cbList ?_
  | with_reducible refine r_cbTup ?_
  | with_reducible refine r_iEnT ?_
  | with_reducible refine r_iEnL ?_
  | with_reducible refine r_zipA ?_
  | with_reducible refine r_zipX ?_
  | with_reducible refine r_augS ?_
  | with_reducible refine r_cb ?_
  | with_reducible refine r_call ?_
  | with_reducible refine r_make ?_
  | with_reducible refine r_callN0 ?_
  | with_reducible refine r_makeK0 ?_
  | with_reducible refine r_makeS ?_
  | with_reducible refine r_callS ?_
  | with_reducible refine r_cons ?_
  | with_reducible refine r_nil ?_
  | with_reducible refine r_test ?_
  | with_reducible refine r_B ?_
  | with_reducible refine r_and ?_
  | with_reducible refine r_or ?_
  | with_reducible refine r_not ?_
  | with_reducible refine r_andV ?_
  | with_reducible refine r_orV ?_
  | with_reducible refine r_notV ?_
  | with_reducible refine r_if ?_
  | with_reducible refine r_tup ?_
  | with_reducible refine r_lst ?_
  | with_reducible refine r_c ?_
  | with_reducible refine r_lc ?_
  | with_reducible refine r_chain ?_
  | with_reducible refine r_iT ?_
  | with_reducible refine r_iL ?_
  | with_reducible refine r_iR1 ?_
  | with_reducible refine r_iR2 ?_
  | with_reducible refine r_iR3 ?_
  | with_reducible refine r_asgG ?_
  | with_reducible refine r_gSub ?_
  | with_reducible refine r_for ?_
  | with_reducible refine r_smeth ?_
  | with_reducible refine r_par ?_
  | with_reducible refine r_parK ?_
  | with_reducible refine r_gCons ?_
  | with_reducible refine r_gNil ?_
  | with_reducible refine r_gName ?_
  | with_reducible refine r_intI ?_
  | with_reducible refine r_intB ?_
  | with_reducible refine r_absI ?_
  | with_reducible refine r_k ?_
  | with_reducible refine r_kV ?_
  | ((with_reducible show tVar _ _ _ _); refine r_var3 ?_ (by rfl))
  | with_reducible refine r_I0 ?_
  | with_reducible refine r_U ?_
  | with_reducible refine r_eqI ?_
  | with_reducible refine r_neI ?_
  | with_reducible refine r_F ?_
  | dsimp only)))
/-! ### where a text of items stops -/
def sv : Sum Nat (List (List Int)) → V
  | .inl j => .int (j : Nat)
  | .inr _ => .non
theorem nS_inj {i j : Int} (hi : i.natAbs < 10 ^ 60) (hj : j.natAbs < 10 ^ 60) (h : nS i = nS j) : i = j := by
  have a := nS_int (i := i) (Nat.lt_of_lt_of_le hi (Nat.pow_le_pow_right (by decide) (by decide)))
  have b := nS_int (i := j) (Nat.lt_of_lt_of_le hj (Nat.pow_le_pow_right (by decide) (by decide)))
  rw [h, b] at a
  exact (Option.some.inj a).symm
theorem ItS.get {ys : List Str} {vs : List (Option Int)} (h : ItS ys vs) {j : Nat} {y : Str} (hy : ys[j]? = some y) : ∃ o, vs[j]? = some o ∧ vs.getD j none = o ∧ ntB y = o.isSome ∧ ∀ i, o = some i → y = nS i ∧ i.natAbs < 10 ^ 60 := by
  have hj : j < vs.length := by rw [← h.1]; exact (List.getElem?_eq_some_iff.mp hy).1
  obtain ⟨h1, h2⟩ := h.2.2 j y vs[j] hy (by simp [hj])
  exact ⟨vs[j], by simp [hj], by simp [hj], h1, h2⟩
def d123 (y : Str) : Bool := inV (.str y) [.str (Str.ofString "1"), .str (Str.ofString "2"), .str (Str.ofString "3")]
theorem d123_is {y : Str} (h : d123 y = true) : ∃ i : Int, 1 ≤ i ∧ i ≤ 3 ∧ y = nS i := by
  have : y = Str.ofString "1" ∨ y = Str.ofString "2" ∨ y = Str.ofString "3" := by
    simp [d123, inV, eqV] at h
    rcases h with h | h | h <;> simp [h]
  rcases this with rfl | rfl | rfl
  · exact ⟨1, by decide, by decide, by decide +kernel⟩
  · exact ⟨2, by decide, by decide, by decide +kernel⟩
  · exact ⟨3, by decide, by decide, by decide +kernel⟩
theorem d123_nS {i : Int} (h1 : 1 ≤ i) (h3 : i ≤ 3) : d123 (nS i) = true := by
  have : i = 1 ∨ i = 2 ∨ i = 3 := by omega
  rcases this with rfl | rfl | rfl <;> decide +kernel
theorem stp_0 {ys : List Str} {vs : List (Option Int)} (h : ItS ys vs) {y : Str} (hy : ys[0]? = some y) (hd : d123 y = false) (b : Bool) : GV.stp vs b = .inl 0 := by
  obtain ⟨o, _, hg, hb, hv⟩ := h.get hy
  unfold GV.stp
  rw [hg]
  cases o with
  | none => rfl
  | some i =>
    obtain ⟨rfl, _⟩ := hv i rfl
    have : ¬ (1 ≤ i ∧ i ≤ 3) := fun z => by rw [d123_nS z.1 z.2] at hd; cases hd
    simp only
    rw [if_neg this]
theorem get_d {ys : List Str} {vs : List (Option Int)} (h : ItS ys vs) {y : Str} (hy : ys[0]? = some y) (hd : d123 y = true) : ∃ d : Nat, 1 ≤ d ∧ d ≤ 3 ∧ y = nS (d : Int) ∧ vs.getD 0 none = some (d : Int) := by
  obtain ⟨i, h1, h3, rfl⟩ := d123_is hd
  obtain ⟨o, _, hg, hb, hv⟩ := h.get hy
  obtain ⟨d, rfl⟩ : ∃ d : Nat, i = (d : Int) := ⟨i.toNat, by omega⟩
  have hz : ((d : Int)).natAbs < 10 ^ 60 := by rw [Int.natAbs_natCast]; omega
  rw [ntB_nS hz] at hb
  cases o with
  | none => cases hb
  | some j =>
    obtain ⟨e, hj⟩ := hv j rfl
    have := nS_inj hz hj e
    subst this
    exact ⟨d, by omega, by omega, rfl, hg⟩
theorem r_eqIL {K : PySem.W.Frag} {H : Hp} {Q : VK} {p q : Addr} {xs ys : List Int} (h1 : H p = some (.lst (xs.map V.int))) (h2 : H q = some (.lst (ys.map V.int))) (k : Q (.bl (decide (xs = ys))) H) : rEqD K (.ref p) (.ref q) H Q := by
  refine ⟨_, _, .lst (SqL.of h1) (dp_ints xs), .lst (SqL.of h2) (dp_ints ys), (shaped_ints xs).1, (shaped_ints ys).1, ?_⟩
  show Q (.bl (PyData.eqvAll (xs.map PyData.int) (ys.map PyData.int))) H
  rw [eqv_ints]
  exact k
theorem rgc {d n : Nat} (d1 : 1 ≤ d) (d3 : d ≤ 3) (h : n ≤ 9) : RgC 0 ((n * d : Nat) : Int) (d : Int) n := by
  have key : ∀ d, d < 4 → ∀ n, n < 10 → 1 ≤ d → (Builtin.Range.small 0 ((n * d : Nat) : Int) (d : Int) = true ∧ Builtin.Range.rangeSize 0 ((n * d : Nat) : Int) (d : Int) = n) := by decide +kernel
  obtain ⟨k1, k2⟩ := key d (by omega) n (by omega) d1
  exact ⟨by omega, by rw [Int.natAbs_natCast]; omega, k1, k2⟩
theorem cut_two (ys : List Str) (h : 2 ≤ ys.length) : cutV (ys.map V.str) (some 2) none = (ys.drop 2).map V.str := by
  unfold cutV
  rw [HT.sIx_none, show (2 : Int) = ((2 : Nat) : Int) from rfl, HT.sIx_nat, List.length_map, Nat.min_eq_left h, List.take_of_length_le (by simp), List.map_drop]
theorem cut_mid (ns : List Int) (a d : Nat) (h : a + d ≤ ns.length) : cutV (ns.map V.int) (some (a : Int)) (some ((a + d : Nat) : Int)) = ((ns.drop a).take d).map V.int := by
  unfold cutV
  rw [HT.sIx_nat, HT.sIx_nat, List.length_map, Nat.min_eq_left (show a ≤ ns.length by omega), Nat.min_eq_left h, Nat.add_sub_cancel_left, List.map_take, List.map_drop]
def spStop (K : PySem.W.Frag) : Sp := sp1 fun v H Q _ => ∃ (p : Addr) (ys : List Str) (vs : List (Option Int)), v = .ref p ∧ H p = some (.lst (ys.map V.str)) ∧ ys ≠ [] ∧ Its ys vs ∧ ys.length ≤ 100 ∧ ∀ H', Ex H H' → Q (sv (GV.stp vs (decide (ys[1]? = some (Str.ofString ":"))))) H'
theorem ok__law_stop {P : Program} {w : World} {K : PySem.W.Frag} {mg : Str → Option Value} {base : Heap} (T : Txt K mg) : ∃ fd, FnOk P w K mg base (L2.CX P w) 2 (He.ga K "_law_stop") fd ["items"] (spStop K) ∧ Binds K fd ["items"] [] := by
  obtain ⟨fd, F⟩ := T.d__law_stop
  obtain ⟨fd__law_total, F__law_total, B__law_total⟩ := ok__law_total (P := P) (w := w) (base := base) T
  obtain ⟨fd__law_written, F__law_written, B__law_written⟩ := ok__law_written (P := P) (w := w) (base := base) T
  refine ⟨fd, F.ok sc__law_stop sp1_len (fun cdv A outer s H vs Q E hr h => ?_), F.bindsN fun _ _ _ _ _ _ us hl => match us, hl with | [_], _ => rfl⟩
  have hr__law_total : Room 1 _ := hr.mono (by decide)
  have hr__law_written : Room 1 _ := hr.mono (by decide)
  obtain ⟨v, rfl, p, ys, vs, rfl, hp, hne, hits, hl, k⟩ := sp1_is h
  refine ⟨_, (pss_cons (ps_if (pt_cmpR op_notIn_seq (pe_ix (kx_ixl rfl) (pv 0) pe_int (fun _ _ => rfl)) (pe_lst (pa_cons pe_str (pa_cons pe_str (pa_cons pe_str pa_nil)))) rfl) (pss_one (ps_ret pe_int)) pss_nil)
      (pss_cons (ps_if (PW.pt (pw_or (pt_cmpR op_lt (pe_callB (kx_lens rfl) (by rfl) T.b_len PySem.boot_len (pa_cons (pv 0) pa_nil)) pe_int (nomark _)) (pw_or1 (pt_cmpR op_ne (pe_ix (kx_ixl rfl) (pv 0) pe_int (fun _ _ => rfl)) pe_str (nomark _))))) (pss_one (ps_ret pe_int)) pss_nil)
      (pss_cons (ps_set (i := 1) sc__law_stop.nd rfl (Or.inr rfl) (pe_callTy call_int_str (by rfl) T.b_int (by decide +kernel) (pa_cons (pe_ix (kx_ixl rfl) (pv 0) pe_int (fun _ _ => rfl)) pa_nil)))
      (pss_cons (ps_for (passes_of rfl) rfl (pi_range2 (by rfl) T.b_range (pa_cons pe_int (pa_cons (pe_callB (kx_lens rfl) (by rfl) T.b_len PySem.boot_len (pa_cons (pv 0) pa_nil)) pa_nil))) (pg_name (i := 2) sc__law_stop.nd rfl (Or.inl rfl)) (pss_one (ps_if (PW.pt (pw_or (pt_cmpR op_ge (pe_op op_sub (pv 2) pe_int) (pe_op op_mulW pe_int (pv 1)) (nomark _)) (pw_or1 (pt_not (pt_val (pe_call F__law_written hr__law_written (by rfl) T.g__law_written T.k__law_written B__law_written .nil passL (pa_cons (pe_ix (kx_ixl rfl) (pv 0) (pv 2) (fun _ _ => rfl)) pa_nil))))))) (pss_one (ps_ret (pv 2))) pss_nil)))
      (pss_cons (ps_set (i := 3) sc__law_stop.nd rfl (Or.inr rfl) (pe_lc (own := [("item", 4)]) (g := gName 4) (tt := tYes)  rfl sc__law_stop.nd (pi_list (pe_slice sl_list (pv 0) (po_some pe_int) po_none)) (blkOk_by (own := [("item", 4)]) (N := ["items", "length", "at", "told", "item", "rows"]) (sc := defScope s__law_stop) (by decide +kernel)) (fun _ _ _ _ _ => (pg_name (i := 4) sc__law_stop.nd rfl (Or.inl rfl))) (fun _ _ _ _ _ => pts_nil) (fun _ _ _ _ _ => (pe_callTy call_int_str (by rfl) T.b_int (by decide +kernel) (pa_cons (pv 4) pa_nil)))))
      (pss_cons (ps_if (PW.pt (pw_or (pt_cmpR (op_eqD hr.units) (pv 3) (pe_lst pa_nil) (nomark _)) (pw_or1 (pt_cmpR op_ne (pe_op op_mulW (pe_op op_fdivW (pe_callB (kx_lens rfl) (by rfl) T.b_len PySem.boot_len (pa_cons (pv 3) pa_nil)) (pv 1)) (pv 1)) (pe_callB (kx_lens rfl) (by rfl) T.b_len PySem.boot_len (pa_cons (pv 3) pa_nil)) (nomark _))))) (pss_one (ps_ret (pe_callB (kx_lens rfl) (by rfl) T.b_len PySem.boot_len (pa_cons (pv 0) pa_nil)))) pss_nil)
      (pss_cons (ps_setLc (i := 5) (own := [("at", 2)]) (g := gName 2) (tt := tYes)  rfl sc__law_stop.nd rfl rfl (sw_true rfl rfl rfl (by decide +kernel)) (pi_range3 (by rfl) T.b_range (pa_cons pe_int (pa_cons (pe_callB (kx_lens rfl) (by rfl) T.b_len PySem.boot_len (pa_cons (pv 3) pa_nil)) (pa_cons (pv 1) pa_nil)))) (blkOk_by (own := [("at", 2)]) (N := ["items", "length", "at", "told", "item", "rows"]) (sc := defScope s__law_stop) (by decide +kernel)) (fun _ _ _ _ _ => (pg_name (i := 2) sc__law_stop.nd rfl (Or.inl rfl))) (fun _ _ _ _ _ => pts_nil) (fun _ _ _ _ _ => (pe_slice (kx_sll (K := K) rfl) (pv 3) (po_some (pv 2)) (po_some (pe_op op_add (pv 2) (pv 1))))))
      (pss_one (ps_ret (pe_ifExp (pt_cmpR op_notN (pe_call F__law_total hr__law_total (by rfl) T.g__law_total T.k__law_total B__law_total .nil passL (pa_cons (pv 5) pa_nil)) pe_non (nomark _)) pe_non (pe_op op_sub (pe_callB (kx_lens rfl) (by rfl) T.b_len PySem.boot_len (pa_cons (pv 0) pa_nil)) pe_int))))))))))), ?_⟩
  have hi := hits.its
  have h0 : 0 < ys.length := List.length_pos_iff.mpr hne
  have hy0 : ys[0]? = some ys[0] := by simp
  have lv := hi.1
  generalize ys[0] = y0 at hy0
  have at_ : ∀ {j : Nat} {y : Str}, ys[j]? = some y → atI (ys.map V.str) ((j : Nat) : Int) = some (.str y) := fun h => atI_nat (by rw [List.getElem?_map, h]; rfl)
  have len : ((ys.map V.str).length : Int) = ys.length := by rw [List.length_map]
  walk_at "rd"
  refine r_ixL hp (v := .str y0) (at_ (j := 0) hy0) ?_
  walk_at "rd"
  refine r_newL (sz_le (by simp)) fun q H1 hq e1 h1 => ?_
  have hp1 := e1 _ _ hp
  refine ⟨q, _, rfl, .inl (SqL.of h1), rfl, rfl, ?_⟩
  refine ⟨_, rfl, ?_⟩
  show if (!d123 y0) = true then _ else _
  cases hd : d123 y0 with
  | false =>
    refine ite_t rfl ?_
    walk_at "rd"
    have := k H1 e1
    rw [stp_0 hi hy0 hd] at this
    exact this
  | true =>
    refine ite_f rfl ?_
    obtain ⟨d, d1, d3, rfl, hg⟩ := get_d hi hy0 hd
    have hcolon : ¬ ys[1]? = some (Str.ofString ":") → Q (.int 1) H1 := fun hc => by
      have := k H1 e1
      have e : GV.stp vs (decide (ys[1]? = some (Str.ofString ":"))) = .inl 1 := by
        unfold GV.stp
        rw [hg, decide_eq_false hc]
        simp only
        rw [if_pos (by omega)]
        rfl
      rw [e] at this
      exact this
    walk_at "rd"
    refine r_lenL hp1 ?_
    rw [len]
    walk_at "rd"
    by_cases c2 : ys.length < 2
    · refine ite_t (decide_eq_true (by omega)) ?_
      refine ite_t rfl ?_
      walk_at "rd"
      exact hcolon (by rw [List.getElem?_eq_none (by omega)]; simp)
    · refine ite_f (decide_eq_false (by omega)) ?_
      walk_at "rd"
      have hy1 : ys[1]? = some (ys[1]'(by omega)) := by simp
      generalize (ys[1]'(by omega)) = y1 at hy1
      refine r_ixL hp1 (v := .str y1) (at_ (j := 1) hy1) ?_
      walk_at "rd"
      refine r_ne rfl ?_
      walk_at "rd"
      by_cases cc : y1 = Str.ofString ":"
      · subst cc
        refine ite_f (by simp) ?_
        walk_at "rd"
        refine r_ixL hp1 (v := .str (nS d)) (at_ (j := 0) hy0) ?_
        walk_at "rd"
        have zd : ((d : Int)).natAbs < 10 ^ 60 := by rw [Int.natAbs_natCast]; omega
        have ld := nS_len (k := 60) (by decide) zd
        refine ⟨_, d, rfl, nS_int (Nat.lt_of_lt_of_le zd (Nat.pow_le_pow_right (by decide) (by decide))), by omega, ?_⟩
        walk_at "rd"
        refine r_lenL hp1 ?_
        rw [len]
        walk_at "rd"
        refine ⟨_, _, rfl, by omega, ?_⟩
        have hs : GV.stp vs (decide (ys[1]? = some (Str.ofString ":"))) = match GV.rd vs d 9 0 with | .inl j => .inl j | .inr n => if GV.upB (GV.rowsIn vs d n) = true then .inr (GV.rowsIn vs d n) else .inl (vs.length - 1) := by
          unfold GV.stp
          rw [hg, decide_eq_true hy1]
          simp only [Int.toNat_natCast]
          rw [if_pos (by omega), if_pos trivial]
          all_goals (cases GV.rd vs d 9 0 <;> rfl)
        rw [hs] at k
        have hn : (((ys.length : Nat) : Int) - 2).toNat = ys.length - 2 := by omega
        rw [hn]
        refine for_of (walk_range (lo := 2) (n := ys.length - 2)) (fun i σ' H' => ∃ s2, σ' = [some (.ref p), some (.int d), s2, none, none, none] ∧ Ex H H' ∧ GV.fine vs d (2 + i)) ⟨none, rfl, e1, fun k h1 h2 => by omega⟩ (fun _ _ _ _ _ => trivial) ?_ ?_
        · rintro i x σ' H2 H3 hi' ⟨s2, rfl, e2, hf⟩ ⟨rfl, rfl⟩
          refine r_gName ?_
          walk_at "rd"
          refine r_I (mulOk (n := 10) (m := 10) (by unfold Z; decide) (by unfold Z; rw [Int.natAbs_natCast]; omega) (by decide) (by decide) (by decide)) ?_
          walk_at "rd"
          have ret : ∀ {H4 : Hp}, Ex H H4 → ¬ (2 + i - 2 < 9 * d ∧ (vs.getD (2 + i) none).isSome = true) → Q (.int (2 + (i : Int))) H4 := fun e hb => by
            have := k _ e
            rw [GV.rd_a d1 (by omega) (by omega) hf hb 9 0 rfl (by omega)] at this
            exact this
          by_cases c9 : i < 9 * d
          · refine ite_f (decide_eq_false (by omega)) ?_
            walk_at "rd"
            have hyi : ys[2 + i]? = some (ys[2 + i]'(by omega)) := by simp
            generalize (ys[2 + i]'(by omega)) = yi at hyi
            refine r_ixL (e2 _ _ hp) (v := .str yi) (by have := at_ hyi; push_cast at this; exact this) ?_
            walk_at "rd"
            obtain ⟨q1, q2, q3⟩ := hits.free yi (List.mem_of_getElem? hyi)
            refine ⟨yi, rfl, by omega, q3, fun H4 e4 => ?_⟩
            obtain ⟨o, _, hgo, hbo, _⟩ := hi.get hyi
            cases hb : ntB yi with
            | true =>
              refine ⟨_, rfl, ite_f rfl ?_⟩
              walk_at "rd"
              refine ⟨_, rfl, e2.trans e4, fun m h1 h2 => ?_⟩
              rcases Nat.lt_or_ge m (2 + i) with c | c
              · exact hf m h1 c
              · obtain rfl : m = 2 + i := by omega
                exact ⟨by omega, by rw [hgo, ← hbo, hb]⟩
            | false =>
              refine ⟨_, rfl, ite_t rfl ?_⟩
              walk_at "rd"
              exact ret (e2.trans e4) fun z => by rw [hgo, ← hbo, hb] at z; cases z.2
          · refine ite_t (decide_eq_true (by omega)) ?_
            refine ite_t rfl ?_
            walk_at "rd"
            exact ret e2 fun z => by omega
        · rintro σ' H2 ⟨s2, rfl, e2, hf⟩
          have hf : GV.fine vs d vs.length := by rwa [show 2 + (ys.length - 2) = vs.length by omega] at hf
          have l9 : vs.length ≤ 2 + 9 * d := by
            rcases Nat.lt_or_ge 2 vs.length with c | c
            · have := (hf (vs.length - 1) (by omega) (by omega)).1
              omega
            · omega
          have hrd := GV.rd_b d1 (by omega) l9 hf 9 0 rfl (by omega)
          rw [hrd] at k
          have hp2 := e2 _ _ hp
          walk_at "rd"
          refine ⟨V.ref p, rfl, 2, rfl, p, _, rfl, SqL.of hp2, fun D hD => ⟨D, rfl, ⟨_, SqL.of upd_same⟩, ?_⟩⟩
          rw [cut_two ys (by omega)]
          have eD : Ex H2 (upd H2 D (.lst ((ys.drop 2).map V.str))) := Ex.new hD
          have hD3 : (upd H2 D (.lst ((ys.drop 2).map V.str))) D = some (.lst ((ys.drop 2).map V.str)) := upd_same
          generalize upd H2 D (.lst ((ys.drop 2).map V.str)) = H3 at eD hD3 ⊢
          have ln : (GV.nums vs).length = ys.length - 2 := by simp [GV.nums, lv]
          refine r_lcM (n := (ys.drop 2).length) (k := 4) (by simpa using walk_list (xs := (ys.drop 2).map V.str)) (fun j => .int ((GV.nums vs).getD j 0)) (by simp; omega) (fun H' e => SqL.of (e _ _ hD3)) (fun _ => rfl) ?_ ?_
          · rintro j y H4 H5 hj e4 ⟨rfl, hy⟩
            refine ⟨Ex.refl _, fun H6 e6 R kR => ?_⟩
            rw [List.length_drop] at hj
            have hyj : ys[2 + j]? = some (ys[2 + j]'(by omega)) := by simp
            have hy' : y = .str (ys[2 + j]'(by omega)) := by
              rw [← List.map_drop, List.getElem?_map, List.getElem?_drop, hyj] at hy
              exact (Option.some.inj hy).symm
            generalize (ys[2 + j]'(by omega)) = z at hyj hy'
            subst hy'
            obtain ⟨o, ho, hgo, hbo, hv⟩ := hi.get hyj
            have hso := (hf (2 + j) (by omega) (by omega)).2
            rw [hgo] at hso
            cases o with
            | none => cases hso
            | some c =>
              obtain ⟨rfl, hc⟩ := hv c rfl
              have en : (GV.nums vs).getD j 0 = c := by
                rw [List.getD_eq_getElem?_getD, GV.nums, List.getElem?_map, List.getElem?_drop, ho]
                rfl
              rw [en] at kR
              have lc := nS_len (k := 60) (by decide) hc
              walk_at "rd"
              exact ⟨_, c, rfl, nS_int (Nat.lt_of_lt_of_le hc (Nat.pow_le_pow_right (by decide) (by decide))), by omega, kR _ (Ex.refl _)⟩
          · intro T H4 hT e4 h4
            have e24 := eD.trans e4
            have hT4 : H4 T = some (.lst ((GV.nums vs).map V.int)) := by
              have := range_map (GV.nums vs)
              rw [ln] at this
              rw [h4, List.length_drop, this]
            have hp4 := e24 _ _ hp2
            have eH4 := e2.trans e24
            walk_at "rd"
            refine r_newL (Nat.zero_le _) fun q5 H5 hq5 e5 h5 => ?_
            refine r_eqIL (e5 _ _ hT4) (ys := []) h5 ?_
            walk_at "rd"
            have hp5 := e5 _ _ hp4
            have hT5 := e5 _ _ hT4
            have eH5 := eH4.trans e5
            have bad : ¬ (vs.length ≠ 2 ∧ (vs.length - 2) % d = 0) → Q (.int ((ys.map V.str).length : Int)) H5 := fun z => by
              have := k H5 eH5
              rw [if_neg z] at this
              rw [len, lv]
              exact this
            by_cases c0 : GV.nums vs = []
            · refine ite_t (decide_eq_true c0) ?_
              refine ite_t rfl ?_
              walk_at "rd"
              refine r_lenL hp5 ?_
              refine bad fun z => z.1 ?_
              rw [c0] at ln
              simp at ln
              omega
            · refine ite_f (decide_eq_false c0) ?_
              have lpos : 0 < ys.length - 2 := by rw [← ln]; exact List.length_pos_iff.mpr c0
              walk_at "rd"
              refine r_lenL hT5 ?_
              rw [List.length_map, ln]
              walk_at "rd"
              refine r_I (wide_div (b := 10) (by omega) (by omega) (by decide) (by decide)) ?_
              walk_at "rd"
              have ediv : (((ys.length - 2 : Nat) : Int) / (d : Int)) = (((ys.length - 2) / d : Nat) : Int) := rfl
              rw [ediv]
              have hdl : (ys.length - 2) / d ≤ ys.length - 2 := Nat.div_le_self _ _
              refine r_I (mulOk (n := 20) (m := 20) (by unfold Z; rw [Int.natAbs_natCast]; omega) (by unfold Z; rw [Int.natAbs_natCast]; omega) (by decide) (by decide) (by decide)) ?_
              walk_at "rd"
              refine r_lenL hT5 ?_
              rw [List.length_map, ln]
              walk_at "rd"
              have emul : ((((ys.length - 2) / d : Nat) : Int) * (d : Int)) = (((ys.length - 2) / d * d : Nat) : Int) := by push_cast; rfl
              rw [emul]
              by_cases cm : (ys.length - 2) % d = 0
              · have hnd : (ys.length - 2) / d * d = ys.length - 2 := Nat.div_mul_cancel (Nat.dvd_of_mod_eq_zero cm)
                refine ite_f (by rw [hnd]; simp) ?_
                rw [if_pos ⟨by omega, by rw [← lv]; exact cm⟩] at k
                have n9 : (ys.length - 2) / d ≤ 9 := Nat.div_le_of_le_mul (by rw [Nat.mul_comm]; omega)
                have n1 : 1 ≤ (ys.length - 2) / d := (Nat.one_le_div_iff (by omega)).mpr (Nat.le_of_dvd lpos (Nat.dvd_of_mod_eq_zero cm))
                rw [← lv] at k
                generalize hnn : (ys.length - 2) / d = n at hnd n9 n1 k
                walk_at "rd"
                refine r_lenL hT5 ?_
                rw [List.length_map, ln, ← hnd]
                walk_at "rd"
                refine ⟨0, _, _, n, rfl, rgc d1 d3 n9, ?_⟩
                refine r_lcLs (n := n) (k := 2) walk_rangeC (fun i => (((GV.nums vs).drop (i * d)).take d).map V.int) (by omega) (fun _ _ => trivial) (fun _ => rfl) ?_ ?_
                · rintro i y H6 H7 hi' e6 ⟨rfl, rfl⟩
                  refine ⟨Ex.refl _, fun R kR => ?_⟩
                  have e1 : (i + 1) * d = i * d + d := Nat.succ_mul i d
                  have e9 : (i + 1) * d ≤ n * d := Nat.mul_le_mul_right d hi'
                  refine ⟨V.ref T, rfl, _, rfl, _, rfl, _, rfl, _, rfl, _, _, rfl, rfl, _, rfl, T, _, rfl, SqL.of (e6 _ _ hT5), fun l hl => ?_⟩
                  have ea : ((0 : Int) + (i : Nat) * (d : Nat)) = ((i * d : Nat) : Int) := by push_cast; omega
                  have eb : (((i * d : Nat) : Int) + (d : Nat)) = ((i * d + d : Nat) : Int) := by push_cast; rfl
                  rw [ea, eb, cut_mid _ _ _ (by omega)]
                  exact kR l _ (Ex.new hl) hl upd_same
                · intro U us H6 hU e6 h6 hlen hnd6 hnew hrow
                  have la6 : LA H6 us (GV.rowsIn vs d n) := by
                    have := la_rows hlen hrow
                    have e : (List.range n).map (fun i => ((GV.nums vs).drop (i * d)).take d) = GV.rowsIn vs d n := by
                      refine List.map_congr_left fun i hi' => ?_
                      have hin := List.mem_range.mp hi'
                      have e9 : (i + 1) * d ≤ n * d := Nat.mul_le_mul_right d hin
                      exact (GV.rowAt_nums (by omega)).symm
                    rwa [e] at this
                  have sh := GV.rowsIn_sh (vs := vs) (d := d) (n := n) d1 d3 ⟨n1, n9⟩
                  walk_at "rd"
                  refine ⟨GV.rowsIn vs d n, ⟨U, us, rfl, h6, la6⟩, .inr sh, fun r hr c hc => ?_, fun H7 e7 => ?_⟩
                  · exact Nat.lt_of_lt_of_le (rows_lt hi r hr c hc) (Nat.le_trans (show 10 ^ 60 ≤ 2 ^ 200 by decide) (Nat.pow_le_pow_right (by decide) (by decide)))
                  have kk : Q (sv (if GV.upB (GV.rowsIn vs d n) = true then .inr (GV.rowsIn vs d n) else .inl (ys.length - 1))) H7 := k H7 ((eH5.trans e6).trans e7)
                  walk_at "rd"
                  cases hup : GV.upB (GV.rowsIn vs d n) with
                  | true =>
                    rw [hup] at kk
                    rw [tv_up sh hup]
                    refine ⟨rfl, _, rfl, ite_t (by simp) ?_⟩
                    walk_at "rd"
                    exact kk
                  | false =>
                    rw [hup] at kk
                    rw [tv_no hup]
                    refine ⟨rfl, _, rfl, ite_f (by simp) ?_⟩
                    walk_at "rd"
                    refine r_lenL (e7 _ _ (e6 _ _ hp5)) ?_
                    walk_at "rd"
                    rw [len]
                    have e : ((ys.length : Nat) : Int) - 1 = ((ys.length - 1 : Nat) : Int) := by omega
                    rw [e]
                    exact kk
              · refine ite_t (by
                  have : (ys.length - 2) / d * d ≠ ys.length - 2 := fun z => cm (by
                    have := Nat.div_add_mod (ys.length - 2) d
                    rw [Nat.mul_comm] at this
                    omega)
                  simp
                  exact_mod_cast this) ?_
                walk_at "rd"
                refine r_lenL hp5 ?_
                exact bad fun z => cm (by rw [lv]; exact z.2)
      · refine ite_t (by simp [cc]) ?_
        walk_at "rd"
        exact hcolon (by rw [hy1]; simp [cc])

end K31
namespace K31
open PySem PySem.Spec PyProof.Rows L2 GS TL
local macro_rules | `(tactic| walk_at "rd") => `(tactic| (repeat (first
  | with_reducible refine r_next ?_
  | with_reducible refine r_seq ?_
  | with_reducible refine r_ret ?_
  | with_reducible refine r_ifS ?_
  | with_reducible refine r_asg ?_
  | with_reducible refine r_drop ?_
  | with_reducible refine r_op ?_
  | with_reducible refine r_un ?_
  | with_reducible refine r_cbInt ?_
  | with_reducible refine r_cbAbs ?_
  | with_reducible refine r_cbLen ?_
  | with_reducible refine r_cbList ?_
  | with_reducible refine r_cbTup ?_
  | with_reducible refine r_iEnT ?_
  | with_reducible refine r_iEnL ?_
  | with_reducible refine r_zipA ?_
  | with_reducible refine r_zipX ?_
  | with_reducible refine r_augS ?_
  | with_reducible refine r_cb ?_
  | with_reducible refine r_call ?_
  | with_reducible refine r_make ?_
  | with_reducible refine r_callN0 ?_
  | with_reducible refine r_makeK0 ?_
  | with_reducible refine r_makeS ?_
  | with_reducible refine r_callS ?_
  | with_reducible refine r_cons ?_
  | with_reducible refine r_nil ?_
  | with_reducible refine r_test ?_
  | with_reducible refine r_B ?_
  | with_reducible refine r_and ?_
  | with_reducible refine r_or ?_
  | with_reducible refine r_not ?_
  | with_reducible refine r_andV ?_
  | with_reducible refine r_orV ?_
  | with_reducible refine r_notV ?_
  | with_reducible refine r_if ?_
  | with_reducible refine r_tup ?_
  | with_reducible refine r_lst ?_
  | with_reducible refine r_c ?_
  | with_reducible refine r_lc ?_
  | with_reducible refine r_chain ?_
  | with_reducible refine r_iT ?_
  | with_reducible refine r_iL ?_
  | with_reducible refine r_iR1 ?_
  | with_reducible refine r_iR2 ?_
  | with_reducible refine r_iR3 ?_
  | with_reducible refine r_asgG ?_
  | with_reducible refine r_gSub ?_
  | with_reducible refine r_for ?_
  | with_reducible refine r_smeth ?_
  | with_reducible refine r_par ?_
  | with_reducible refine r_parK ?_
  | with_reducible refine r_gCons ?_
  | with_reducible refine r_gNil ?_
  | with_reducible refine r_gName ?_
  | with_reducible refine r_intI ?_
  | with_reducible refine r_intB ?_
  | with_reducible refine r_absI ?_
  | with_reducible refine r_k ?_
  | with_reducible refine r_kV ?_
  | ((with_reducible show tVar _ _ _ _); refine r_var3 ?_ (by rfl))
  | with_reducible refine r_I0 ?_
  | with_reducible refine r_U ?_
  | with_reducible refine r_eqI ?_
  | with_reducible refine r_neI ?_
  | with_reducible refine r_F ?_
  | dsimp only)))
local macro_rules | `(tactic| walk_at "rx") => `(tactic| (repeat (first
  | with_reducible refine r_next ?_
  | with_reducible refine r_ret ?_
  | with_reducible refine r_ifS ?_
  | with_reducible refine r_asg ?_
  | with_reducible refine r_drop ?_
  | with_reducible refine r_op ?_
  | with_reducible refine r_un ?_
  | with_reducible refine r_cbInt ?_
  | with_reducible refine r_cbAbs ?_
  | with_reducible refine r_cbLen ?_
  | with_reducible refine r_cbList ?_
  | with_reducible refine r_cbTup ?_
  | with_reducible refine r_iEnT ?_
  | with_reducible refine r_iEnL ?_
  | with_reducible refine r_zipA ?_
  | with_reducible refine r_zipX ?_
  | with_reducible refine r_augS ?_
  | with_reducible refine r_cb ?_
  | with_reducible refine r_call ?_
  | with_reducible refine r_make ?_
  | with_reducible refine r_callN0 ?_
  | with_reducible refine r_makeK0 ?_
  | with_reducible refine r_makeS ?_
  | with_reducible refine r_callS ?_
  | with_reducible refine r_cons ?_
  | with_reducible refine r_nil ?_
  | with_reducible refine r_test ?_
  | with_reducible refine r_B ?_
  | with_reducible refine r_and ?_
  | with_reducible refine r_or ?_
  | with_reducible refine r_not ?_
  | with_reducible refine r_andV ?_
  | with_reducible refine r_orV ?_
  | with_reducible refine r_notV ?_
  | with_reducible refine r_if ?_
  | with_reducible refine r_tup ?_
  | with_reducible refine r_lst ?_
  | with_reducible refine r_c ?_
  | with_reducible refine r_lc ?_
  | with_reducible refine r_chain ?_
  | with_reducible refine r_iT ?_
  | with_reducible refine r_iL ?_
  | with_reducible refine r_iR1 ?_
  | with_reducible refine r_iR2 ?_
  | with_reducible refine r_iR3 ?_
  | with_reducible refine r_asgG ?_
  | with_reducible refine r_gSub ?_
  | with_reducible refine r_for ?_
  | with_reducible refine r_smeth ?_
  | with_reducible refine r_par ?_
  | with_reducible refine r_parK ?_
  | with_reducible refine r_gCons ?_
  | with_reducible refine r_gNil ?_
  | with_reducible refine r_gName ?_
  | with_reducible refine r_intI ?_
  | with_reducible refine r_intB ?_
  | with_reducible refine r_absI ?_
  | with_reducible refine r_k ?_
  | with_reducible refine r_kV ?_
  | ((with_reducible show tVar _ _ _ _); refine r_var3 ?_ (by rfl))
  | with_reducible refine r_I0 ?_
  | with_reducible refine r_U ?_
  | with_reducible refine r_eqI ?_
  | with_reducible refine r_neI ?_
  | with_reducible refine r_F ?_
  | dsimp only)))
/-! ### made and read, with what stops them -/
theorem exm_one {K : PySem.W.Frag} {cls c : Value} {b : Bool} (h : PySem.W.exmOne K cls c = some b) : PySem.W.exmAny K cls [c] = some b := by
  unfold PySem.W.exmAny
  rw [h]
  cases b <;> rfl
theorem r_m1 {K : PySem.W.Frag} {Wout : WX} {D : Ends} {cs : List Value} {o : Option Nat} {ts : Addr → Value → Option Addr → TS} {r : List MCl} {cls : Value} {d : Option Addr} {σ : L2.St} {H : Hp} (y : PySem.W.exmAny K cls cs = some true) (q : ∀ a, H a = none → wMCl D (cs, o, ts) a cls d σ H) : wMCls K Wout D ((cs, o, ts) :: r) cls d σ H := ⟨true, y, fun _ => q, fun z => by cases z⟩
theorem r_m0 {K : PySem.W.Frag} {Wout : WX} {D : Ends} {cs : List Value} {o : Option Nat} {ts : Addr → Value → Option Addr → TS} {r : List MCl} {cls : Value} {d : Option Addr} {σ : L2.St} {H : Hp} (n : PySem.W.exmAny K cls cs = some false) (q : wMCls K Wout D r cls d σ H) : wMCls K Wout D ((cs, o, ts) :: r) cls d σ H := ⟨false, n, fun z => (by cases z), fun _ => q⟩
theorem r_mAs {D : Ends} {cs : List Value} {i : Nat} {ts : Addr → Value → Option Addr → TS} {a : Addr} {cls : Value} {d : Option Addr} {σ : L2.St} {H : Hp} (q : ts a cls d (asEnds i D) (σ.set i (some (.ref a))) H) : wMCl D (cs, some i, ts) a cls d σ H := q
/-- a tuple of two texts -/
def Two (a b : Str) (H : Hp) (Q : VK) : Prop := ∀ t H', Ex H H' → H' t = some (.tup [.str a, .str b]) → Q (.ref t) H'
theorem r_Vec2 {K : PySem.W.Frag} {H : Hp} {Q : VK} {E : XK} {v : V} {xs : List V} {os : List (Option (List Int))} (hs : Sq H v xs) (hr : RIts K H xs os) (hl : xs.length ≤ 1000) (hz : ∀ r ∈ rowsOf os, ∀ c ∈ r, Z 5000 c) (k1 : GV.shB os = false → Raised K "BadVectors" "part" (.str "rows") H E) (k2 : GV.shB os = true → GV.upB (rowsOf os) = false → Raised K "Misfit" "part" (.str "sum") H E)
    (q : GV.shB os = true → ∀ p H', H p = none → Ex H H' → Vec K H' p (rowsOf os) → Q (.ref p) H') : mkK (He.ga K "Vectors") (spVInit K) E Q [v] H := by
  intro x dx hx hd hn
  have e0 : Ex H (upd (upd H dx (.own x)) x (.ins (He.ga K "Vectors") dx [])) := put_own hx hd
  refine ⟨x, dx, rfl, upd_same, .inr ⟨xs, os, hs.ex e0, hr.ex e0, hl, hz, fun z d H' bu h => k1 z d H' (bu_ex e0 hx bu) h, fun z u d H' bu h => k2 z u d H' (bu_ex e0 hx bu) h, fun z u t ts H' bu ht htr hi => ⟨rfl, ?_⟩⟩⟩
  exact q z x H' hx (bu_ex e0 hx bu) ⟨⟨GV.shB_shR z, u⟩, dx, t, ts, hi, ht, htr⟩
def spMade (K : PySem.W.Frag) : Sp := sp1 fun v H Q _ => (RowB K H v false ∧ Two "BAD" "rows" H Q) ∨ ∃ xs os, Sq H v xs ∧ RIts K H xs os ∧ xs.length ≤ 1000 ∧ (∀ r ∈ rowsOf os, ∀ c ∈ r, Z 5000 c) ∧ (GV.shB os = false → Two "BAD" "rows" H Q) ∧ (GV.shB os = true → GV.upB (rowsOf os) = false → Two "MISFIT" "sum" H Q) ∧
  (GV.shB os = true → GV.upB (rowsOf os) = true → ∀ p H', H p = none → Ex H H' → Vec K H' p (rowsOf os) → Q (.ref p) H')
theorem ok__law_made {P : Program} {w : World} {K : PySem.W.Frag} {mg : Str → Option Value} {base : Heap} (T : Txt K mg) : ∃ fd, FnOk P w K mg base (L2.CX P w) 6 (He.ga K "_law_made") fd ["rows"] (spMade K) ∧ Binds K fd ["rows"] [] := by
  obtain ⟨fd, F⟩ := T.d__law_made
  obtain ⟨fd_Vectors_init, F_Vectors_init, B_Vectors_init, kb_Vectors_init_0⟩ := ok_Vectors_init (P := P) (w := w) (base := base) T
  refine ⟨fd, F.ok sc__law_made sp1_len (fun cdv A outer s H vs Q E hr h => ?_), F.bindsN fun _ _ _ _ _ _ us hl => match us, hl with | [_], _ => rfl⟩
  have hr_Vectors_init : Room 5 _ := hr.mono (by decide)
  obtain ⟨v, rfl, h⟩ := sp1_is h
  refine ⟨_, (pss_one (ps_try_m (Wout := fun _ _ _ _ => False) rfl rfl takes0 (fun W pn xe tk po => (pss_one (ps_ret (pe_makeS T.mk_Vectors F_Vectors_init hr_Vectors_init (by rfl) T.g_Vectors B_Vectors_init (fun σ => passAt tk σ) (pa_cons (pv 0) pa_nil))))) (MClsOk.cons (MClOk.as (i := 1) (.name ⟨rfl, by decide, Or.inl T.g_BadVectors⟩) sc__law_made.nd rfl rfl (fun a oe cls d pn hz hf => (pss_one (ps_ret (pe_tup (pa_cons pe_str (pa_cons (pe_xfA rfl hz hf (pv 1)) pa_nil))))))) (MClsOk.cons (MClOk.as (i := 1) (.name ⟨rfl, by decide, Or.inl T.g_Misfit⟩) sc__law_made.nd rfl rfl (fun a oe cls d pn hz hf => (pss_one (ps_ret (pe_tup (pa_cons pe_str (pa_cons (pe_xfA rfl hz hf (pv 1)) pa_nil))))))) (MClsOk.cons (MClOk.bare (.name ⟨rfl, by decide, Or.inl T.g_SignsError⟩) (fun a oe cls d pn hz hf => (pss_one (ps_ret (pe_tup (pa_cons pe_str (pa_cons pe_str pa_nil))))))) MClsOk.nil))))), ?_⟩
  walk_at "rd"
  have bad : ∀ {D : Ends} {σ : L2.St} {rest : List MCl} {Wout : WX}, σ.length = 2 → Two "BAD" "rows" H D.rt → Raised K "BadVectors" "part" (.str "rows") H fun cls d H' => wMCls K Wout D (([.ref (He.ga K "BadVectors")], some 1, fun a cls d => tRet (tTup (tCons (tC (V.str "BAD")) (tCons (tXfA K a cls d "part" (tVar 1)) tNil)))) :: rest) cls d σ H' := by
    intro D σ rest Wout hσ hk d H1 e1 hd
    refine r_m1 (exm_one (T.e_BadVectors.y "BadVectors" (by simp))) fun x hx => r_mAs ?_
    walk_at "rd"
    refine ⟨_, by simp [hσ], rfl, _, d, _, _, rfl, T.e_BadVectors.xf, T.e_BadVectors.no_ "part" (by simp), rfl, hd, rfl, ?_⟩
    walk_at "rd"
    exact r_newT (sz_le (by simp)) fun t H2 ht e2 h2 => hk t H2 (e1.trans e2) h2
  rcases h with ⟨hr, k⟩ | ⟨xs, os, hs, hr, hl, hz, k1, k2, k3⟩
  · exact r_VecNo hr (bad rfl k)
  · refine r_Vec2 hs hr hl hz (fun z => bad rfl (k1 z)) (fun z u => ?_) fun z p H' hp e hv => k3 z hv.1.2 p H' hp e hv
    intro d H1 e1 hd
    refine r_m0 (exm_one (T.e_Misfit.n "BadVectors" (by simp))) (r_m1 (exm_one (T.e_Misfit.y "Misfit" (by simp))) fun x hx => r_mAs ?_)
    walk_at "rd"
    refine ⟨_, rfl, rfl, _, d, _, _, rfl, T.e_Misfit.xf, T.e_Misfit.no_ "part" (by simp), rfl, hd, rfl, ?_⟩
    walk_at "rd"
    exact r_newT (sz_le (by simp)) fun t H2 ht e2 h2 => k2 z u t H2 (e1.trans e2) h2
def StopT (j : Nat) (H : Hp) (Q : VK) : Prop := ∀ t H', Ex H H' → H' t = some (.tup [.str "STOP", .int 0, .int j]) → Q (.ref t) H'
def spRead (K : PySem.W.Frag) : Sp := sp1 fun v H Q _ => (∃ (ys : List Str) (vs : List (Option Int)), v = .str (Txt.join (Str.ofString " ") ys) ∧ ys ≠ [] ∧ Its ys vs ∧ ys.length ≤ 100 ∧
    (∀ j, GV.stp vs (decide (ys[1]? = some (Str.ofString ":"))) = .inl j → StopT j H Q) ∧ ∀ rs, GV.stp vs (decide (ys[1]? = some (Str.ofString ":"))) = .inr rs → ∀ p H', Ex H H' → Vec K H' p rs → Q (.ref p) H') ∨
  ((∃ t, TyX K H v t ∧ PySem.W.kitOne K t (.type "str") = some false) ∧ StopT 0 H Q)
theorem ok__law_read {P : Program} {w : World} {K : PySem.W.Frag} {mg : Str → Option Value} {base : Heap} (T : Txt K mg) : ∃ fd, FnOk P w K mg base (L2.CX P w) 7 (He.ga K "_law_read") fd ["text"] (spRead K) ∧ Binds K fd ["text"] [] := by
  obtain ⟨fd, F⟩ := T.d__law_read
  obtain ⟨fd_Vectors_read, F_Vectors_read, B_Vectors_read, kb_Vectors_read_0⟩ := ok_Vectors_read (P := P) (w := w) (base := base) T
  refine ⟨fd, F.ok sc__law_read sp1_len (fun cdv A outer s H vs Q E hr h => ?_), F.bindsN fun _ _ _ _ _ _ us hl => match us, hl with | [_], _ => rfl⟩
  have hr_Vectors_read : Room 6 _ := hr.mono (by decide)
  obtain ⟨v, rfl, h⟩ := sp1_is h
  refine ⟨_, (pss_one (ps_try_m (Wout := fun _ _ _ _ => False) rfl rfl takes0 (fun W pn xe tk po => (pss_one (ps_ret (pe_smethS (pe_glob (v := .ref (He.ga K "Vectors")) rfl T.g_Vectors rfl) T.sm_Vectors_read.2.1 T.sm_Vectors_read.1 F_Vectors_read T.sm_Vectors_read.2.2 hr_Vectors_read B_Vectors_read (fun σ => passAt tk σ) (pa_cons (pv 0) pa_nil))))) (MClsOk.cons (MClOk.as (i := 1) (.name ⟨rfl, by decide, Or.inl T.g_BadText⟩) sc__law_read.nd rfl rfl (fun a oe cls d pn hz hf => (pss_one (ps_ret (pe_tup (pa_cons pe_str (pa_cons (pe_xfA rfl hz hf (pv 1)) (pa_cons (pe_xfA rfl hz hf (pv 1)) pa_nil)))))))) (MClsOk.cons (MClOk.bare (.name ⟨rfl, by decide, Or.inl T.g_SignsError⟩) (fun a oe cls d pn hz hf => (pss_one (ps_ret (pe_tup (pa_cons pe_str (pa_cons pe_str pa_nil))))))) MClsOk.nil)))), ?_⟩
  walk_at "rd"
  have stop : ∀ {j : Nat} {D : Ends} {σ : L2.St} {rest : List MCl} {Wout : WX}, σ.length = 2 → StopT j H D.rt → Stop K j H fun cls d H' => wMCls K Wout D (([.ref (He.ga K "BadText")], some 1, fun a cls d => tRet (tTup (tCons (tC (V.str "STOP")) (tCons (tXfA K a cls d "line" (tVar 1)) (tCons (tXfA K a cls d "item" (tVar 1)) tNil))))) :: rest) cls d σ H' := by
    intro j D σ rest Wout hσ hk d H1 e1 hd
    refine r_m1 (exm_one (T.e_BadText.y "BadText" (by simp))) fun x hx => r_mAs ?_
    walk_at "rd"
    refine ⟨_, by simp [hσ], rfl, _, d, _, _, rfl, T.e_BadText.xf, T.e_BadText.no_ "line" (by simp), rfl, hd, rfl, ?_⟩
    walk_at "rd"
    refine ⟨_, by simp [hσ], rfl, _, d, _, _, rfl, T.e_BadText.xf, T.e_BadText.no_ "item" (by simp), rfl, hd, rfl, ?_⟩
    walk_at "rd"
    exact r_newT (sz_le (by simp)) fun t H2 ht e2 h2 => hk t H2 (e1.trans e2) h2
  refine ⟨rfl, ?_⟩
  walk_at "rd"
  rcases h with ⟨ys, vs, rfl, hne, hits, hl, k1, k2⟩ | ⟨ht, k⟩
  · have hf := hits.free
    refine .inl ⟨ys, vs, rfl, hne, fun y hy => (hf y hy).1, join_len (fun y hy => (hf y hy).2.1) hl, by omega, hits.its, fun j hj => stop rfl (k1 j hj), fun rs hrs p H' e hv => k2 rs hrs p H' e hv⟩
  · exact .inr ⟨ht, stop rfl k⟩

end K31
namespace K31
open PySem PySem.Spec PyProof.Rows L2 GS TL
local macro_rules | `(tactic| walk_at "rd") => `(tactic| (repeat (first
  | with_reducible refine r_next ?_
  | with_reducible refine r_seq ?_
  | with_reducible refine r_ret ?_
  | with_reducible refine r_ifS ?_
  | with_reducible refine r_asg ?_
  | with_reducible refine r_drop ?_
  | with_reducible refine r_op ?_
  | with_reducible refine r_un ?_
  | with_reducible refine r_cbInt ?_
  | with_reducible refine r_cbAbs ?_
  | with_reducible refine r_cbLen ?_
  | with_reducible refine r_cbList ?_
  | with_reducible refine r_cbTup ?_
  | with_reducible refine r_iEnT ?_
  | with_reducible refine r_iEnL ?_
  | with_reducible refine r_zipA ?_
  | with_reducible refine r_zipX ?_
  | with_reducible refine r_augS ?_
  | with_reducible refine r_cb ?_
  | with_reducible refine r_call ?_
  | with_reducible refine r_make ?_
  | with_reducible refine r_callN0 ?_
  | with_reducible refine r_makeK0 ?_
  | with_reducible refine r_makeS ?_
  | with_reducible refine r_callS ?_
  | with_reducible refine r_cons ?_
  | with_reducible refine r_nil ?_
  | with_reducible refine r_test ?_
  | with_reducible refine r_B ?_
  | with_reducible refine r_and ?_
  | with_reducible refine r_or ?_
  | with_reducible refine r_not ?_
  | with_reducible refine r_andV ?_
  | with_reducible refine r_orV ?_
  | with_reducible refine r_notV ?_
  | with_reducible refine r_if ?_
  | with_reducible refine r_tup ?_
  | with_reducible refine r_lst ?_
  | with_reducible refine r_c ?_
  | with_reducible refine r_lc ?_
  | with_reducible refine r_chain ?_
  | with_reducible refine r_iT ?_
  | with_reducible refine r_iL ?_
  | with_reducible refine r_iR1 ?_
  | with_reducible refine r_iR2 ?_
  | with_reducible refine r_iR3 ?_
  | with_reducible refine r_asgG ?_
  | with_reducible refine r_gSub ?_
  | with_reducible refine r_for ?_
  | with_reducible refine r_smeth ?_
  | with_reducible refine r_par ?_
  | with_reducible refine r_parK ?_
  | with_reducible refine r_gCons ?_
  | with_reducible refine r_gNil ?_
  | with_reducible refine r_gName ?_
  | with_reducible refine r_intI ?_
  | with_reducible refine r_intB ?_
  | with_reducible refine r_absI ?_
  | with_reducible refine r_k ?_
  | with_reducible refine r_kV ?_
  | ((with_reducible show tVar _ _ _ _); refine r_var3 ?_ (by rfl))
  | with_reducible refine r_I0 ?_
  | with_reducible refine r_U ?_
  | with_reducible refine r_eqI ?_
  | with_reducible refine r_neI ?_
  | dsimp only)))
local macro_rules | `(tactic| walk_at "rx") => `(tactic| (repeat (first
  | with_reducible refine r_next ?_
  | with_reducible refine r_ret ?_
  | with_reducible refine r_ifS ?_
  | with_reducible refine r_asg ?_
  | with_reducible refine r_drop ?_
  | with_reducible refine r_op ?_
  | with_reducible refine r_un ?_
  | with_reducible refine r_cbInt ?_
  | with_reducible refine r_cbAbs ?_
  | with_reducible refine r_cbLen ?_
  | with_reducible refine r_cbList ?_
  | with_reducible refine r_cbTup ?_
  | with_reducible refine r_iEnT ?_
  | with_reducible refine r_iEnL ?_
  | with_reducible refine r_zipA ?_
  | with_reducible refine r_zipX ?_
  | with_reducible refine r_augS ?_
  | with_reducible refine r_cb ?_
  | with_reducible refine r_call ?_
  | with_reducible refine r_make ?_
  | with_reducible refine r_callN0 ?_
  | with_reducible refine r_makeK0 ?_
  | with_reducible refine r_makeS ?_
  | with_reducible refine r_callS ?_
  | with_reducible refine r_cons ?_
  | with_reducible refine r_nil ?_
  | with_reducible refine r_test ?_
  | with_reducible refine r_B ?_
  | with_reducible refine r_and ?_
  | with_reducible refine r_or ?_
  | with_reducible refine r_not ?_
  | with_reducible refine r_andV ?_
  | with_reducible refine r_orV ?_
  | with_reducible refine r_notV ?_
  | with_reducible refine r_if ?_
  | with_reducible refine r_tup ?_
  | with_reducible refine r_lst ?_
  | with_reducible refine r_c ?_
  | with_reducible refine r_lc ?_
  | with_reducible refine r_chain ?_
  | with_reducible refine r_iT ?_
  | with_reducible refine r_iL ?_
  | with_reducible refine r_iR1 ?_
  | with_reducible refine r_iR2 ?_
  | with_reducible refine r_iR3 ?_
  | with_reducible refine r_asgG ?_
  | with_reducible refine r_gSub ?_
  | with_reducible refine r_for ?_
  | with_reducible refine r_smeth ?_
  | with_reducible refine r_par ?_
  | with_reducible refine r_parK ?_
  | with_reducible refine r_gCons ?_
  | with_reducible refine r_gNil ?_
  | with_reducible refine r_gName ?_
  | with_reducible refine r_intI ?_
  | with_reducible refine r_intB ?_
  | with_reducible refine r_absI ?_
  | with_reducible refine r_k ?_
  | with_reducible refine r_kV ?_
  | ((with_reducible show tVar _ _ _ _); refine r_var3 ?_ (by rfl))
  | with_reducible refine r_I0 ?_
  | with_reducible refine r_U ?_
  | with_reducible refine r_eqI ?_
  | with_reducible refine r_neI ?_
  | dsimp only)))
/-! ### rows held against vectors -/
theorem r_neRows {K : PySem.W.Frag} {H : Hp} {Q : VK} {p q : Addr} {ts us : List Addr} {rs qs : List (List Int)} (h1 : H p = some (.tup (ts.map V.ref))) (g1 : TRw H ts rs) (h2 : H q = some (.tup (us.map V.ref))) (g2 : TRw H us qs) (k : Q (.bl (!decide (rs = qs))) H) : rNeD K (.ref p) (.ref q) H Q := by
  refine ⟨_, _, .tup (SqT.of h1) (dp_rows g1), .tup (SqT.of h2) (dp_rows g2), shaped_rows rs, shaped_rows qs, ?_⟩
  show Q (.bl (!PyData.eqvAll (dRow rs) (dRow qs))) H
  rw [eqv_rows]
  exact k
theorem tw_of {H : Hp} {ys : List V} {rs : List (List Int)} {n : Nat} (hn : rs.length = n) (hl : ys.length = n) (h : ∀ (i : Nat) (y : V), ys[i]? = some y → ∃ t, y = .ref t ∧ H t = some (.tup ((rs.getD i []).map V.int))) : ∃ ts : List Addr, ys = ts.map V.ref ∧ TRw H ts rs := by
  have e : ys = (ys.map fun x => match x with | .ref t => t | _ => 0).map V.ref := by
    refine List.ext_getElem (by simp) fun i h1 h2 => ?_
    obtain ⟨t, ht, _⟩ := h i ys[i] (by simp [h1])
    simp [ht]
  refine ⟨_, e, TRw.of (by rw [List.length_map, hl, hn]) fun j t r ht hr => ?_⟩
  have hj : j < ys.length := by rw [hl, ← hn]; exact (List.getElem?_eq_some_iff.mp hr).1
  obtain ⟨t', h1, h2⟩ := h j ys[j] (by simp [hj])
  rw [List.getElem?_map, List.getElem?_eq_getElem hj, h1] at ht
  cases ht
  rw [List.getD_eq_getElem?_getD, hr] at h2
  exact h2
theorem given_none (n : Nat) (f : Nat → V) : given n (fun _ => false) f = [] := by
  unfold given
  rw [List.filter_eq_nil_iff.mpr (by simp)]
  rfl
theorem r_VEq {K : PySem.W.Frag} {mg : Str → Option Value} {H : Hp} {Q : VK} {E : XK} {a b : Addr} {rs qs : List (List Int)} (T : Txt K mg) (ha : Vec K H a rs) (hb : Vec K H b qs) (q : Q (.bl (decide (rs = qs))) H) : rEqOwn K (He.ga K "Vectors") (spVEq K) E (.ref a) (.ref b) H Q := by
  obtain ⟨dx, fs, h1⟩ := ha.inst
  obtain ⟨dx2, fs2, h2⟩ := hb.inst
  exact ⟨a, dx, fs, _, rfl, h1, ty_own T (by decide) h2, T.cc_Vectors.nf, a, rs, rfl, ha, .inl ⟨b, qs, rfl, hb, q⟩⟩
theorem r_VEqNo {K : PySem.W.Frag} {mg : Str → Option Value} {H : Hp} {Q : VK} {E : XK} {a : Addr} {v : V} {rs : List (List Int)} (T : Txt K mg) (ha : Vec K H a rs) (hv : No K "Vectors" H v) (q : Q (.bl false) H) : rEqOwn K (He.ga K "Vectors") (spVEq K) E (.ref a) v H Q := by
  obtain ⟨dx, fs, h1⟩ := ha.inst
  obtain ⟨t, ht, hk, hn⟩ := no_not T (by decide) hv
  exact ⟨a, dx, fs, _, rfl, h1, ht, hn, a, rs, rfl, ha, .inr ⟨hv, q⟩⟩
def spIs (K : PySem.W.Frag) : Sp := sp2 fun v u H Q _ => ∃ (a : Addr) (rs : List (List Int)), v = .ref a ∧ Vec K H a rs ∧ LL H u rs ∧ rz rs ∧ ∀ H', Ex H H' → Q (.bl true) H'
theorem ok__law_is {P : Program} {w : World} {K : PySem.W.Frag} {mg : Str → Option Value} {base : Heap} (T : Txt K mg) : ∃ fd, FnOk P w K mg base (L2.CX P w) 7 (He.ga K "_law_is") fd ["value", "rows"] (spIs K) ∧ Binds K fd ["value", "rows"] [] := by
  obtain ⟨fd, F⟩ := T.d__law_is
  obtain ⟨fd_Vectors_eq, F_Vectors_eq, B_Vectors_eq⟩ := ok_Vectors_eq (P := P) (w := w) (base := base) T
  obtain ⟨fd_Vectors_str, F_Vectors_str, B_Vectors_str⟩ := ok_Vectors_str (P := P) (w := w) (base := base) T
  obtain ⟨fd__law_text, F__law_text, B__law_text⟩ := ok__law_text (P := P) (w := w) (base := base) T
  obtain ⟨fd_Vectors_read, F_Vectors_read, B_Vectors_read, kb_Vectors_read_0⟩ := ok_Vectors_read (P := P) (w := w) (base := base) T
  obtain ⟨fd__law_total, F__law_total, B__law_total⟩ := ok__law_total (P := P) (w := w) (base := base) T
  refine ⟨fd, F.ok sc__law_is sp2_len (fun cdv A outer s H vs Q E hr h => ?_), F.bindsN fun _ _ _ _ _ _ us hl => match us, hl with | [_, _], _ => rfl⟩
  have hr_Vectors_eq : Room 1 _ := hr.mono (by decide)
  have hr_Vectors_str : Room 4 _ := hr.mono (by decide)
  have hr__law_text : Room 1 _ := hr.mono (by decide)
  have hr_Vectors_read : Room 6 _ := hr.mono (by decide)
  have hr__law_total : Room 1 _ := hr.mono (by decide)
  obtain ⟨v, u, rfl, a, rs, rfl, ha, ⟨p, cs, rfl, hp, hla⟩, hz, k⟩ := sp2_is h
  refine ⟨_, (pss_cons (ps_if (PW.pt (pw_or (pt_not (pt_val (pe_callB (cr_isi rfl) (by rfl) T.b_isinstance (by decide +kernel) (pa_cons (pv 0) (pa_cons (pe_glob (v := .ref (He.ga K "Vectors")) rfl T.g_Vectors rfl) pa_nil))))) (pw_or (pt_not (pt_val (pe_callB (cr_isi rfl) (by rfl) T.b_isinstance (by decide +kernel) (pa_cons (kx_fld rfl (pv 0) rfl) (pa_cons (pe_bltn (v := .ty "tuple") (by rfl) T.b_tuple (by decide +kernel) rfl) pa_nil))))) (pw_or1 (pt_cmpR (op_neD hr.units) (kx_fld rfl (pv 0) rfl) (pe_callTy (kx_tupOf (K := K) rfl) (by rfl) T.b_tuple (by decide +kernel) (pa_cons (pe_lc (own := [("row", 2)]) (g := gName 2) (tt := tYes)  rfl sc__law_is.nd (pi_list (pv 1)) (blkOk_by (own := [("row", 2)]) (N := ["value", "rows", "row", "each", "longest", "back"]) (sc := defScope s__law_is) (by decide +kernel)) (fun _ _ _ _ _ => (pg_name (i := 2) sc__law_is.nd rfl (Or.inl rfl))) (fun _ _ _ _ _ => pts_nil) (fun _ _ _ _ _ => (pe_callTy (kx_tupOf (K := K) rfl) (by rfl) T.b_tuple (by decide +kernel) (pa_cons (pv 2) pa_nil)))) pa_nil)) (nomark _)))))) (pss_one (ps_ret pe_bl)) pss_nil)
      (pss_cons (ps_if (pt_cmpR (op_neD hr.units) (pe_lc (own := [("row", 2)]) (g := gName 2)  rfl sc__law_is.nd (pi_tup (kx_fld rfl (pv 0) rfl)) (blkOk_by (own := [("row", 2)]) (N := ["value", "rows", "row", "each", "longest", "back"]) (sc := defScope s__law_is) (by decide +kernel)) (fun _ _ _ _ _ => (pg_name (i := 2) sc__law_is.nd rfl (Or.inl rfl))) (fun _ _ _ _ _ => (pts_one (PW.pt (pw_or (pt_not (pt_val (pe_callB (cr_isi rfl) (by rfl) T.b_isinstance (by decide +kernel) (pa_cons (pv 2) (pa_cons (pe_bltn (v := .ty "tuple") (by rfl) T.b_tuple (by decide +kernel) rfl) pa_nil))))) (pw_or1 (pt_cmpR (kx_neD (K := K) rfl hr.units) (pe_lc (own := [("each", 3)]) (g := gName 3)  rfl sc__law_is.nd (kx_piseq (K := K) rfl (pv 2)) (blkOk_by (own := [("each", 3)]) (N := ["value", "rows", "row", "each", "longest", "back"]) (by rfl)) (fun _ _ _ _ _ => (pg_name (i := 3) sc__law_is.nd rfl (Or.inl rfl))) (fun _ _ _ _ _ => (pts_one (pt_val (pe_callB (cr_isi rfl) (by rfl) T.b_isinstance (by decide +kernel) (pa_cons (pv 3) (pa_cons (pe_bltn (v := .ty "bool") (by rfl) T.b_bool (by decide +kernel) rfl) pa_nil)))))) (fun _ _ _ _ _ => (pv 3))) (pe_lst pa_nil) (nomark _))))))) (fun _ _ _ _ _ => pe_int)) (pe_lst pa_nil) (nomark _)) (pss_one (ps_ret pe_bl)) pss_nil)
      (pss_cons (ps_set (i := 4) sc__law_is.nd rfl (Or.inl rfl) (pe_callB (kx_max (K := K) rfl rfl) (by rfl) T.b_max (by decide +kernel) (pa_cons (pe_lc (own := [("row", 2)]) (g := gName 2) (tt := tYes)  rfl sc__law_is.nd (pi_list (pv 1)) (blkOk_by (own := [("row", 2)]) (N := ["value", "rows", "row", "each", "longest", "back"]) (sc := defScope s__law_is) (by decide +kernel)) (fun _ _ _ _ _ => (pg_name (i := 2) sc__law_is.nd rfl (Or.inl rfl))) (fun _ _ _ _ _ => pts_nil) (fun _ _ _ _ _ => (pe_callB (kx_sum (K := K) rfl rfl) (by rfl) T.b_sum (by decide +kernel) (pa_cons (pe_lc (own := [("each", 3)]) (g := gName 3) (tt := tYes)  rfl sc__law_is.nd (kx_piseq (K := K) rfl (pv 2)) (blkOk_by (own := [("each", 3)]) (N := ["value", "rows", "row", "each", "longest", "back"]) (by rfl)) (fun _ _ _ _ _ => (pg_name (i := 3) sc__law_is.nd rfl (Or.inl rfl))) (fun _ _ _ _ _ => pts_nil) (fun _ _ _ _ _ => (pe_op op_mulW (pv 3) (pv 3)))) pa_nil)))) pa_nil)))
      (pss_cons (ps_if (PW.pt (pw_or (pt_cmpR op_ne (kx_fld rfl (pv 0) rfl) (pe_call F__law_total hr__law_total (by rfl) T.g__law_total T.k__law_total B__law_total .nil passL (pa_cons (pv 1) pa_nil)) (nomark _)) (pw_or (pt_cmpR op_ne (kx_fld rfl (pv 0) rfl) (pv 4) (nomark _)) (pw_or (pt_val (pe_callB (cr_isi rfl) (by rfl) T.b_isinstance (by decide +kernel) (pa_cons (kx_fld rfl (pv 0) rfl) (pa_cons (pe_bltn (v := .ty "bool") (by rfl) T.b_bool (by decide +kernel) rfl) pa_nil)))) (pw_or1 (pt_val (pe_callB (cr_isi rfl) (by rfl) T.b_isinstance (by decide +kernel) (pa_cons (kx_fld rfl (pv 0) rfl) (pa_cons (pe_bltn (v := .ty "bool") (by rfl) T.b_bool (by decide +kernel) rfl) pa_nil))))))))) (pss_one (ps_ret pe_bl)) pss_nil)
      (pss_cons (ps_set (i := 5) sc__law_is.nd rfl (Or.inl rfl) (pe_smethK0 (pe_glob (v := .ref (He.ga K "Vectors")) rfl T.g_Vectors rfl) T.sm_Vectors_read.2.1 T.sm_Vectors_read.1 F_Vectors_read T.sm_Vectors_read.2.2 hr_Vectors_read kb_Vectors_read_0 passL (pk_cons (pe_call F__law_text hr__law_text (by rfl) T.g__law_text T.k__law_text B__law_text .nil passL (pa_cons (pv 1) pa_nil)) pk_nil)))
      (pss_one (ps_ret (pe_and (pe_cmpR op_eq (pe_callTy (call_strOwn F_Vectors_str hr_Vectors_str T.me_Vectors_str.at_ T.me_Vectors_str.fn B_Vectors_str passL) (by rfl) T.b_str (by decide +kernel) (pa_cons (pv 0) pa_nil)) (pe_call F__law_text hr__law_text (by rfl) T.g__law_text T.k__law_text B__law_text .nil passL (pa_cons (pv 1) pa_nil)) (nomark _)) (pe_and (pe_callB (cr_isi rfl) (by rfl) T.b_isinstance (by decide +kernel) (pa_cons (pv 5) (pa_cons (pe_glob (v := .ref (He.ga K "Vectors")) rfl T.g_Vectors rfl) pa_nil))) (pe_and (pe_cmpR (op_eqOwn F_Vectors_eq hr_Vectors_eq T.me_Vectors_eq.at_ T.me_Vectors_eq.fn B_Vectors_eq passL) (pv 5) (pv 0) (nomark _)) (pe_one (pe_cmpR (op_eqD hr.units) (kx_fld rfl (pv 5) rfl) (kx_fld rfl (pv 0) rfl) (nomark _))))))))))))), ?_⟩
  have sh := ha.1.1
  have l9 := sh.2.1
  have lcs := hla.1
  obtain ⟨dx, fs, hins⟩ := ha.inst
  walk_at "rx"
  refine r_seqJ (fun σ' H' => Ex H H' ∧ σ' = [some (.ref a), some (.ref p), none, none, none, none]) (fun N hN => ?_) ?_
  · walk_at "rd"
    refine ⟨_, _, _, _, true, rfl, .own _, ty_own T (by decide) hins, T.cc_Vectors.me, ?_⟩
    walk_at "rd"
    refine ite_f rfl ?_
    walk_at "rd"
    refine r_fr T ha fun t0 ts0 h0 g0 => ?_
    walk_at "rd"
    refine ⟨_, _, _, _, true, rfl, .ty "tuple", .base (.tup h0), kit_ty (by decide +kernel), ?_⟩
    walk_at "rd"
    refine ite_f rfl ?_
    walk_at "rd"
    refine r_fr T ha fun t1 ts1 h1 g1 => ?_
    walk_at "rd"
    refine ⟨p, rfl, ⟨_, SqL.of hp⟩, ?_⟩
    refine r_lcI (n := cs.length) (k := 2) (by simpa using walk_list (xs := cs.map V.ref)) (fun i => (rs.getD i []).map V.int) (by omega) (fun H' e => SqL.of (e _ _ hp)) (fun _ => rfl) ?_ ?_
    · rintro i y H2 H3 hi e2 ⟨rfl, hy⟩
      obtain ⟨t, ht, rfl⟩ := ref_at hy
      obtain ⟨r, hr, hrow⟩ := (hla.ex e2).at ht
      refine ⟨Ex.refl _, fun R kR => ?_⟩
      walk_at "rd"
      refine r_tupL (SqL.of hrow) fun l H4 hl e4 h4 => kR l H4 e4 ?_
      rw [h4, List.getD_eq_getElem?_getD, hr]
      rfl
    · intro D ys H2 hD e2 h2 hlen hit
      obtain ⟨ts, rfl, tr⟩ := tw_of (by omega) hlen hit
      walk_at "rd"
      refine r_tupL (SqL.of h2) fun l H4 hl e4 h4 => ?_
      refine r_neRows (e4 _ _ (e2 _ _ h1)) ((g1.to fun t xs z => e2 _ _ z).to fun t xs z => e4 _ _ z) h4 (tr.to fun t xs z => e4 _ _ z) ?_
      walk_at "rd"
      refine ite_f (by simp) ?_
      exact hN _ _ ⟨e2.trans e4, rfl⟩
  rintro σ' H1 ⟨e1, rfl⟩
  refine r_seqJ (fun σ' H' => Ex H H' ∧ σ' = [some (.ref a), some (.ref p), none, none, none, none]) (fun N hN => ?_) ?_
  · walk_at "rd"
    refine r_fr T (ha.ex e1) fun t0 ts0 h0 g0 => ?_
    obtain ⟨lt, hat⟩ := g0.at
    refine ⟨t0, rfl, ⟨_, SqT.of h0⟩, ?_⟩
    refine r_lcF (n := ts0.length) (k := 2) (by simpa using walk_tup (xs := ts0.map V.ref)) (fun _ => false) (fun _ => .int 1) (by omega) (fun H' e => SqT.of (e _ _ h0)) (fun _ => rfl) ?_ ?_ ?_
    · rintro i y H2 H3 hi e2 ⟨rfl, hy⟩
      obtain ⟨t, ht, rfl⟩ := ref_at hy
      obtain ⟨r, hr, hrow⟩ := hat i t ht
      have lr : r.length = GV.wid rs := sh.2.2.2.2 r (List.mem_of_getElem? hr)
      have w3 := sh.2.2.2.1
      refine ⟨Ex.refl _, fun R kR => ?_⟩
      walk_at "rd"
      refine ⟨_, _, _, _, true, rfl, .ty "tuple", .base (.tup (e2 _ _ hrow)), kit_ty (by decide +kernel), ?_⟩
      walk_at "rd"
      refine ite_f rfl ?_
      walk_at "rd"
      refine ⟨_, rfl, t, rfl, .inr ⟨⟨_, SqT.of (e2 _ _ hrow)⟩, ?_⟩⟩
      refine r_lcF (n := r.length) (k := 3) (by simpa using walk_tup (xs := r.map V.int)) (fun _ => false) (fun _ => .non) (by omega) (fun H' e => SqT.of (e _ _ (e2 _ _ hrow))) (fun _ => rfl) ?_ ?_ ?_
      · rintro j z H4 H5 hj e4 ⟨rfl, hz'⟩
        obtain ⟨c, hc, rfl⟩ := int_at hz'
        refine ⟨Ex.refl _, fun R2 kR2 => ?_⟩
        walk_at "rd"
        refine ⟨_, _, _, _, false, rfl, .ty "bool", .base (.int c), kit_ty (by decide +kernel), ?_⟩
        walk_at "rd"
        exact kR2 _ (Ex.refl _)
      · rintro j z H4 hj hf
        cases hf
      · intro D H4 hD e4 h4
        rw [given_none] at h4
        walk_at "rd"
        refine r_newL (Nat.zero_le _) fun q H5 hq e5 h5 => ?_
        refine r_neInts (xs := []) (ys := []) (e5 _ _ h4) h5 ?_
        walk_at "rd"
        exact kR _ (e4.trans e5)
    · rintro i y H2 hi hf
      cases hf
    · intro D H2 hD e2 h2
      rw [given_none] at h2
      walk_at "rd"
      refine r_newL (Nat.zero_le _) fun q H3 hq e3 h3 => ?_
      refine r_neInts (xs := []) (ys := []) (e3 _ _ h2) h3 ?_
      walk_at "rd"
      refine ite_f (by simp) ?_
      exact hN _ _ ⟨(e1.trans e2).trans e3, rfl⟩
  clear e1
  rintro σ' H2 ⟨e2, rfl⟩
  refine r_seqJ (fun σ' H' => Ex H H' ∧ σ' = [some (.ref a), some (.ref p), none, none, some (.int (GV.lon rs)), none]) (fun N hN => ?_) ?_
  · walk_at "rd"
    have hp2 := e2 _ _ hp
    refine ⟨p, rfl, ⟨_, SqL.of hp2⟩, ?_⟩
    refine r_lcM (n := cs.length) (k := 2) (by simpa using walk_list (xs := cs.map V.ref)) (fun i => .int ((rs.map fun r => GV.pr r r).getD i 0)) (by omega) (fun H' e => SqL.of (e _ _ hp2)) (fun _ => rfl) ?_ ?_
    · rintro i y H3 H4 hi e3 ⟨rfl, hy⟩
      refine ⟨Ex.refl _, fun H5 e5 R kR => ?_⟩
      obtain ⟨t, ht, rfl⟩ := ref_at hy
      obtain ⟨r, hr, hrow⟩ := (hla.ex ((e2.trans e3).trans e5)).at ht
      have lr : r.length = GV.wid rs := sh.2.2.2.2 r (List.mem_of_getElem? hr)
      have w3 := sh.2.2.2.1
      walk_at "rd"
      refine ⟨_, rfl, t, rfl, .inl ⟨⟨_, SqL.of hrow⟩, ?_⟩⟩
      refine r_lcM (n := r.length) (k := 3) (by simpa using walk_list (xs := r.map V.int)) (fun j => .int ((r.map fun c => c * c).getD j 0)) (by omega) (fun H' e => SqL.of (e _ _ hrow)) (fun _ => rfl) ?_ ?_
      · rintro j z H6 H7 hj e6 ⟨rfl, hz'⟩
        refine ⟨Ex.refl _, fun H8 e8 R2 kR2 => ?_⟩
        obtain ⟨c, hc, rfl⟩ := int_at hz'
        have zc : Z 300 c := rz.z (n := 300) hz (by decide) r (List.mem_of_getElem? hr) c (List.mem_of_getElem? hc)
        walk_at "rd"
        refine r_I (mulOk zc zc (by decide) (by decide) (by decide)) ?_
        have e : (r.map fun c => c * c).getD j 0 = c * c := by rw [List.getD_eq_getElem?_getD, List.getElem?_map, hc]; rfl
        rw [e] at kR2
        exact kR2 _ (Ex.refl _)
      · intro D H6 hD e6 h6
        have e := range_map (r.map fun c => c * c)
        rw [List.length_map] at e
        rw [e] at h6
        refine ⟨D, _, rfl, SqL.of h6, ?_⟩
        have e7 : (rs.map fun r => GV.pr r r).getD i 0 = (r.map fun c => c * c).sum := by
          rw [List.getD_eq_getElem?_getD, List.getElem?_map, hr]
          exact (GV.sum_sq r).symm
        rw [e7] at kR
        exact kR _ e6
    · intro D H3 hD e3 h3
      walk_at "rd"
      have e := range_map (rs.map fun r => GV.pr r r)
      rw [List.length_map, ← lcs] at e
      rw [e] at h3
      refine ⟨D, _, rfl, SqL.of h3, by rw [List.length_map]; exact sh.1, fun m hm hmax => ?_⟩
      rw [GV.mx_uniq hm hmax]
      exact hN _ _ ⟨e2.trans e3, rfl⟩
  clear e2
  rintro σ' H3 ⟨e3, rfl⟩
  refine r_seqJ (fun σ' H' => Ex H H' ∧ σ' = [some (.ref a), some (.ref p), none, none, some (.int (GV.lon rs)), none]) (fun N hN => ?_) ?_
  · walk_at "rd"
    refine r_ft T (ha.ex e3) ?_
    walk_at "rd"
    refine ⟨rs, ⟨p, cs, rfl, e3 _ _ hp, hla.ex e3⟩, .inr sh, hz.z, fun H4 e4 => ?_⟩
    rw [tv_up sh ha.1.2]
    walk_at "rd"
    refine ite_f (by simp) ?_
    walk_at "rd"
    refine r_fl T (ha.ex (e3.trans e4)) ?_
    walk_at "rd"
    refine ite_f (by simp) ?_
    walk_at "rd"
    refine r_ft T (ha.ex (e3.trans e4)) ?_
    walk_at "rd"
    refine ⟨_, _, _, _, false, rfl, .ty "bool", .base (.int _), kit_ty (by decide +kernel), ?_⟩
    walk_at "rd"
    refine ite_f rfl ?_
    walk_at "rd"
    refine r_fl T (ha.ex (e3.trans e4)) ?_
    walk_at "rd"
    refine ⟨_, _, _, _, false, rfl, .ty "bool", .base (.int _), kit_ty (by decide +kernel), ?_⟩
    walk_at "rd"
    exact hN _ _ ⟨e3.trans e4, rfl⟩
  clear e3
  rintro σ' H4 ⟨e4, rfl⟩
  walk_at "rd"
  refine ⟨rfl, ?_⟩
  walk_at "rd"
  refine ⟨rs, ⟨p, cs, rfl, e4 _ _ hp, hla.ex e4⟩, sh, hz, fun H5 e5 => ?_⟩
  walk_at "rd"
  refine ⟨rfl, ?_⟩
  have hits := vI_its sh hz
  have hf := hits.free
  have vl := vI_len sh
  have hst : GV.stp (GV.vsI rs) (decide ((vI rs)[1]? = some (Str.ofString ":"))) = .inr rs := by
    rw [decide_eq_true (show (vI rs)[1]? = some (Str.ofString ":") from rfl), GV.stp_vsI sh, if_pos ha.1.2]
  refine .inl ⟨vI rs, GV.vsI rs, rfl, by simp [vI], fun y hy => (hf y hy).1, join_len (fun y hy => (hf y hy).2.1) (by omega), by omega, hits.its, fun j hj => (by rw [hst] at hj; cases hj), fun rs' hrs b H6 e6 hb => ?_⟩
  rw [hst] at hrs
  cases hrs
  walk_at "rd"
  have e46 := (e4.trans e5).trans e6
  obtain ⟨dx6, fs6, hins6⟩ := (ha.ex e46).inst
  refine ⟨a, dx6, fs6, rfl, hins6, a, rs, rfl, ha.ex e46, hz, fun H7 e7 => ⟨⟨_, rfl⟩, ?_⟩⟩
  walk_at "rd"
  refine ⟨rs, ⟨p, cs, rfl, e7 _ _ (e46 _ _ hp), hla.ex (e46.trans e7)⟩, sh, hz, fun H8 e8 => ?_⟩
  walk_at "rd"
  refine r_eq rfl ?_
  refine ⟨_, rfl, ite_t (by simp) ?_⟩
  walk_at "rd"
  have hb8 := (hb.ex e7).ex e8
  have ha8 := ((ha.ex e46).ex e7).ex e8
  obtain ⟨dxb, fsb, hinsb⟩ := hb8.inst
  obtain ⟨dxa, fsa, hinsa⟩ := ha8.inst
  refine ⟨_, _, _, _, true, rfl, .own _, ty_own T (by decide) hinsb, T.cc_Vectors.me, ?_⟩
  refine ⟨_, rfl, ite_t rfl ?_⟩
  walk_at "rd"
  refine r_VEq T hb8 ha8 ?_
  refine ⟨_, rfl, ite_t (by simp) ?_⟩
  refine r_fr T hb8 (fun t1 ts1 h1 g1 => ?_)
  refine r_fr T ha8 (fun t2 ts2 h2 g2 => ?_)
  refine r_eqRows h1 g1 h2 g2 ?_
  have := k H8 ((e46.trans e7).trans e8)
  simpa using this

end K31
namespace K31
open PySem PySem.Spec PyProof.Rows L2 GS TL
local macro_rules | `(tactic| walk_at "rd") => `(tactic| (repeat (first
  | with_reducible refine r_next ?_
  | with_reducible refine r_seq ?_
  | with_reducible refine r_ret ?_
  | with_reducible refine r_ifS ?_
  | with_reducible refine r_asg ?_
  | with_reducible refine r_drop ?_
  | with_reducible refine r_op ?_
  | with_reducible refine r_un ?_
  | with_reducible refine r_cbInt ?_
  | with_reducible refine r_cbAbs ?_
  | with_reducible refine r_cbLen ?_
  | with_reducible refine r_cbList ?_
  | with_reducible refine r_cbTup ?_
  | with_reducible refine r_iEnT ?_
  | with_reducible refine r_iEnL ?_
  | with_reducible refine r_zipA ?_
  | with_reducible refine r_zipX ?_
  | with_reducible refine r_augS ?_
  | with_reducible refine r_cb ?_
  | with_reducible refine r_call ?_
  | with_reducible refine r_make ?_
  | with_reducible refine r_callN0 ?_
  | with_reducible refine r_makeK0 ?_
  | with_reducible refine r_makeS ?_
  | with_reducible refine r_callS ?_
  | with_reducible refine r_cons ?_
  | with_reducible refine r_nil ?_
  | with_reducible refine r_test ?_
  | with_reducible refine r_B ?_
  | with_reducible refine r_and ?_
  | with_reducible refine r_or ?_
  | with_reducible refine r_not ?_
  | with_reducible refine r_andV ?_
  | with_reducible refine r_orV ?_
  | with_reducible refine r_notV ?_
  | with_reducible refine r_if ?_
  | with_reducible refine r_tup ?_
  | with_reducible refine r_lst ?_
  | with_reducible refine r_c ?_
  | with_reducible refine r_lc ?_
  | with_reducible refine r_chain ?_
  | with_reducible refine r_iT ?_
  | with_reducible refine r_iL ?_
  | with_reducible refine r_iR1 ?_
  | with_reducible refine r_iR2 ?_
  | with_reducible refine r_iR3 ?_
  | with_reducible refine r_asgG ?_
  | with_reducible refine r_gSub ?_
  | with_reducible refine r_for ?_
  | with_reducible refine r_smeth ?_
  | with_reducible refine r_par ?_
  | with_reducible refine r_parK ?_
  | with_reducible refine r_gCons ?_
  | with_reducible refine r_gNil ?_
  | with_reducible refine r_gName ?_
  | with_reducible refine r_intI ?_
  | with_reducible refine r_intB ?_
  | with_reducible refine r_absI ?_
  | with_reducible refine r_k ?_
  | with_reducible refine r_kV ?_
  | ((with_reducible show tVar _ _ _ _); refine r_var3 ?_ (by rfl))
  | with_reducible refine r_I0 ?_
  | with_reducible refine r_U ?_
  | with_reducible refine r_eqI ?_
  | with_reducible refine r_neI ?_
  | with_reducible refine r_F ?_
  | dsimp only)))
local macro_rules | `(tactic| walk_at "rx") => `(tactic| (repeat (first
  | with_reducible refine r_next ?_
  | with_reducible refine r_ret ?_
  | with_reducible refine r_ifS ?_
  | with_reducible refine r_asg ?_
  | with_reducible refine r_drop ?_
  | with_reducible refine r_op ?_
  | with_reducible refine r_un ?_
  | with_reducible refine r_cbInt ?_
  | with_reducible refine r_cbAbs ?_
  | with_reducible refine r_cbLen ?_
  | with_reducible refine r_cbList ?_
  | with_reducible refine r_cbTup ?_
  | with_reducible refine r_iEnT ?_
  | with_reducible refine r_iEnL ?_
  | with_reducible refine r_zipA ?_
  | with_reducible refine r_zipX ?_
  | with_reducible refine r_augS ?_
  | with_reducible refine r_cb ?_
  | with_reducible refine r_call ?_
  | with_reducible refine r_make ?_
  | with_reducible refine r_callN0 ?_
  | with_reducible refine r_makeK0 ?_
  | with_reducible refine r_makeS ?_
  | with_reducible refine r_callS ?_
  | with_reducible refine r_cons ?_
  | with_reducible refine r_nil ?_
  | with_reducible refine r_test ?_
  | with_reducible refine r_B ?_
  | with_reducible refine r_and ?_
  | with_reducible refine r_or ?_
  | with_reducible refine r_not ?_
  | with_reducible refine r_andV ?_
  | with_reducible refine r_orV ?_
  | with_reducible refine r_notV ?_
  | with_reducible refine r_if ?_
  | with_reducible refine r_tup ?_
  | with_reducible refine r_lst ?_
  | with_reducible refine r_c ?_
  | with_reducible refine r_lc ?_
  | with_reducible refine r_chain ?_
  | with_reducible refine r_iT ?_
  | with_reducible refine r_iL ?_
  | with_reducible refine r_iR1 ?_
  | with_reducible refine r_iR2 ?_
  | with_reducible refine r_iR3 ?_
  | with_reducible refine r_asgG ?_
  | with_reducible refine r_gSub ?_
  | with_reducible refine r_for ?_
  | with_reducible refine r_smeth ?_
  | with_reducible refine r_par ?_
  | with_reducible refine r_parK ?_
  | with_reducible refine r_gCons ?_
  | with_reducible refine r_gNil ?_
  | with_reducible refine r_gName ?_
  | with_reducible refine r_intI ?_
  | with_reducible refine r_intB ?_
  | with_reducible refine r_absI ?_
  | with_reducible refine r_k ?_
  | with_reducible refine r_kV ?_
  | ((with_reducible show tVar _ _ _ _); refine r_var3 ?_ (by rfl))
  | with_reducible refine r_I0 ?_
  | with_reducible refine r_U ?_
  | with_reducible refine r_eqI ?_
  | with_reducible refine r_neI ?_
  | with_reducible refine r_F ?_
  | dsimp only)))
/-! ### bent texts -/
theorem r_cat {H : Hp} {Q : VK} {l b : Addr} {xs zs : List V} (h1 : H l = some (.lst xs)) (h2 : H b = some (.lst zs)) (hz : xs.length + zs.length ≤ 50000) (q : ∀ p H', H p = none → Ex H H' → H' p = some (.lst (xs ++ zs)) → Q (.ref p) H') : rCat (.ref l) (.ref b) H Q :=
  ⟨l, b, xs, zs, rfl, rfl, h1, h2, sz_le (by omega), fun p hp => q p _ hp (Ex.new hp) upd_same⟩
theorem r_sl {K : PySem.W.Frag} {H : Hp} {Q : VK} {L : Addr} {xs zs : List V} {lo hi : Option Int} (h : H L = some (.lst xs)) (e : cutV xs lo hi = zs) (q : ∀ p H', H p = none → Ex H H' → H' p = some (.lst zs) → Q (.ref p) H') : rSlL K (.ref L) lo hi H Q :=
  ⟨L, xs, rfl, SqL.of h, fun p hp => q p _ hp (Ex.new hp) (by rw [upd_same, e])⟩
theorem cut_T (ys : List Str) (k : Nat) : cutV (ys.map V.str) none (some (k : Int)) = (ys.take k).map V.str := by
  unfold cutV
  rw [HT.sIx_none, HT.sIx_nat, List.drop_zero, List.length_map, Nat.sub_zero, List.map_take]
  by_cases c : k ≤ ys.length
  · rw [Nat.min_eq_left c]
  · rw [Nat.min_eq_right (by omega), List.take_of_length_le (by simp), List.take_of_length_le (by simp; omega)]
theorem cut_D (ys : List Str) (k : Nat) (h : k ≤ ys.length) : cutV (ys.map V.str) (some (k : Int)) none = (ys.drop k).map V.str := by
  unfold cutV
  rw [HT.sIx_none, HT.sIx_nat, List.length_map, Nat.min_eq_left h, List.take_of_length_le (by simp), List.map_drop]
def oddS : List Str := [Str.ofString "", Str.ofString "x", Str.ofString "01", Str.ofString "-0", Str.ofString "+1", Str.ofString "--1", Str.ofString "-", Str.ofString "1.0", Str.ofString ":", Str.ofString "0", Str.ofString "-7", Str.ofString "4", Str.ofString "1", Str.ofString "2", Str.ofString "3", Txt.mul (Str.ofString "9") 60, Txt.mul (Str.ofString "9") 61, Str.ofString "-" ++ Txt.mul (Str.ofString "8") 61]
theorem oddS_ok : ∀ y ∈ oddS, ∃ o, OkI y o := by
  have n : ∀ y ∈ [Str.ofString "", Str.ofString "x", Str.ofString "01", Str.ofString "-0", Str.ofString "+1", Str.ofString "--1", Str.ofString "-", Str.ofString "1.0", Str.ofString ":", Txt.mul (Str.ofString "9") 61, Str.ofString "-" ++ Txt.mul (Str.ofString "8") 61], (y.length ≤ 100 ∧ ∀ c ∈ tl y, c < 1114112) ∧ 32 ∉ tl y ∧ ntB y = false := by decide +kernel
  have i : ∀ y ∈ [((0 : Int), Str.ofString "0"), (-7, Str.ofString "-7"), (4, Str.ofString "4"), (1, Str.ofString "1"), (2, Str.ofString "2"), (3, Str.ofString "3"), (999999999999999999999999999999999999999999999999999999999999, Txt.mul (Str.ofString "9") 60)], y.2 = nS y.1 ∧ y.1.natAbs < 10 ^ 60 := by decide +kernel
  have oi : ∀ (c : Int) (y : Str), y = nS c ∧ c.natAbs < 10 ^ 60 → ∃ o, OkI y o := fun c y h => ⟨some c, by rw [h.1]; exact okI_nS h.2⟩
  intro y hy
  simp only [oddS, List.mem_cons, List.not_mem_nil, or_false] at hy
  rcases hy with rfl | rfl | rfl | rfl | rfl | rfl | rfl | rfl | rfl | rfl | rfl | rfl | rfl | rfl | rfl | rfl | rfl | rfl
  · exact ⟨none, okI_no (n _ (by repeat (first | exact List.mem_cons_self | apply List.mem_cons_of_mem)))⟩
  · exact ⟨none, okI_no (n _ (by repeat (first | exact List.mem_cons_self | apply List.mem_cons_of_mem)))⟩
  · exact ⟨none, okI_no (n _ (by repeat (first | exact List.mem_cons_self | apply List.mem_cons_of_mem)))⟩
  · exact ⟨none, okI_no (n _ (by repeat (first | exact List.mem_cons_self | apply List.mem_cons_of_mem)))⟩
  · exact ⟨none, okI_no (n _ (by repeat (first | exact List.mem_cons_self | apply List.mem_cons_of_mem)))⟩
  · exact ⟨none, okI_no (n _ (by repeat (first | exact List.mem_cons_self | apply List.mem_cons_of_mem)))⟩
  · exact ⟨none, okI_no (n _ (by repeat (first | exact List.mem_cons_self | apply List.mem_cons_of_mem)))⟩
  · exact ⟨none, okI_no (n _ (by repeat (first | exact List.mem_cons_self | apply List.mem_cons_of_mem)))⟩
  · exact ⟨none, okI_no (n _ (by repeat (first | exact List.mem_cons_self | apply List.mem_cons_of_mem)))⟩
  · exact oi 0 _ (i (0, _) (by repeat (first | exact List.mem_cons_self | apply List.mem_cons_of_mem)))
  · exact oi (-7) _ (i (-7, _) (by repeat (first | exact List.mem_cons_self | apply List.mem_cons_of_mem)))
  · exact oi 4 _ (i (4, _) (by repeat (first | exact List.mem_cons_self | apply List.mem_cons_of_mem)))
  · exact oi 1 _ (i (1, _) (by repeat (first | exact List.mem_cons_self | apply List.mem_cons_of_mem)))
  · exact oi 2 _ (i (2, _) (by repeat (first | exact List.mem_cons_self | apply List.mem_cons_of_mem)))
  · exact oi 3 _ (i (3, _) (by repeat (first | exact List.mem_cons_self | apply List.mem_cons_of_mem)))
  · exact oi _ _ (i (999999999999999999999999999999999999999999999999999999999999, _) (by repeat (first | exact List.mem_cons_self | apply List.mem_cons_of_mem)))
  · exact ⟨none, okI_no (n _ (by repeat (first | exact List.mem_cons_self | apply List.mem_cons_of_mem)))⟩
  · exact ⟨none, okI_no (n _ (by repeat (first | exact List.mem_cons_self | apply List.mem_cons_of_mem)))⟩
def AllI (ys : List Str) : Prop := ∀ y ∈ ys, ∃ o, OkI y o
def spBent : Sp := sp2 fun b l H Q _ => ∃ (p : Addr) (n : Int) (L : Addr) (ys : List Str), b = .ref p ∧ l = .ref L ∧ H L = some (.lst (ys.map V.str)) ∧ L ≠ p ∧ ys ≠ [] ∧ ys.length ≤ 50 ∧ AllI ys ∧ n ≤ 90000 ∧ Bag H p n ∧
  ∀ q zs H', Bg p H H' → Bag H' p (n + 3) → H q = none → H' q = some (.lst (zs.map V.str)) → zs ≠ [] → zs.length ≤ ys.length + 1 → AllI zs → Q (.ref q) H'
theorem ok__law_bent {P : Program} {w : World} {K : PySem.W.Frag} {mg : Str → Option Value} {base : Heap} (T : Txt K mg) : ∃ fd, FnOk P w K mg base (L2.CX P w) 3 (He.ga K "_law_bent") fd ["loom", "items"] (spBent) ∧ Binds K fd ["loom", "items"] [] := by
  obtain ⟨fd, F⟩ := T.d__law_bent
  obtain ⟨fd__law_thread, F__law_thread, B__law_thread⟩ := ok__law_thread (P := P) (w := w) (base := base) T
  obtain ⟨fd__law_weft, F__law_weft, B__law_weft⟩ := ok__law_weft (P := P) (w := w) (base := base) T
  refine ⟨fd, F.ok sc__law_bent sp2_len (fun cdv A outer s H vs Q E hr h => ?_), F.bindsN fun _ _ _ _ _ _ us hl => match us, hl with | [_, _], _ => rfl⟩
  have hr__law_thread : Room 2 _ := hr.mono (by decide)
  have hr__law_weft : Room 1 _ := hr.mono (by decide)
  obtain ⟨b0, l0, rfl, p, n, L, ys, rfl, rfl, hL, hLp, hne, hlen, hall, hn, hb, k⟩ := sp2_is h
  refine ⟨_, (pss_cons (ps_par (i := 2) (j := 3) (by rfl) sc__law_bent.nd rfl rfl (by decide) rfl rfl (pa_cons (pe_call F__law_weft hr__law_weft (by rfl) T.g__law_weft T.k__law_weft B__law_weft .nil passL (pa_cons (pv 0) (pa_cons (pe_callB (kx_lens rfl) (by rfl) T.b_len PySem.boot_len (pa_cons (pv 1) pa_nil)) pa_nil))) (pa_cons (pe_call F__law_weft hr__law_weft (by rfl) T.g__law_weft T.k__law_weft B__law_weft .nil passL (pa_cons (pv 0) (pa_cons pe_int pa_nil))) pa_nil)) (by rfl))
      (pss_cons (ps_set (i := 4) sc__law_bent.nd rfl (Or.inl rfl) (pe_call F__law_thread hr__law_thread (by rfl) T.g__law_thread T.k__law_thread B__law_thread .nil passL (pa_cons (pv 0) (pa_cons (pe_lst (pa_cons pe_str (pa_cons pe_str (pa_cons pe_str (pa_cons pe_str (pa_cons pe_str (pa_cons pe_str (pa_cons pe_str (pa_cons pe_str (pa_cons pe_str (pa_cons pe_str (pa_cons pe_str (pa_cons pe_str (pa_cons pe_str (pa_cons pe_str (pa_cons pe_str (pa_cons (pe_op op_mulS pe_str pe_int) (pa_cons (pe_op op_mulS pe_str pe_int) (pa_cons (pe_op op_add_str pe_str (pe_op op_mulS pe_str pe_int)) pa_nil))))))))))))))))))) pa_nil))))
      (pss_cons (ps_if (pt_cmpR op_eq (pv 3) pe_int (nomark _)) (pss_one (ps_ret (pe_ifExp (pt_cmpR op_gt (pe_callB (kx_lens rfl) (by rfl) T.b_len PySem.boot_len (pa_cons (pv 1) pa_nil)) pe_int (nomark _)) (pe_op op_cat (pe_slice sl_list (pv 1) po_none (po_some (pv 2))) (pe_slice sl_list (pv 1) (po_some (pe_op op_add (pv 2) pe_int)) po_none)) (pe_lst (pa_cons (pv 4) pa_nil))))) pss_nil)
      (pss_cons (ps_if (pt_cmpR op_eq (pv 3) pe_int (nomark _)) (pss_one (ps_ret (pe_op op_cat (pe_op op_cat (pe_slice sl_list (pv 1) po_none (po_some (pv 2))) (pe_lst (pa_cons (pv 4) pa_nil))) (pe_slice sl_list (pv 1) (po_some (pv 2)) po_none)))) pss_nil)
      (pss_cons (ps_if (pt_cmpR op_eq (pv 3) pe_int (nomark _)) (pss_one (ps_ret (pe_op op_cat (pv 1) (pe_lst (pa_cons (pv 4) pa_nil))))) pss_nil)
      (pss_cons (ps_if (pt_cmpR op_eq (pv 3) pe_int (nomark _)) (pss_one (ps_ret (pe_slice sl_list (pv 1) po_none (po_some (pe_op op_add (pv 2) pe_int))))) pss_nil)
      (pss_one (ps_ret (pe_op op_cat (pe_op op_cat (pe_slice sl_list (pv 1) po_none (po_some (pv 2))) (pe_lst (pa_cons (pv 4) pa_nil))) (pe_slice sl_list (pv 1) (po_some (pe_op op_add (pv 2) pe_int)) po_none)))))))))), ?_⟩
  have h0 : 0 < ys.length := List.length_pos_iff.mpr hne
  walk_at "rd"
  refine r_lenL hL ?_
  walk_at "rd"
  refine r_DrawG hb (by omega) (by rw [List.length_map]; omega) (zsm (by rw [List.length_map]; omega)) fun r H1 r0 r1 g1 b1 => ?_
  walk_at "rd"
  refine r_DrawG b1 (by omega) (by decide) (zsm (by decide)) fun way H2 w0 w1 g2 b2 => ?_
  walk_at "rd"
  rw [List.length_map] at r1
  obtain ⟨m, rfl⟩ : ∃ m : Nat, r = (m : Int) := ⟨r.toNat, by omega⟩
  have hL2 := (g1.trans g2).at_ hLp hL
  refine ⟨_, 60, rfl, rfl, mulOk_small (by decide) (by decide) (by decide), ?_⟩
  walk_at "rd"
  refine ⟨_, 61, rfl, rfl, mulOk_small (by decide) (by decide) (by decide), ?_⟩
  walk_at "rd"
  refine ⟨_, 61, rfl, rfl, mulOk_small (by decide) (by decide) (by decide), ?_⟩
  walk_at "rd"
  refine ⟨_, _, rfl, rfl, (by decide +kernel), ?_⟩
  walk_at "rd"
  refine r_newL (sz_le (by simp)) fun t0 H3 ht0 e3 h3 => ?_
  walk_at "rd"
  have ho : H3 t0 = some (.lst (oddS.map V.str)) := h3
  clear h3
  refine r_One (H0 := H3) (b2.ex e3) ho (fun _ _ _ z => by simp [oddS] at z) (by simp [oddS]) (by decide) (by omega) fun v H4 hv g4 b4 => ?_
  obtain ⟨odd, hodd, rfl⟩ := List.mem_map.mp hv
  have hoI := oddS_ok odd hodd
  have hL4 := g4.at_ hLp (e3 _ _ hL2)
  have g14 : Bg p H H4 := ((g1.trans g2).trans (Bg.of e3)).trans g4
  have b14 : Bag H4 p (n + 3) := b4.le (by omega)
  clear g1 b1 g2 b2 ht0 e3 ho hv g4 b4 hL2
  walk_at "rd"
  have hm : m < ys.length := by omega
  have fin : ∀ {H5 : Hp} {q : Addr} (zs : List Str), Ex H4 H5 → H4 q = none → H5 q = some (.lst (zs.map V.str)) → zs ≠ [] → zs.length ≤ ys.length + 1 → AllI zs → Q (.ref q) H5 := fun zs e hq h1 h2 h3 h4 => k _ zs _ (g14.trans (Bg.of e)) (b14.ex e) (Bg.free g14 hb hq) h1 h2 h3 h4
  have aT : ∀ j, AllI (ys.take j) := fun j y hy => hall y (List.mem_of_mem_take hy)
  have aD : ∀ j, AllI (ys.drop j) := fun j y hy => hall y (List.mem_of_mem_drop hy)
  have aA : ∀ {as bs : List Str}, AllI as → AllI bs → AllI (as ++ bs) := fun h1 h2 y hy => (List.mem_append.mp hy).elim (h1 y) (h2 y)
  have aO : AllI [odd] := fun y hy => by rw [List.mem_singleton.mp hy]; exact hoI
  have em : ((m : Int) + 1) = ((m + 1 : Nat) : Int) := by push_cast; rfl
  have lenY : ((ys.map V.str).length : Int) = ys.length := by rw [List.length_map]
  by_cases c0 : way = 0
  · refine ite_t (decide_eq_true c0) ?_
    walk_at "rd"
    refine r_lenL hL4 ?_
    rw [lenY]
    walk_at "rd"
    by_cases c1 : 1 < ys.length
    · refine ite_t (decide_eq_true (by omega)) ?_
      walk_at "rd"
      refine ⟨_, rfl, _, rfl, _, rfl, r_sl hL4 (cut_T ys m) fun q5 H5 hq5 e5 h5 => ?_⟩
      refine ⟨_, rfl, _, rfl, _, _, rfl, rfl, _, rfl, ?_⟩
      refine ⟨L, _, rfl, SqL.of (e5 _ _ hL4), fun q6 hq6 => ?_⟩
      rw [em, cut_D ys (m + 1) (by omega)]
      have e6 : Ex H5 (upd H5 q6 (.lst ((ys.drop (m + 1)).map V.str))) := Ex.new hq6
      have h6 : (upd H5 q6 (.lst ((ys.drop (m + 1)).map V.str))) q6 = some (.lst ((ys.drop (m + 1)).map V.str)) := upd_same
      generalize upd H5 q6 (.lst ((ys.drop (m + 1)).map V.str)) = H6 at e6 h6 ⊢
      refine r_cat (e6 _ _ h5) h6 (by simp; omega) fun q7 H7 hq7 e7 h7 => ?_
      refine fin (ys.take m ++ ys.drop (m + 1)) ((e5.trans e6).trans e7) ((e5.trans e6).free hq7) (by rw [h7, List.map_append]) (fun z => ?_) (by simp; omega) (aA (aT _) (aD _))
      have := congrArg List.length z
      rw [List.length_append, List.length_take, List.length_drop, List.length_nil] at this
      omega
    · refine ite_f (decide_eq_false (by omega)) ?_
      walk_at "rd"
      exact r_newL (sz_le (by simp)) fun q5 H5 hq5 e5 h5 => fin [odd] e5 hq5 h5 (by simp) (by simp) aO
  · refine ite_f (decide_eq_false c0) ?_
    walk_at "rd"
    by_cases c1 : way = 1
    · refine ite_t (decide_eq_true c1) ?_
      walk_at "rd"
      refine ⟨_, rfl, _, rfl, _, rfl, r_sl hL4 (cut_T ys m) fun q5 H5 hq5 e5 h5 => ?_⟩
      walk_at "rd"
      refine r_newL (sz_le (by simp)) fun q6 H6 hq6 e6 h6 => ?_
      refine r_cat (e6 _ _ h5) h6 (by simp; omega) fun q7 H7 hq7 e7 h7 => ?_
      refine ⟨_, rfl, _, rfl, _, rfl, ?_⟩
      refine ⟨L, _, rfl, SqL.of (((e5.trans e6).trans e7) _ _ hL4), fun q8 hq8 => ?_⟩
      rw [cut_D ys m (by omega)]
      have e8 : Ex H7 (upd H7 q8 (.lst ((ys.drop m).map V.str))) := Ex.new hq8
      have h8 : (upd H7 q8 (.lst ((ys.drop m).map V.str))) q8 = some (.lst ((ys.drop m).map V.str)) := upd_same
      generalize upd H7 q8 (.lst ((ys.drop m).map V.str)) = H8 at e8 h8 ⊢
      refine r_cat (e8 _ _ h7) h8 (by simp; omega) fun q9 H9 hq9 e9 h9 => ?_
      refine fin (ys.take m ++ [odd] ++ ys.drop m) ((((e5.trans e6).trans e7).trans e8).trans e9) ((((e5.trans e6).trans e7).trans e8).free hq9) (by rw [h9, List.map_append, List.map_append]; rfl) (by simp) (by simp; omega) (aA (aA (aT _) aO) (aD _))
    · refine ite_f (decide_eq_false c1) ?_
      walk_at "rd"
      by_cases c2 : way = 2
      · refine ite_t (decide_eq_true c2) ?_
        walk_at "rd"
        refine r_newL (sz_le (by simp)) fun q6 H6 hq6 e6 h6 => ?_
        refine r_cat (e6 _ _ hL4) h6 (by simp; omega) fun q7 H7 hq7 e7 h7 => ?_
        exact fin (ys ++ [odd]) (e6.trans e7) (e6.free hq7) (by rw [h7, List.map_append]; rfl) (by simp) (by simp) (aA hall aO)
      · refine ite_f (decide_eq_false c2) ?_
        walk_at "rd"
        by_cases c3 : way = 3
        · refine ite_t (decide_eq_true c3) ?_
          walk_at "rd"
          refine ⟨_, rfl, _, rfl, _, _, rfl, rfl, _, rfl, r_sl (zs := (ys.take (m + 1)).map V.str) hL4 (by rw [em]; exact cut_T ys (m + 1)) fun q5 H5 hq5 e5 h5 => ?_⟩
          refine fin (ys.take (m + 1)) e5 hq5 h5 (fun z => ?_) (by simp; omega) (aT _)
          have := congrArg List.length z
          rw [List.length_take, List.length_nil] at this
          omega
        · refine ite_f (decide_eq_false c3) ?_
          walk_at "rd"
          refine ⟨_, rfl, _, rfl, _, rfl, r_sl hL4 (cut_T ys m) fun q5 H5 hq5 e5 h5 => ?_⟩
          walk_at "rd"
          refine r_newL (sz_le (by simp)) fun q6 H6 hq6 e6 h6 => ?_
          refine r_cat (e6 _ _ h5) h6 (by simp; omega) fun q7 H7 hq7 e7 h7 => ?_
          refine ⟨_, rfl, _, rfl, _, _, rfl, rfl, _, rfl, ?_⟩
          refine ⟨L, _, rfl, SqL.of (((e5.trans e6).trans e7) _ _ hL4), fun q8 hq8 => ?_⟩
          rw [em, cut_D ys (m + 1) (by omega)]
          have e8 : Ex H7 (upd H7 q8 (.lst ((ys.drop (m + 1)).map V.str))) := Ex.new hq8
          have h8 : (upd H7 q8 (.lst ((ys.drop (m + 1)).map V.str))) q8 = some (.lst ((ys.drop (m + 1)).map V.str)) := upd_same
          generalize upd H7 q8 (.lst ((ys.drop (m + 1)).map V.str)) = H8 at e8 h8 ⊢
          refine r_cat (e8 _ _ h7) h8 (by simp; omega) fun q9 H9 hq9 e9 h9 => ?_
          refine fin (ys.take m ++ [odd] ++ ys.drop (m + 1)) ((((e5.trans e6).trans e7).trans e8).trans e9) ((((e5.trans e6).trans e7).trans e8).free hq9) (by rw [h9, List.map_append, List.map_append]; rfl) (by simp) (by simp; omega) (aA (aA (aT _) aO) (aD _))

end K31
namespace K31
open PySem PySem.Spec PyProof.Rows L2 GS TL
local macro_rules | `(tactic| walk_at "rd") => `(tactic| (repeat (first
  | with_reducible refine r_next ?_
  | with_reducible refine r_seq ?_
  | with_reducible refine r_ret ?_
  | with_reducible refine r_ifS ?_
  | with_reducible refine r_asg ?_
  | with_reducible refine r_drop ?_
  | with_reducible refine r_op ?_
  | with_reducible refine r_un ?_
  | with_reducible refine r_cbInt ?_
  | with_reducible refine r_cbAbs ?_
  | with_reducible refine r_cbLen ?_
  | with_reducible refine r_cbList ?_
  | with_reducible refine r_cbTup ?_
  | with_reducible refine r_iEnT ?_
  | with_reducible refine r_iEnL ?_
  | with_reducible refine r_zipA ?_
  | with_reducible refine r_zipX ?_
  | with_reducible refine r_augS ?_
  | with_reducible refine r_cb ?_
  | with_reducible refine r_call ?_
  | with_reducible refine r_make ?_
  | with_reducible refine r_callN0 ?_
  | with_reducible refine r_makeK0 ?_
  | with_reducible refine r_makeS ?_
  | with_reducible refine r_callS ?_
  | with_reducible refine r_cons ?_
  | with_reducible refine r_nil ?_
  | with_reducible refine r_test ?_
  | with_reducible refine r_B ?_
  | with_reducible refine r_and ?_
  | with_reducible refine r_or ?_
  | with_reducible refine r_not ?_
  | with_reducible refine r_andV ?_
  | with_reducible refine r_orV ?_
  | with_reducible refine r_notV ?_
  | with_reducible refine r_if ?_
  | with_reducible refine r_tup ?_
  | with_reducible refine r_lst ?_
  | with_reducible refine r_c ?_
  | with_reducible refine r_lc ?_
  | with_reducible refine r_chain ?_
  | with_reducible refine r_iT ?_
  | with_reducible refine r_iL ?_
  | with_reducible refine r_iR1 ?_
  | with_reducible refine r_iR2 ?_
  | with_reducible refine r_iR3 ?_
  | with_reducible refine r_asgG ?_
  | with_reducible refine r_gSub ?_
  | with_reducible refine r_for ?_
  | with_reducible refine r_smeth ?_
  | with_reducible refine r_par ?_
  | with_reducible refine r_parK ?_
  | with_reducible refine r_gCons ?_
  | with_reducible refine r_gNil ?_
  | with_reducible refine r_gName ?_
  | with_reducible refine r_intI ?_
  | with_reducible refine r_intB ?_
  | with_reducible refine r_absI ?_
  | with_reducible refine r_k ?_
  | with_reducible refine r_kV ?_
  | ((with_reducible show tVar _ _ _ _); refine r_var3 ?_ (by rfl))
  | with_reducible refine r_I0 ?_
  | with_reducible refine r_U ?_
  | with_reducible refine r_eqI ?_
  | with_reducible refine r_neI ?_
  | with_reducible refine r_F ?_
  | dsimp only)))
local macro_rules | `(tactic| walk_at "rx") => `(tactic| (repeat (first
  | with_reducible refine r_next ?_
  | with_reducible refine r_ret ?_
  | with_reducible refine r_ifS ?_
  | with_reducible refine r_asg ?_
  | with_reducible refine r_drop ?_
  | with_reducible refine r_op ?_
  | with_reducible refine r_un ?_
  | with_reducible refine r_cbInt ?_
  | with_reducible refine r_cbAbs ?_
  | with_reducible refine r_cbLen ?_
  | with_reducible refine r_cbList ?_
  | with_reducible refine r_cbTup ?_
  | with_reducible refine r_iEnT ?_
  | with_reducible refine r_iEnL ?_
  | with_reducible refine r_zipA ?_
  | with_reducible refine r_zipX ?_
  | with_reducible refine r_augS ?_
  | with_reducible refine r_cb ?_
  | with_reducible refine r_call ?_
  | with_reducible refine r_make ?_
  | with_reducible refine r_callN0 ?_
  | with_reducible refine r_makeK0 ?_
  | with_reducible refine r_makeS ?_
  | with_reducible refine r_callS ?_
  | with_reducible refine r_cons ?_
  | with_reducible refine r_nil ?_
  | with_reducible refine r_test ?_
  | with_reducible refine r_B ?_
  | with_reducible refine r_and ?_
  | with_reducible refine r_or ?_
  | with_reducible refine r_not ?_
  | with_reducible refine r_andV ?_
  | with_reducible refine r_orV ?_
  | with_reducible refine r_notV ?_
  | with_reducible refine r_if ?_
  | with_reducible refine r_tup ?_
  | with_reducible refine r_lst ?_
  | with_reducible refine r_c ?_
  | with_reducible refine r_lc ?_
  | with_reducible refine r_chain ?_
  | with_reducible refine r_iT ?_
  | with_reducible refine r_iL ?_
  | with_reducible refine r_iR1 ?_
  | with_reducible refine r_iR2 ?_
  | with_reducible refine r_iR3 ?_
  | with_reducible refine r_asgG ?_
  | with_reducible refine r_gSub ?_
  | with_reducible refine r_for ?_
  | with_reducible refine r_smeth ?_
  | with_reducible refine r_par ?_
  | with_reducible refine r_parK ?_
  | with_reducible refine r_gCons ?_
  | with_reducible refine r_gNil ?_
  | with_reducible refine r_gName ?_
  | with_reducible refine r_intI ?_
  | with_reducible refine r_intB ?_
  | with_reducible refine r_absI ?_
  | with_reducible refine r_k ?_
  | with_reducible refine r_kV ?_
  | ((with_reducible show tVar _ _ _ _); refine r_var3 ?_ (by rfl))
  | with_reducible refine r_I0 ?_
  | with_reducible refine r_U ?_
  | with_reducible refine r_eqI ?_
  | with_reducible refine r_neI ?_
  | with_reducible refine r_F ?_
  | dsimp only)))
/-! ### rows made, bent -/
theorem r_newLs {H : Hp} {Q : VK} {p : Addr} {xs : List V} {K : PySem.W.Frag} (h : H p = some (.lst xs)) (q : ∀ l H', H l = none → Ex H H' → H' l = some (.lst xs) → Q (.ref l) H') : ∃ p' ys, [V.ref p] = [V.ref p'] ∧ (SqL K H p' ys ∨ SqT K H p' ys) ∧ ∀ l, H l = none → Q (.ref l) (upd H l (.lst ys)) :=
  ⟨p, xs, rfl, .inl (SqL.of h), fun l hl => q l _ hl (Ex.new hl) upd_same⟩
/-- rows laid anew: [list(row) for row in rows] -/
def nwL (H : Hp) (rs : List (List Int)) (Q : VK) : Prop := ∀ q ts H', H q = none → Ex H H' → H' q = some (.lst (ts.map V.ref)) → (q :: ts).Nodup → (∀ t ∈ ts, H t = none) → LA H' ts rs → Q (.ref q) H'
theorem r_copy {K : PySem.W.Frag} {H : Hp} {Q : VK} {p : Addr} {cs : List Addr} {rs : List (List Int)} {k : Nat} {σ : L2.St} (hk : ∀ x : V, ((wipe σ [k]).set k (some x))[k]? = some (some x)) (hw : ∀ x, wipe ((wipe σ [k]).set k (some x)) [k] = wipe σ [k]) (hp : H p = some (.lst (cs.map V.ref))) (hla : LA H cs rs) (hl : rs.length ≤ 50000) (q : nwL H rs Q) :
    lcB (Itl K p) (gName k) tYes (tCB (fun xs H Q => ∃ p ys, xs = [V.ref p] ∧ (SqL K H p ys ∨ SqT K H p ys) ∧ ∀ (l : Addr), H l = none → Q (V.ref l) (upd H l (HO.lst ys))) (tCons (tVar k) tNil)) [k] σ Q H := by
  refine r_lcLs (n := cs.length) (k := k) (by simpa using walk_list (xs := cs.map V.ref)) (fun i => (rs.getD i []).map V.int) (by rw [hla.1]; exact hl) (fun H' e => SqL.of (e _ _ hp)) hw ?_ ?_
  · rintro i y H2 H3 hi e2 ⟨rfl, hy⟩
    obtain ⟨t, ht, rfl⟩ := ref_at hy
    obtain ⟨r, hr, hrow⟩ := (hla.ex e2).at ht
    refine ⟨Ex.refl _, fun R kR => ⟨_, hk _, t, _, rfl, .inl (SqL.of hrow), fun l hl => kR l _ (Ex.new hl) hl ?_⟩⟩
    rw [upd_same, List.getD_eq_getElem?_getD, hr]
    rfl
  · intro q8 ts H8 hq8 e8 h8 hlen hnd hnew hrow
    refine q q8 ts H8 hq8 e8 h8 hnd hnew ⟨by rw [hlen, hla.1], fun j t r ht hr => ?_⟩
    rw [hrow j t ht, List.getD_eq_getElem?_getD, hr]
    rfl
/-- a row bent in rows -/
def setR (rs : List (List Int)) (i j : Nat) (c : Int) : List (List Int) := rs.set i ((rs.getD i []).set j c)
theorem setR_sh {rs : List (List Int)} {i j : Nat} {c : Int} (sh : GV.shR rs) : GV.shR (setR rs i j c) ∧ GV.wid (setR rs i j c) = GV.wid rs := by
  have hl : ∀ r ∈ setR rs i j c, r.length = GV.wid rs := fun r hr => by
    obtain ⟨m, hm⟩ := List.getElem?_of_mem hr
    unfold setR at hm
    rw [List.getElem?_set] at hm
    split at hm
    · split at hm
      · cases hm
        rename_i e hlt
        have hlt' : i < rs.length := by omega
        rw [List.length_set, List.getD_eq_getElem?_getD, List.getElem?_eq_getElem hlt']
        exact sh.2.2.2.2 _ (List.getElem_mem hlt')
      · cases hm
    · exact sh.2.2.2.2 r (List.mem_of_getElem? hm)
  have ll : (setR rs i j c).length = rs.length := by simp [setR]
  have hw : GV.wid (setR rs i j c) = GV.wid rs := by
    cases q : setR rs i j c with
    | nil => rw [q] at ll; have := sh.1; simp at ll; omega
    | cons r qs => exact hl r (by rw [q]; exact List.mem_cons_self)
  exact ⟨⟨by rw [ll]; exact sh.1, by rw [ll]; exact sh.2.1, by rw [hw]; exact sh.2.2.1, by rw [hw]; exact sh.2.2.2.1, fun r hr => by rw [hw]; exact hl r hr⟩, hw⟩
theorem nd_inj {α : Type} : ∀ {ts : List α}, ts.Nodup → ∀ {i j : Nat} {t : α}, ts[i]? = some t → ts[j]? = some t → i = j
  | [], _, i, j, t, h, _ => by simp at h
  | x :: ts, nd, 0, 0, t, _, _ => rfl
  | x :: ts, nd, 0, j + 1, t, h1, h2 => by
    cases h1
    exact absurd (List.mem_of_getElem? (by simpa using h2)) (List.nodup_cons.mp nd).1
  | x :: ts, nd, i + 1, 0, t, h1, h2 => by
    cases h2
    exact absurd (List.mem_of_getElem? (by simpa using h1)) (List.nodup_cons.mp nd).1
  | x :: ts, nd, i + 1, j + 1, t, h1, h2 => congrArg (· + 1) (nd_inj (List.nodup_cons.mp nd).2 (by simpa using h1) (by simpa using h2))
theorem la_setR {H : Hp} {ts : List Addr} {rs : List (List Int)} (h : LA H ts rs) (nd : ts.Nodup) {i j : Nat} {t : Addr} {c : Int} (ht : ts[i]? = some t) : LA (upd H t (.lst (((rs.getD i []).set j c).map V.int))) ts (K31.setR rs i j c) := by
  refine ⟨by rw [h.1]; simp [K31.setR], fun m u r hu hr => ?_⟩
  unfold K31.setR at hr
  rw [List.getElem?_set] at hr
  by_cases e : i = m
  · subst e
    rw [ht] at hu
    cases hu
    have hlt : i < rs.length := by rw [← h.1]; exact (List.getElem?_eq_some_iff.mp ht).1
    rw [if_pos rfl, if_pos hlt] at hr
    cases hr
    exact upd_same
  · rw [if_neg e] at hr
    have ne : u ≠ t := by
      rintro rfl
      exact e (nd_inj nd ht hu)
    rw [upd_ne ne]
    exact h.2 m u r hu hr
theorem ixn {k n : Nat} (h : k < n) : ixN n (k : Int) = some k := by
  unfold ixN
  simp
  omega
theorem TRw.rits {K : PySem.W.Frag} {H : Hp} {ts : List Addr} {rs : List (List Int)} (h : TRw H ts rs) (sh : GV.shR rs) : RIts K H (ts.map V.ref) (rs.map some) := by
  obtain ⟨hl, hat⟩ := h.at
  refine ⟨by rw [List.length_map, List.length_map, hl], fun j x o hx ho => ?_⟩
  obtain ⟨t, ht, rfl⟩ := ref_at hx
  obtain ⟨r, hr, hrow⟩ := hat j t ht
  rw [List.getElem?_map, hr] at ho
  cases ho
  exact ⟨by rw [sh.2.2.2.2 r (List.mem_of_getElem? hr)]; have := sh.2.2.2.1; omega, t, rfl, .inr hrow⟩
theorem Vec.updL {K : PySem.W.Frag} {H : Hp} {a t : Addr} {xs : List V} {o : HO} {rs : List (List Int)} (h : Vec K H a rs) (ht : H t = some (.lst xs)) : Vec K (upd H t o) a rs := by
  have ne : ∀ b u, H b = some u → (∀ ys, u ≠ .lst ys) → b ≠ t := fun b u hb hu z => by rw [z, ht] at hb; exact hu _ (Option.some.inj hb).symm
  obtain ⟨h1, dx, t2, ts, h2, h3, h4⟩ := h
  refine ⟨h1, dx, t2, ts, ?_, ?_, h4.to fun u xs z => ?_⟩
  · rw [upd_ne (ne _ _ h2 (fun _ z => by cases z))]; exact h2
  · rw [upd_ne (ne _ _ h3 (fun _ z => by cases z))]; exact h3
  · rw [upd_ne (ne _ _ z (fun _ z => by cases z))]; exact z
theorem Ex.updF {H H' : Hp} {t : Addr} {o : HO} (e : Ex H H') (h : H t = none) : Ex H (upd H' t o) := fun b u hb => by
  rw [upd_ne (ne_of_none hb h)]
  exact e b u hb
theorem Vec.bg {K : PySem.W.Frag} {H H' : Hp} {a p : Addr} {n : Int} {rs : List (List Int)} (h : Vec K H a rs) (hb : Bag H p n) (g : Bg p H H') : Vec K H' a rs := by
  obtain ⟨h1, dx, t2, ts, h2, h3, h4⟩ := h
  exact ⟨h1, dx, t2, ts, g.at_ (hb.ne h2 fun _ _ _ z => by cases z) h2, g.at_ (hb.ne h3 fun _ _ _ z => by cases z) h3, h4.to fun u xs z => g.at_ (hb.ne z fun _ _ _ z => by cases z) z⟩
theorem r_VNe {K : PySem.W.Frag} {mg : Str → Option Value} {H : Hp} {Q : VK} {E : XK} {a b : Addr} {rs qs : List (List Int)} (T : Txt K mg) (ha : Vec K H a rs) (hb : Vec K H b qs) (q : Q (.bl (!decide (rs = qs))) H) : rNeOwn K (He.ga K "Vectors") (spVEq K) E (.ref a) (.ref b) H Q := by
  obtain ⟨dx, fs, h1⟩ := ha.inst
  obtain ⟨dx2, fs2, h2⟩ := hb.inst
  exact ⟨a, dx, fs, _, rfl, h1, ty_own T (by decide) h2, T.cc_Vectors.nf, a, rs, rfl, ha, .inl ⟨b, qs, rfl, hb, _, rfl, q⟩⟩
def rzB (B : Int) (rs : List (List Int)) : Prop := ∀ r ∈ rs, ∀ c ∈ r, -B ≤ c ∧ c ≤ B
theorem rzB_set {B : Int} {rs : List (List Int)} (h : rzB B rs) {i j : Nat} {c : Int} (hc : -B ≤ c ∧ c ≤ B) : rzB B (setR rs i j c) := by
  intro r hr d hd
  obtain ⟨m, hm⟩ := List.getElem?_of_mem hr
  unfold setR at hm
  rw [List.getElem?_set] at hm
  split at hm
  · split at hm
    · cases hm
      rcases List.mem_or_eq_of_mem_set hd with hd | rfl
      · rw [List.getD_eq_getElem?_getD] at hd
        cases q : rs[i]? with
        | none => rw [q] at hd; cases hd
        | some r' => rw [q] at hd; exact h r' (List.mem_of_getElem? q) d hd
      · exact hc
    · cases hm
  · exact h r (List.mem_of_getElem? hm) d hd
theorem rzB.rz {rs : List (List Int)} (h : rzB 100000000000000000 rs) : rz rs := fun r hr c hc => by
  have := h r hr c hc
  have e : (10 : Nat) ^ 60 = 1000000000000000000000000000000000000000000000000000000000000 := rfl
  omega
theorem r_Is {K : PySem.W.Frag} {H : Hp} {Q : VK} {E : XK} {a p : Addr} {cs : List Addr} {rs : List (List Int)} (ha : Vec K H a rs) (hp : H p = some (.lst (cs.map V.ref))) (hla : LA H cs rs) (hz : rz rs) (k : ∀ H', Ex H H' → Q (.bl true) H') : spIs K ([.ref a, .ref p] ++ []) H Q E := ⟨a, rs, rfl, ha, ⟨p, cs, rfl, hp, hla⟩, hz, k⟩
/-- two tuples of texts and integers held against another -/
theorem r_neTup {K : PySem.W.Frag} {H : Hp} {Q : VK} {p q : Addr} {xs ys : List V} (ds es : List PyData) (h1 : H p = some (.tup xs)) (h2 : H q = some (.tup ys)) (d1 : DpAll K H xs ds) (d2 : DpAll K H ys es) (s1 : SeqAt.shaped (.tuple ds) = true) (s2 : SeqAt.shaped (.tuple es) = true) (k : Q (.bl (!PyData.eqvAll ds es)) H) : rNeD K (.ref p) (.ref q) H Q := ⟨_, _, .tup (SqT.of h1) d1, .tup (SqT.of h2) d2, s1, s2, k⟩
theorem stop_sh (n : Int) : SeqAt.shaped (.tuple [.str "STOP", .int 0, .int n]) = true := by
  show (PyData.canLayAll0 [.str "STOP", .int 0, .int n] && decide (PyData.depthAll [.str "STOP", .int 0, .int n] + 1 ≤ 64)) = true
  have h1 : PyData.canLayAll0 [.str "STOP", .int 0, .int n] = true := by
    have : PyData.strOk "STOP" = true := by decide +kernel
    simp [PyData.canLayAll0, PyData.canLay0, this]
  have h2 : PyData.depthAll [.str "STOP", .int 0, .int n] = 0 := by simp [PyData.depthAll, PyData.depth]
  rw [h1, h2]
  rfl
theorem stop_eq (n : Int) : PyData.eqvAll [.str "STOP", .int 0, .int n] [.str "STOP", .int 0, .int n] = true := by
  simp [PyData.eqvAll, PyData.eqv]
def spRR (K : PySem.W.Frag) : Sp := sp2 fun b u H Q _ => ∃ (p : Addr) (n : Int) (L : Addr) (cs : List Addr) (rs : List (List Int)), b = .ref p ∧ u = .ref L ∧ H L = some (.lst (cs.map V.ref)) ∧ LA H cs rs ∧ GV.okR rs ∧ clZ rs ∧ n ≤ 80000 ∧ Bag H p n ∧ ∀ H', Bg p H H' → Bag H' p (n + 10) → Q (.bl true) H'
theorem ok__law_rows_right {P : Program} {w : World} {K : PySem.W.Frag} {mg : Str → Option Value} {base : Heap} (T : Txt K mg) : ∃ fd, FnOk P w K mg base (L2.CX P w) 8 (He.ga K "_law_rows_right") fd ["loom", "rows"] (spRR K) ∧ Binds K fd ["loom", "rows"] [] := by
  obtain ⟨fd, F⟩ := T.d__law_rows_right
  obtain ⟨fd__law_number, F__law_number, B__law_number⟩ := ok__law_number (P := P) (w := w) (base := base) T
  obtain ⟨fd__law_total, F__law_total, B__law_total⟩ := ok__law_total (P := P) (w := w) (base := base) T
  obtain ⟨fd__law_read, F__law_read, B__law_read⟩ := ok__law_read (P := P) (w := w) (base := base) T
  obtain ⟨fd__law_text, F__law_text, B__law_text⟩ := ok__law_text (P := P) (w := w) (base := base) T
  obtain ⟨fd_Vectors_eq, F_Vectors_eq, B_Vectors_eq⟩ := ok_Vectors_eq (P := P) (w := w) (base := base) T
  obtain ⟨fd__law_is, F__law_is, B__law_is⟩ := ok__law_is (P := P) (w := w) (base := base) T
  obtain ⟨fd__law_made, F__law_made, B__law_made⟩ := ok__law_made (P := P) (w := w) (base := base) T
  obtain ⟨fd__law_weft, F__law_weft, B__law_weft⟩ := ok__law_weft (P := P) (w := w) (base := base) T
  obtain ⟨fd_Vectors_str, F_Vectors_str, B_Vectors_str⟩ := ok_Vectors_str (P := P) (w := w) (base := base) T
  obtain ⟨fd_Vectors_init, F_Vectors_init, B_Vectors_init, kb_Vectors_init_0⟩ := ok_Vectors_init (P := P) (w := w) (base := base) T
  refine ⟨fd, F.ok sc__law_rows_right sp2_len (fun cdv A outer s H vs Q E hr h => ?_), F.bindsN fun _ _ _ _ _ _ us hl => match us, hl with | [_, _], _ => rfl⟩
  have hr__law_number : Room 3 _ := hr.mono (by decide)
  have hr__law_total : Room 1 _ := hr.mono (by decide)
  have hr__law_read : Room 7 _ := hr.mono (by decide)
  have hr__law_text : Room 1 _ := hr.mono (by decide)
  have hr_Vectors_eq : Room 1 _ := hr.mono (by decide)
  have hr__law_is : Room 7 _ := hr.mono (by decide)
  have hr__law_made : Room 6 _ := hr.mono (by decide)
  have hr__law_weft : Room 1 _ := hr.mono (by decide)
  have hr_Vectors_str : Room 4 _ := hr.mono (by decide)
  have hr_Vectors_eq2 : Room 3 _ := hr.mono (by decide)
  have hr_Vectors_init : Room 5 _ := hr.mono (by decide)
  obtain ⟨b0, u0, rfl, p, n, L, cs, rs, rfl, rfl, hL, hla, hok, hcl, hn, hb, k⟩ := sp2_is h
  refine ⟨_, (pss_cons (ps_setLc (i := 2) (own := [("row", 3)]) (g := gName 3) (tt := tYes)  rfl sc__law_rows_right.nd rfl rfl (sw_true rfl rfl rfl (by decide +kernel)) (pi_list (pv 1)) (blkOk_by (own := [("row", 3)]) (N := ["loom", "rows", "passed", "row", "made", "other", "at", "spot", "old", "new", "bent", "told"]) (sc := defScope s__law_rows_right) (by decide +kernel)) (fun _ _ _ _ _ => (pg_name (i := 3) sc__law_rows_right.nd rfl (Or.inl rfl))) (fun _ _ _ _ _ => pts_nil) (fun _ _ _ _ _ => (pe_callTy (kx_listOf (K := K) rfl) (by rfl) T.b_list (by decide +kernel) (pa_cons (pv 3) pa_nil))))
      (pss_cons (ps_set (i := 4) sc__law_rows_right.nd rfl (Or.inl rfl) (pe_make T.mk_Vectors F_Vectors_init hr_Vectors_init (by rfl) T.g_Vectors B_Vectors_init .nil passL (pa_cons (pv 2) pa_nil)))
      (pss_cons (ps_set (i := 5) sc__law_rows_right.nd rfl (Or.inl rfl) (pe_makeK0 T.mk_Vectors F_Vectors_init hr_Vectors_init (by rfl) T.g_Vectors kb_Vectors_init_0 passL (pk_cons (pe_callTy (kx_tupOf (K := K) rfl) (by rfl) T.b_tuple (by decide +kernel) (pa_cons (pe_lc (own := [("row", 3)]) (g := gName 3) (tt := tYes)  rfl sc__law_rows_right.nd (pi_list (pv 1)) (blkOk_by (own := [("row", 3)]) (N := ["loom", "rows", "passed", "row", "made", "other", "at", "spot", "old", "new", "bent", "told"]) (sc := defScope s__law_rows_right) (by decide +kernel)) (fun _ _ _ _ _ => (pg_name (i := 3) sc__law_rows_right.nd rfl (Or.inl rfl))) (fun _ _ _ _ _ => pts_nil) (fun _ _ _ _ _ => (pe_callTy (kx_tupOf (K := K) rfl) (by rfl) T.b_tuple (by decide +kernel) (pa_cons (pv 3) pa_nil)))) pa_nil)) pk_nil)))
      (pss_cons (ps_asg (pe_op op_add (pe_ix (kx_ixl rfl) (pe_ix (kx_ixl rfl) (pv 2) pe_int (fun _ _ => rfl)) pe_int (fun _ _ => rfl)) pe_int) (pg_sub (pe_ix (kx_ixl rfl) (pv 2) pe_int (fun _ _ => rfl)) pe_int set_list))
      (pss_cons (ps_expr (pe_bm PySem.F.plainAttrs_list PySem.F.slot_list_append PySem.F.type_list_append mt_append (pv 2) (pa_cons (pe_lst pa_nil) pa_nil)))
      (pss_cons (ps_if (PW.pt (pw_or (pt_not (pt_val (pe_call F__law_is hr__law_is (by rfl) T.g__law_is T.k__law_is B__law_is .nil passL (pa_cons (pv 4) (pa_cons (pv 1) pa_nil))))) (pw_or (pt_not (pt_val (pe_call F__law_is hr__law_is (by rfl) T.g__law_is T.k__law_is B__law_is .nil passL (pa_cons (pv 5) (pa_cons (pv 1) pa_nil))))) (pw_or (pt_cmpR (op_neOwn F_Vectors_eq (hr_Vectors_eq2) T.ne_Vectors T.cc_Vectors.hm T.me_Vectors_eq.at_ T.me_Vectors_eq.fn B_Vectors_eq passL) (pv 4) (pv 5) (nomark _)) (pw_or (pt_cmpR (op_eqOwn F_Vectors_eq hr_Vectors_eq T.me_Vectors_eq.at_ T.me_Vectors_eq.fn B_Vectors_eq passL) (pv 4) (pv 1) (nomark _)) (pw_or1 (pt_cmpR (op_eqOwn F_Vectors_eq hr_Vectors_eq T.me_Vectors_eq.at_ T.me_Vectors_eq.fn B_Vectors_eq passL) (pv 4) (pe_callTy (call_strOwn F_Vectors_str hr_Vectors_str T.me_Vectors_str.at_ T.me_Vectors_str.fn B_Vectors_str passL) (by rfl) T.b_str (by decide +kernel) (pa_cons (pv 4) pa_nil)) (nomark _)))))))) (pss_one (ps_ret pe_bl)) pss_nil)
      (pss_cons (ps_par (i := 6) (j := 7) (by rfl) sc__law_rows_right.nd rfl rfl (by decide) rfl rfl (pa_cons (pe_call F__law_weft hr__law_weft (by rfl) T.g__law_weft T.k__law_weft B__law_weft .nil passL (pa_cons (pv 0) (pa_cons (pe_callB (kx_lens rfl) (by rfl) T.b_len PySem.boot_len (pa_cons (pv 1) pa_nil)) pa_nil))) (pa_cons (pe_call F__law_weft hr__law_weft (by rfl) T.g__law_weft T.k__law_weft B__law_weft .nil passL (pa_cons (pv 0) (pa_cons (pe_callB (kx_lens rfl) (by rfl) T.b_len PySem.boot_len (pa_cons (pe_ix (kx_ixl rfl) (pv 1) pe_int (fun _ _ => rfl)) pa_nil)) pa_nil))) pa_nil)) (by rfl))
      (pss_cons (ps_set (i := 8) sc__law_rows_right.nd rfl (Or.inl rfl) (pe_ix (kx_ixl rfl) (pe_ix (kx_ixl rfl) (pv 1) (pv 6) (fun _ _ => rfl)) (pv 7) (fun _ _ => rfl)))
      (pss_cons (ps_for (passes_of rfl) rfl (pi_list (pe_lst (pa_cons (pe_op op_add (pv 8) pe_int) (pa_cons (pe_op op_sub (pv 8) pe_int) (pa_cons (pe_un un_neg (pv 8)) (pa_cons (pe_op op_add (pv 8) (pe_call F__law_number hr__law_number (by rfl) T.g__law_number T.k__law_number B__law_number .nil passL (pa_cons (pv 0) (pa_cons (pe_op op_powW pe_int pe_int) pa_nil)))) (pa_cons pe_int pa_nil))))))) (pg_name (i := 9) sc__law_rows_right.nd rfl (Or.inl rfl)) (pss_cons (ps_setLc (i := 10) (own := [("row", 3)]) (g := gName 3) (tt := tYes)  rfl sc__law_rows_right.nd rfl rfl (sw_true rfl rfl rfl (by decide +kernel)) (pi_list (pv 1)) (blkOk_by (own := [("row", 3)]) (N := ["loom", "rows", "passed", "row", "made", "other", "at", "spot", "old", "new", "bent", "told"]) (sc := defScope s__law_rows_right) (by decide +kernel)) (fun _ _ _ _ _ => (pg_name (i := 3) sc__law_rows_right.nd rfl (Or.inl rfl))) (fun _ _ _ _ _ => pts_nil) (fun _ _ _ _ _ => (pe_callTy (kx_listOf (K := K) rfl) (by rfl) T.b_list (by decide +kernel) (pa_cons (pv 3) pa_nil))))
      (pss_cons (ps_asg (pv 9) (pg_sub (pe_ix (kx_ixl rfl) (pv 10) (pv 6) (fun _ _ => rfl)) (pv 7) set_list))
      (pss_cons (ps_set (i := 11) sc__law_rows_right.nd rfl (Or.inl rfl) (pe_call F__law_made hr__law_made (by rfl) T.g__law_made T.k__law_made B__law_made .nil passL (pa_cons (pv 10) pa_nil)))
      (pss_one (ps_if (pt_cmpR op_isN (pe_call F__law_total hr__law_total (by rfl) T.g__law_total T.k__law_total B__law_total .nil passL (pa_cons (pv 10) pa_nil)) pe_non (nomark _)) (pss_one (ps_if (PW.pt (pw_or (pt_cmpR (op_neD hr.units) (pv 11) (pe_tup (pa_cons pe_str (pa_cons pe_str pa_nil))) (nomark _)) (pw_or1 (pt_cmpR (op_neD hr.units) (pe_call F__law_read hr__law_read (by rfl) T.g__law_read T.k__law_read B__law_read .nil passL (pa_cons (pe_call F__law_text hr__law_text (by rfl) T.g__law_text T.k__law_text B__law_text .nil passL (pa_cons (pv 10) pa_nil)) pa_nil)) (pe_tup (pa_cons pe_str (pa_cons pe_int (pa_cons (pe_op op_add (pe_op op_mulW (pe_callB (kx_lens rfl) (by rfl) T.b_len PySem.boot_len (pa_cons (pv 1) pa_nil)) (pe_callB (kx_lens rfl) (by rfl) T.b_len PySem.boot_len (pa_cons (pe_ix (kx_ixl rfl) (pv 1) pe_int (fun _ _ => rfl)) pa_nil))) pe_int) pa_nil)))) (nomark _))))) (pss_one (ps_ret pe_bl)) pss_nil)) (pss_one (ps_if (PW.pt (pw_or (pt_not (pt_val (pe_call F__law_is hr__law_is (by rfl) T.g__law_is T.k__law_is B__law_is .nil passL (pa_cons (pv 11) (pa_cons (pv 10) pa_nil))))) (pw_or1 (pt_cmpR op_ne (pe_cmpR (op_eqOwn F_Vectors_eq hr_Vectors_eq T.me_Vectors_eq.at_ T.me_Vectors_eq.fn B_Vectors_eq passL) (pv 11) (pv 4) (nomark _)) (pe_cmpR (op_eqD hr.units) (pv 10) (pe_lc (own := [("row", 3)]) (g := gName 3) (tt := tYes)  rfl sc__law_rows_right.nd (pi_list (pv 1)) (blkOk_by (own := [("row", 3)]) (N := ["loom", "rows", "passed", "row", "made", "other", "at", "spot", "old", "new", "bent", "told"]) (sc := defScope s__law_rows_right) (by decide +kernel)) (fun _ _ _ _ _ => (pg_name (i := 3) sc__law_rows_right.nd rfl (Or.inl rfl))) (fun _ _ _ _ _ => pts_nil) (fun _ _ _ _ _ => (pe_callTy (kx_listOf (K := K) rfl) (by rfl) T.b_list (by decide +kernel) (pa_cons (pv 3) pa_nil)))) (nomark _)) (nomark _))))) (pss_one (ps_ret pe_bl)) pss_nil))))))))
      (pss_one (ps_ret pe_bl))))))))))), ?_⟩
  have sh := hok.1
  have l9 := sh.2.1
  have w1 := sh.2.2.1
  have w3 := sh.2.2.2.1
  have lcs := hla.1
  have l0 : 0 < cs.length := by rw [lcs]; exact sh.1
  walk_at "rd"
  refine ⟨L, rfl, ⟨_, SqL.of hL⟩, ?_⟩
  refine r_copy (fun _ => rfl) (fun _ => rfl) hL hla (by omega) fun q ts H1 hq e1 h1 hnd hnew la1 => ?_
  walk_at "rd"
  refine r_Vec2 (xs := ts.map V.ref) (os := rs.map some) ⟨q, rfl, .inl h1⟩ (la1.rits sh) (by rw [List.length_map, la1.1]; omega) (by rw [rows_some]; exact hcl.z) (fun z => by rw [GV.shB_some sh] at z; cases z) (fun _ z => by rw [rows_some, hok.2] at z; cases z) fun _ a H2 hpa e2 hva => ?_
  rw [rows_some] at hva
  walk_at "rd"
  have e02 := e1.trans e2
  have hL2 := e02 _ _ hL
  have la2 := hla.ex e02
  refine ⟨L, rfl, ⟨_, SqL.of hL2⟩, ?_⟩
  refine r_lcI (n := cs.length) (k := 3) (by simpa using walk_list (xs := cs.map V.ref)) (fun i => (rs.getD i []).map V.int) (by omega) (fun H' e => SqL.of (e _ _ hL2)) (fun _ => rfl) ?_ ?_
  · rintro i y H3 H4 hi e3 ⟨rfl, hy⟩
    obtain ⟨t, ht, rfl⟩ := ref_at hy
    obtain ⟨r, hr, hrow⟩ := (la2.ex e3).at ht
    refine ⟨Ex.refl _, fun R kR => ?_⟩
    walk_at "rd"
    refine r_tupL (SqL.of hrow) fun l H5 hl e5 h5 => kR l H5 e5 ?_
    rw [h5, List.getD_eq_getElem?_getD, hr]
    rfl
  intro D ys H3 hD e3 h3 hlen hit
  obtain ⟨us, rfl, tr⟩ := tw_of (by omega) hlen hit
  walk_at "rd"
  refine r_tupL (SqL.of h3) fun l H4 hl e4 h4 => ?_
  have tr4 : TRw H4 us rs := tr.to fun t xs z => e4 _ _ z
  walk_at "rd"
  refine r_mkKN (vs := [.ref l]) rfl (fun x => rfl) ?_
  refine r_Vec2 (xs := us.map V.ref) (os := rs.map some) ⟨l, rfl, .inr h4⟩ (tr4.rits sh) (by rw [List.length_map]; have := tr4.at.1; omega) (by rw [rows_some]; exact hcl.z) (fun z => by rw [GV.shB_some sh] at z; cases z) (fun _ z => by rw [rows_some, hok.2] at z; cases z) fun _ b H5 hpb e5 hvb => ?_
  rw [rows_some] at hvb
  have e25 := (e3.trans e4).trans e5
  have hva5 := hva.ex e25
  have h15 := (e2.trans e25) _ _ h1
  have la5 := la1.ex (e2.trans e25)
  have lts := la1.1
  have e05 := e02.trans e25
  have hbag5 := hb.ex e05
  clear hva h1 la1 hL2 la2 tr hit h3 h4 tr4 e3 e4 e5 hpa hpb hl hD hlen
  walk_at "rx"
  refine r_seqJ (fun σ' H' => Ex H H' ∧ Vec K H' a rs ∧ Vec K H' b rs ∧ σ' = [some (.ref p), some (.ref L), some (.ref q), none, some (.ref a), some (.ref b), none, none, none, none, none, none] ∧ H' q = some (.lst (ts.map V.ref))) (fun N hN => ?_) ?_
  · walk_at "rd"
    have lt0 : 0 < ts.length := by rw [la5.1]; exact sh.1
    have ht0 : ts[0]? = some ts[0] := by simp
    generalize ts[0] = t0 at ht0
    obtain ⟨r0, hr0, hrow0⟩ := la5.at ht0
    have lr0 : 0 < r0.length := by rw [sh.2.2.2.2 r0 (List.mem_of_getElem? hr0)]; exact w1
    have hc0 : r0[0]? = some r0[0] := by simp
    refine r_ixL h15 (v := .ref t0) (atI_nat (j := 0) (by rw [List.getElem?_map, ht0]; rfl)) ?_
    walk_at "rd"
    refine r_ixL hrow0 (v := .int r0[0]) (atI_nat (j := 0) (by rw [List.getElem?_map, hc0]; rfl)) ?_
    walk_at "rd"
    refine r_ixL h15 (v := .ref t0) (atI_nat (j := 0) (by rw [List.getElem?_map, ht0]; rfl)) ?_
    walk_at "rd"
    refine r_setL hrow0 (n := 0) (ixn (by rw [List.length_map]; omega)) ?_
    have t0q : q ≠ t0 := fun z => (List.nodup_cons.mp hnd).1 (by rw [z]; exact List.mem_of_getElem? ht0)
    exact hN _ _ ⟨Ex.updF e05 (hnew t0 (List.mem_of_getElem? ht0)), hva5.updL hrow0, hvb.updL hrow0, rfl, by rw [upd_ne t0q]; exact h15⟩
  clear h15 la5 e05 hbag5 hva5 hvb e25 e02 e1 e2 hnd hnew
  rintro σ' H6 ⟨e6, hva6, hvb6, rfl, h6⟩
  refine r_seqJ (fun σ' H' => Ex H H' ∧ Vec K H' a rs ∧ Vec K H' b rs ∧ σ' = [some (.ref p), some (.ref L), some (.ref q), none, some (.ref a), some (.ref b), none, none, none, none, none, none]) (fun N hN => ?_) ?_
  · walk_at "rd"
    refine r_bm ?_
    walk_at "rd"
    refine ⟨tyL h6, ?_⟩
    walk_at "rd"
    refine r_newL (Nat.zero_le _) fun q2 H7 hq2 e7 h7 => ?_
    walk_at "rd"
    refine r_app (e7 _ _ h6) (by rw [List.length_map]; omega) ?_
    walk_at "rd"
    exact hN _ _ ⟨Ex.updF (e6.trans e7) hq, (hva6.ex e7).updL (e7 _ _ h6), (hvb6.ex e7).updL (e7 _ _ h6), rfl⟩
  clear h6 e6 hva6 hvb6 hq
  rintro σ' H7 ⟨e7, hva7, hvb7, rfl⟩
  have hL7 := e7 _ _ hL
  have la7 := hla.ex e7
  refine r_seqJ (fun σ' H' => Ex H H' ∧ Vec K H' a rs ∧ σ' = [some (.ref p), some (.ref L), some (.ref q), none, some (.ref a), some (.ref b), none, none, none, none, none, none]) (fun N hN => ?_) ?_
  · walk_at "rd"
    refine r_Is hva7 hL7 la7 hcl.rz fun H8 e8 => ?_
    refine ⟨_, rfl, ite_f rfl ?_⟩
    walk_at "rd"
    refine r_Is (hvb7.ex e8) (e8 _ _ hL7) (la7.ex e8) hcl.rz fun H9 e9 => ?_
    refine ⟨_, rfl, ite_f rfl ?_⟩
    walk_at "rd"
    have e89 := e8.trans e9
    have ha9 := hva7.ex e89
    have hb9 := hvb7.ex e89
    refine r_VNe T ha9 hb9 ?_
    walk_at "rd"
    refine ite_f (by simp) ?_
    walk_at "rd"
    refine r_VEqNo T ha9 (.inl ⟨"list", by decide, .lst (e89 _ _ hL7)⟩) ?_
    walk_at "rd"
    refine ite_f rfl ?_
    walk_at "rd"
    obtain ⟨dx, fs, hi9⟩ := ha9.inst
    refine ⟨a, dx, fs, rfl, hi9, a, rs, rfl, ha9, hcl.rz, fun H10 e10 => ⟨⟨_, rfl⟩, ?_⟩⟩
    refine r_VEqNo T (ha9.ex e10) (.inl ⟨"str", by decide, .str _⟩) ?_
    walk_at "rd"
    exact hN _ _ ⟨(e7.trans e89).trans e10, ha9.ex e10, rfl⟩
  clear hL7 la7 e7 hva7 hvb7
  rintro σ' H8 ⟨e8, hva8, rfl⟩
  have b8 := hb.ex e8
  have hL8 := e8 _ _ hL
  have la8 := hla.ex e8
  walk_at "rd"
  refine r_lenL hL8 ?_
  walk_at "rd"
  refine r_DrawG b8 (by omega) (by rw [List.length_map]; omega) (zsm (by rw [List.length_map]; omega)) fun r H9 r0 r1 g9 b9 => ?_
  rw [List.length_map] at r1
  have hL9 := g9.at_ (ls_ne b8 hL8) hL8
  have la9 := la8.bg b8 g9
  have hc0 : cs[0]? = some cs[0] := by simp
  generalize cs[0] = c0 at hc0
  obtain ⟨rr, hrr, hrow0⟩ := la9.at hc0
  walk_at "rd"
  refine r_ixL hL9 (v := .ref c0) (atI_nat (j := 0) (by rw [List.getElem?_map, hc0]; rfl)) ?_
  walk_at "rd"
  refine len_row (.inl hrow0) ?_
  rw [sh.2.2.2.2 rr (List.mem_of_getElem? hrr)]
  walk_at "rd"
  refine r_DrawG b9 (by omega) (by omega) (zsm (by omega)) fun s H10 s0 s1 g10 b10 => ?_
  walk_at "rd"
  obtain ⟨i, rfl⟩ : ∃ i : Nat, r = (i : Int) := ⟨r.toNat, by omega⟩
  obtain ⟨j, rfl⟩ : ∃ j : Nat, s = (j : Int) := ⟨s.toNat, by omega⟩
  have hL10 := g10.at_ (ls_ne b9 hL9) hL9
  have la10 := la9.bg b9 g10
  have hva10 := (hva8.bg b8 g9).bg b9 g10
  have g8 : Bg p H H10 := ((Bg.of e8).trans g9).trans g10
  have hi : i < cs.length := by omega
  have hci : cs[i]? = some cs[i] := by simp
  generalize cs[i] = ci at hci
  obtain ⟨ri, hri, hrowi⟩ := la10.at hci
  have lri : ri.length = GV.wid rs := sh.2.2.2.2 ri (List.mem_of_getElem? hri)
  have hcj : ri[j]? = some (ri[j]'(by omega)) := by simp
  generalize (ri[j]'(by omega)) = old at hcj
  have hold : -1000000000000000 ≤ old ∧ old ≤ 1000000000000000 := hcl ri (List.mem_of_getElem? hri) old (List.mem_of_getElem? hcj)
  clear hva8 b8 hL8 la8 hL9 la9 hrow0 g9 b9 g10 e8
  refine r_ixL hL10 (v := .ref ci) (atI_nat (by rw [List.getElem?_map, hci]; rfl)) ?_
  walk_at "rd"
  refine r_ixL hrowi (v := .int old) (atI_nat (by rw [List.getElem?_map, hcj]; rfl)) ?_
  walk_at "rd"
  refine r_pow (p10 13 (by decide)) p1013 ?_
  walk_at "rd"
  refine r_Num b10 (by omega) (by decide) (by decide) fun c H11 cl cu g11 b11 => ?_
  walk_at "rd"
  refine r_newL (sz_le (by simp)) fun w5 H12 hw5 e12 h12 => ?_
  have hL12 := e12 _ _ (g11.at_ (ls_ne b10 hL10) hL10)
  have la12 := (la10.bg b10 g11).ex e12
  have hva12 := (hva10.bg b10 g11).ex e12
  have b12 := b11.ex e12
  have g12 : Bg p H H12 := (g8.trans g11).trans (Bg.of e12)
  obtain ⟨news, hnews, hnz, hnl⟩ : ∃ news : List Int, H12 w5 = some (.lst (news.map V.int)) ∧ (∀ d ∈ news, -100000000000000000 ≤ d ∧ d ≤ 100000000000000000) ∧ news.length ≤ 100 := ⟨[old + 1, old - 1, -old, old + c, 0], h12, fun d hd => by
    simp only [List.mem_cons, List.not_mem_nil, or_false] at hd
    omega, by simp⟩
  clear h12 hva10 la10 hL10 b10 hrowi g11 b11 g8 e12 hw5
  walk_at "rd"
  refine ⟨w5, rfl, ⟨_, SqL.of hnews⟩, ?_⟩
  refine for_of (by simpa using walk_list (xs := news.map V.int)) (n := news.length) (fun _ σ' H' => Ex H12 H' ∧ ∃ s9 s10 s11, σ' = [some (.ref p), some (.ref L), some (.ref q), none, some (.ref a), some (.ref b), some (.int i), some (.int j), some (.int old), s9, s10, s11]) ⟨Ex.refl _, none, none, none, rfl⟩ (fun _ _ _ _ h => SqL.of (h.1 _ _ hnews)) ?_ ?_
  · rintro m x σ' H14 H13 hm ⟨e13, s9, s10, s11, rfl⟩ ⟨rfl, hx⟩
    obtain ⟨new, hnew, rfl⟩ := int_at hx
    have hnz' := hnz new (List.mem_of_getElem? hnew)
    refine r_gName ?_
    have hL13 := e13 _ _ hL12
    have la13 := la12.ex e13
    have hva13 := hva12.ex e13
    have hbt : ∃ bt, bt = setR rs i j new := ⟨_, rfl⟩
    obtain ⟨bt, hbt⟩ := hbt
    obtain ⟨shb, wdb⟩ := setR_sh (i := i) (j := j) (c := new) sh
    have lenb : (setR rs i j new).length = rs.length := by simp [setR]
    have hrb : rzB 100000000000000000 (setR rs i j new) := rzB_set (fun r hr c hc => by have := hcl r hr c hc; omega) (by omega)
    walk_at "rx"
    refine r_seqJ (fun σ' H' => ∃ q2 ts2, Ex H13 H' ∧ H' q2 = some (.lst (ts2.map V.ref)) ∧ LA H' ts2 rs ∧ (q2 :: ts2).Nodup ∧ (∀ t ∈ ts2, H13 t = none) ∧ σ' = [some (.ref p), some (.ref L), some (.ref q), none, some (.ref a), some (.ref b), some (.int i), some (.int j), some (.int old), some (.int new), some (.ref q2), s11]) (fun N hN => ?_) ?_
    · walk_at "rd"
      refine ⟨L, rfl, ⟨_, SqL.of hL13⟩, ?_⟩
      refine r_copy (fun _ => rfl) (fun _ => rfl) hL13 la13 (by omega) fun q2 ts2 H15 hq2 e15 h15 hnd2 hnew2 la15 => ?_
      walk_at "rd"
      exact hN _ _ ⟨q2, ts2, e15, h15, la15, hnd2, hnew2, rfl⟩
    rintro σ' H15 ⟨q2, ts2, e15, h15, la15, hnd2, hnew2, rfl⟩
    refine r_seqJ (fun σ' H' => Ex H13 H' ∧ H' q2 = some (.lst (ts2.map V.ref)) ∧ LA H' ts2 bt ∧ σ' = [some (.ref p), some (.ref L), some (.ref q), none, some (.ref a), some (.ref b), some (.int i), some (.int j), some (.int old), some (.int new), some (.ref q2), s11]) (fun N hN => ?_) ?_
    · walk_at "rd"
      have hti : ts2[i]? = some (ts2[i]'(by rw [la15.1]; omega)) := by simp
      generalize (ts2[i]'(by rw [la15.1]; omega)) = ti at hti
      obtain ⟨ri', hri', hrowi⟩ := la15.at hti
      have e1 : ri' = ri := by rw [hri] at hri'; exact (Option.some.inj hri').symm
      subst e1
      refine r_ixL h15 (v := .ref ti) (atI_nat (by rw [List.getElem?_map, hti]; rfl)) ?_
      walk_at "rd"
      refine r_setL hrowi (n := j) (ixn (by rw [List.length_map]; omega)) ?_
      have tq : q2 ≠ ti := fun z => (List.nodup_cons.mp hnd2).1 (by rw [z]; exact List.mem_of_getElem? hti)
      have la16 := la_setR (c := new) (j := j) la15 (List.nodup_cons.mp hnd2).2 hti
      have eg : rs.getD i [] = ri' := by rw [List.getD_eq_getElem?_getD, hri]; rfl
      rw [eg, List.map_set] at la16
      exact hN _ _ ⟨Ex.updF e15 (hnew2 ti (List.mem_of_getElem? hti)), by rw [upd_ne tq]; exact h15, by rw [hbt]; exact la16, rfl⟩
    clear e15 h15 la15 hnd2 hnew2
    rintro σ' H15 ⟨e15, h15, la15, rfl⟩
    rw [← hbt] at shb wdb lenb hrb
    refine r_seqJ (fun σ' H' => ∃ t, Ex H13 H' ∧ H' q2 = some (.lst (ts2.map V.ref)) ∧ LA H' ts2 bt ∧ σ' = [some (.ref p), some (.ref L), some (.ref q), none, some (.ref a), some (.ref b), some (.int i), some (.int j), some (.int old), some (.int new), some (.ref q2), some (.ref t)] ∧ ((GV.upB bt = false ∧ H' t = some (.tup [.str "MISFIT", .str "sum"])) ∨ (GV.upB bt = true ∧ Vec K H' t bt))) (fun N hN => ?_) ?_
    · walk_at "rd"
      refine .inr ⟨ts2.map V.ref, bt.map some, ⟨q2, rfl, .inl h15⟩, la15.rits shb, by rw [List.length_map, la15.1]; omega, by rw [rows_some]; exact hrb.rz.z, fun z => by (rw [GV.shB_some shb] at z; cases z), fun _ hup t H16 e16 h16 => ?_, fun _ hup t H16 ht e16 hv => ?_⟩
      · rw [rows_some] at hup
        walk_at "rd"
        exact hN _ _ ⟨t, e15.trans e16, e16 _ _ h15, la15.ex e16, rfl, .inl ⟨hup, h16⟩⟩
      · rw [rows_some] at hup hv
        walk_at "rd"
        exact hN _ _ ⟨t, e15.trans e16, e16 _ _ h15, la15.ex e16, rfl, .inr ⟨hup, hv⟩⟩
    clear e15 h15 la15
    rintro σ' H16 ⟨t, e16, h16, la16, rfl, hcase⟩
    walk_at "rd"
    refine ⟨bt, ⟨q2, ts2, rfl, h16, la16⟩, .inr shb, hrb.rz.z, fun H17 e17 => ?_⟩
    walk_at "rd"
    have hL17 := (e16.trans e17) _ _ hL13
    have la17 := la13.ex (e16.trans e17)
    have hc07 : cs[0]? = some (cs[0]'l0) := by simp
    generalize (cs[0]'l0) = c0' at hc07
    obtain ⟨rr', hrr', hrow0'⟩ := la17.at hc07
    rcases hcase with ⟨hup, ht⟩ | ⟨hup, hv⟩
    · rw [tv_no hup]
      refine ⟨rfl, _, rfl, ite_t (by simp) ?_⟩
      walk_at "rd"
      refine r_newT (sz_le (by simp)) fun t1 H18 ht1 e18 h18 => ?_
      refine r_neTup [.str "MISFIT", .str "sum"] [.str "MISFIT", .str "sum"] (e18 _ _ (e17 _ _ ht)) h18 (.cons (.str _) (.cons (.str _) .nil)) (.cons (.str _) (.cons (.str _) .nil)) (by decide +kernel) (by decide +kernel) ?_
      walk_at "rd"
      refine ite_f (by decide +kernel) ?_
      walk_at "rd"
      refine ⟨bt, ⟨q2, ts2, rfl, e18 _ _ (e17 _ _ h16), (la16.ex e17).ex e18⟩, shb, hrb.rz, fun H19 e19 => ?_⟩
      walk_at "rd"
      have vl := vI_len shb
      have hst : GV.stp (GV.vsI bt) (decide ((vI bt)[1]? = some (Str.ofString ":"))) = .inl (2 + bt.length * GV.wid bt - 1) := by
        rw [decide_eq_true (show (vI bt)[1]? = some (Str.ofString ":") from rfl), GV.stp_vsI shb, if_neg (by rw [hup]; decide)]
      refine .inl ⟨vI bt, GV.vsI bt, rfl, by simp [vI], vI_its shb hrb.rz, by omega, fun m' hm' => ?_, fun rs' hrs' => by (rw [hst] at hrs'; cases hrs')⟩
      rw [hst] at hm'
      cases hm'
      intro t2 H20 e20 h20
      have e720 := (e18.trans e19).trans e20
      walk_at "rd"
      refine r_lenL (e720 _ _ hL17) ?_
      walk_at "rd"
      refine r_ixL (e720 _ _ hL17) (v := .ref c0') (atI_nat (j := 0) (by rw [List.getElem?_map, hc07]; rfl)) ?_
      walk_at "rd"
      refine len_row (.inl (e720 _ _ hrow0')) ?_
      rw [sh.2.2.2.2 rr' (List.mem_of_getElem? hrr'), List.length_map]
      walk_at "rd"
      refine r_I (mulOk (n := 10) (m := 10) (by unfold Z; rw [Int.natAbs_natCast]; omega) (by unfold Z; rw [Int.natAbs_natCast]; omega) (by decide) (by decide) (by decide)) ?_
      walk_at "rd"
      refine r_newT (sz_le (by simp)) fun t3 H21 ht3 e21 h21 => ?_
      have ev : ((cs.length : Nat) : Int) * ((GV.wid rs : Nat) : Int) + 1 = ((2 + bt.length * GV.wid bt - 1 : Nat) : Int) := by
        rw [wdb, lenb, lcs]
        have : 0 < rs.length * GV.wid rs := Nat.mul_pos sh.1 w1
        push_cast
        omega
      rw [ev] at h21
      refine r_neTup [.str "STOP", .int 0, .int _] [.str "STOP", .int 0, .int _] (e21 _ _ h20) h21 (.cons (.str _) (.cons (.int _) (.cons (.int _) .nil))) (.cons (.str _) (.cons (.int _) (.cons (.int _) .nil))) (stop_sh _) (stop_sh _) ?_
      rw [stop_eq]
      walk_at "rd"
      refine ite_f rfl ?_
      exact ⟨((((e13.trans e16).trans e17).trans e720).trans e21), _, _, _, rfl⟩
    · rw [tv_up shb hup]
      refine ⟨rfl, _, rfl, ite_f (by simp) ?_⟩
      walk_at "rd"
      refine r_Is (hv.ex e17) (e17 _ _ h16) (la16.ex e17) hrb.rz fun H18 e18 => ?_
      refine ⟨_, rfl, ite_f rfl ?_⟩
      walk_at "rd"
      have e1618 := (e16.trans e17).trans e18
      refine r_VEq T ((hv.ex e17).ex e18) (hva13.ex e1618) ?_
      walk_at "rd"
      refine ⟨L, rfl, ⟨_, SqL.of (e1618 _ _ hL13)⟩, ?_⟩
      refine r_copy (fun _ => rfl) (fun _ => rfl) (e1618 _ _ hL13) (la13.ex e1618) (by omega) fun q3 ts3 H19 hq3 e19 h19 hnd3 hnew3 la19 => ?_
      refine r_eqLL (e19 _ _ (e18 _ _ (e17 _ _ h16))) (((la16.ex e17).ex e18).ex e19) h19 la19 ?_
      refine r_ne rfl ?_
      walk_at "rd"
      refine ite_f (by simp) ?_
      exact ⟨(e13.trans e1618).trans e19, _, _, _, rfl⟩
  · rintro σ' H' ⟨e', s9, s10, s11, rfl⟩
    walk_at "rd"
    exact k H' (g12.trans (Bg.of e')) ((b12.ex e').le (by omega))

end K31
namespace K31
open PySem PySem.Spec PyProof.Rows L2 GS TL
local macro_rules | `(tactic| walk_at "rd") => `(tactic| (repeat (first
  | with_reducible refine r_next ?_
  | with_reducible refine r_seq ?_
  | with_reducible refine r_ret ?_
  | with_reducible refine r_ifS ?_
  | with_reducible refine r_asg ?_
  | with_reducible refine r_drop ?_
  | with_reducible refine r_op ?_
  | with_reducible refine r_un ?_
  | with_reducible refine r_cbInt ?_
  | with_reducible refine r_cbAbs ?_
  | with_reducible refine r_cbLen ?_
  | with_reducible refine r_cbList ?_
  | with_reducible refine r_cbTup ?_
  | with_reducible refine r_iEnT ?_
  | with_reducible refine r_iEnL ?_
  | with_reducible refine r_zipA ?_
  | with_reducible refine r_zipX ?_
  | with_reducible refine r_augS ?_
  | with_reducible refine r_cb ?_
  | with_reducible refine r_call ?_
  | with_reducible refine r_make ?_
  | with_reducible refine r_callN0 ?_
  | with_reducible refine r_makeK0 ?_
  | with_reducible refine r_makeS ?_
  | with_reducible refine r_callS ?_
  | with_reducible refine r_cons ?_
  | with_reducible refine r_nil ?_
  | with_reducible refine r_test ?_
  | with_reducible refine r_B ?_
  | with_reducible refine r_and ?_
  | with_reducible refine r_or ?_
  | with_reducible refine r_not ?_
  | with_reducible refine r_andV ?_
  | with_reducible refine r_orV ?_
  | with_reducible refine r_notV ?_
  | with_reducible refine r_if ?_
  | with_reducible refine r_tup ?_
  | with_reducible refine r_lst ?_
  | with_reducible refine r_c ?_
  | with_reducible refine r_lc ?_
  | with_reducible refine r_chain ?_
  | with_reducible refine r_iT ?_
  | with_reducible refine r_iL ?_
  | with_reducible refine r_iR1 ?_
  | with_reducible refine r_iR2 ?_
  | with_reducible refine r_iR3 ?_
  | with_reducible refine r_asgG ?_
  | with_reducible refine r_gSub ?_
  | with_reducible refine r_for ?_
  | with_reducible refine r_smeth ?_
  | with_reducible refine r_par ?_
  | with_reducible refine r_parK ?_
  | with_reducible refine r_gCons ?_
  | with_reducible refine r_gNil ?_
  | with_reducible refine r_gName ?_
  | with_reducible refine r_intI ?_
  | with_reducible refine r_intB ?_
  | with_reducible refine r_absI ?_
  | with_reducible refine r_k ?_
  | with_reducible refine r_kV ?_
  | ((with_reducible show tVar _ _ _ _); refine r_var3 ?_ (by rfl))
  | with_reducible refine r_I0 ?_
  | with_reducible refine r_U ?_
  | with_reducible refine r_eqI ?_
  | with_reducible refine r_neI ?_
  | with_reducible refine r_F ?_
  | dsimp only)))
local macro_rules | `(tactic| walk_at "rx") => `(tactic| (repeat (first
  | with_reducible refine r_next ?_
  | with_reducible refine r_ret ?_
  | with_reducible refine r_ifS ?_
  | with_reducible refine r_asg ?_
  | with_reducible refine r_drop ?_
  | with_reducible refine r_op ?_
  | with_reducible refine r_un ?_
  | with_reducible refine r_cbInt ?_
  | with_reducible refine r_cbAbs ?_
  | with_reducible refine r_cbLen ?_
  | with_reducible refine r_cbList ?_
  | with_reducible refine r_cbTup ?_
  | with_reducible refine r_iEnT ?_
  | with_reducible refine r_iEnL ?_
  | with_reducible refine r_zipA ?_
  | with_reducible refine r_zipX ?_
  | with_reducible refine r_augS ?_
  | with_reducible refine r_cb ?_
  | with_reducible refine r_call ?_
  | with_reducible refine r_make ?_
  | with_reducible refine r_callN0 ?_
  | with_reducible refine r_makeK0 ?_
  | with_reducible refine r_makeS ?_
  | with_reducible refine r_callS ?_
  | with_reducible refine r_cons ?_
  | with_reducible refine r_nil ?_
  | with_reducible refine r_test ?_
  | with_reducible refine r_B ?_
  | with_reducible refine r_and ?_
  | with_reducible refine r_or ?_
  | with_reducible refine r_not ?_
  | with_reducible refine r_andV ?_
  | with_reducible refine r_orV ?_
  | with_reducible refine r_notV ?_
  | with_reducible refine r_if ?_
  | with_reducible refine r_tup ?_
  | with_reducible refine r_lst ?_
  | with_reducible refine r_c ?_
  | with_reducible refine r_lc ?_
  | with_reducible refine r_chain ?_
  | with_reducible refine r_iT ?_
  | with_reducible refine r_iL ?_
  | with_reducible refine r_iR1 ?_
  | with_reducible refine r_iR2 ?_
  | with_reducible refine r_iR3 ?_
  | with_reducible refine r_asgG ?_
  | with_reducible refine r_gSub ?_
  | with_reducible refine r_for ?_
  | with_reducible refine r_smeth ?_
  | with_reducible refine r_par ?_
  | with_reducible refine r_parK ?_
  | with_reducible refine r_gCons ?_
  | with_reducible refine r_gNil ?_
  | with_reducible refine r_gName ?_
  | with_reducible refine r_intI ?_
  | with_reducible refine r_intB ?_
  | with_reducible refine r_absI ?_
  | with_reducible refine r_k ?_
  | with_reducible refine r_kV ?_
  | ((with_reducible show tVar _ _ _ _); refine r_var3 ?_ (by rfl))
  | with_reducible refine r_I0 ?_
  | with_reducible refine r_U ?_
  | with_reducible refine r_eqI ?_
  | with_reducible refine r_neI ?_
  | with_reducible refine r_F ?_
  | dsimp only)))
/-! ### bent texts read -/
theorem its_len {ys : List Str} {vs : List (Option Int)} (h : Its ys vs) : ys.length = vs.length := h.its.1
def spTR (K : PySem.W.Frag) : Sp := sp2 fun b u H Q _ => ∃ (p : Addr) (n : Int) (L : Addr) (cs : List Addr) (rs : List (List Int)), b = .ref p ∧ u = .ref L ∧ H L = some (.lst (cs.map V.ref)) ∧ LA H cs rs ∧ GV.okR rs ∧ clZ rs ∧ n ≤ 80000 ∧ Bag H p n ∧ ∀ H', Bg p H H' → Bag H' p (n + 30) → Q (.bl true) H'
theorem ok__law_texts_right {P : Program} {w : World} {K : PySem.W.Frag} {mg : Str → Option Value} {base : Heap} (T : Txt K mg) : ∃ fd, FnOk P w K mg base (L2.CX P w) 8 (He.ga K "_law_texts_right") fd ["loom", "rows"] (spTR K) ∧ Binds K fd ["loom", "rows"] [] := by
  obtain ⟨fd, F⟩ := T.d__law_texts_right
  obtain ⟨fd__law_is, F__law_is, B__law_is⟩ := ok__law_is (P := P) (w := w) (base := base) T
  obtain ⟨fd__law_read, F__law_read, B__law_read⟩ := ok__law_read (P := P) (w := w) (base := base) T
  obtain ⟨fd__law_stop, F__law_stop, B__law_stop⟩ := ok__law_stop (P := P) (w := w) (base := base) T
  obtain ⟨fd__law_bent, F__law_bent, B__law_bent⟩ := ok__law_bent (P := P) (w := w) (base := base) T
  obtain ⟨fd__law_text, F__law_text, B__law_text⟩ := ok__law_text (P := P) (w := w) (base := base) T
  refine ⟨fd, F.ok sc__law_texts_right sp2_len (fun cdv A outer s H vs Q E hr h => ?_), F.bindsN fun _ _ _ _ _ _ us hl => match us, hl with | [_, _], _ => rfl⟩
  have hr__law_is : Room 7 _ := hr.mono (by decide)
  have hr__law_read : Room 7 _ := hr.mono (by decide)
  have hr__law_stop : Room 2 _ := hr.mono (by decide)
  have hr__law_bent : Room 3 _ := hr.mono (by decide)
  have hr__law_text : Room 1 _ := hr.mono (by decide)
  obtain ⟨b0, u0, rfl, p, n, L, cs, rs, rfl, rfl, hL, hla, hok, hcl, hn, hb, k⟩ := sp2_is h
  refine ⟨_, (pss_cons (ps_set (i := 2) sc__law_texts_right.nd rfl (Or.inl rfl) (pe_split (pe_call F__law_text hr__law_text (by rfl) T.g__law_text T.k__law_text B__law_text .nil passL (pa_cons (pv 1) pa_nil)) pe_str))
      (pss_cons (ps_for (passes_of rfl) rfl (pi_range1 (by rfl) T.b_range (pa_cons pe_int pa_nil)) (pg_name (i := 3) sc__law_texts_right.nd rfl (Or.inl rfl)) (pss_cons (ps_set (i := 4) sc__law_texts_right.nd rfl (Or.inl rfl) (pe_call F__law_bent hr__law_bent (by rfl) T.g__law_bent T.k__law_bent B__law_bent .nil passL (pa_cons (pv 0) (pa_cons (pv 2) pa_nil))))
      (pss_cons (ps_if (pt_cmpR op_eq (pv 3) pe_int (nomark _)) (pss_one (ps_set (i := 4) sc__law_texts_right.nd rfl (Or.inl rfl) (pe_call F__law_bent hr__law_bent (by rfl) T.g__law_bent T.k__law_bent B__law_bent .nil passL (pa_cons (pv 0) (pa_cons (pv 4) pa_nil))))) pss_nil)
      (pss_cons (ps_par (i := 5) (j := 6) (by rfl) sc__law_texts_right.nd rfl rfl (by decide) rfl rfl (pa_cons (pe_call F__law_stop hr__law_stop (by rfl) T.g__law_stop T.k__law_stop B__law_stop .nil passL (pa_cons (pv 4) pa_nil)) (pa_cons (pe_call F__law_read hr__law_read (by rfl) T.g__law_read T.k__law_read B__law_read .nil passL (pa_cons (pe_join pe_str (pv 4)) pa_nil)) pa_nil)) (by rfl))
      (pss_cons (ps_if (PW.pt (pw_and (pt_cmpR op_notN (pv 5) pe_non (nomark _)) (pw_and1 (pt_cmpR (op_neD hr.units) (pv 6) (pe_tup (pa_cons pe_str (pa_cons pe_int (pa_cons (pv 5) pa_nil)))) (nomark _))))) (pss_one (ps_ret pe_bl)) pss_nil)
      (pss_one (ps_if (pt_cmpR op_isN (pv 5) pe_non (nomark _)) (pss_cons (ps_asg (pe_tup (pa_cons (pe_lc (own := [("item", 9)]) (g := gName 9) (tt := tYes)  rfl sc__law_texts_right.nd (pi_list (pe_slice sl_list (pv 4) (po_some pe_int) po_none)) (blkOk_by (own := [("item", 9)]) (N := ["loom", "rows", "items", "turn", "bent", "stop", "told", "numbers", "length", "item", "at"]) (sc := defScope s__law_texts_right) (by decide +kernel)) (fun _ _ _ _ _ => (pg_name (i := 9) sc__law_texts_right.nd rfl (Or.inl rfl))) (fun _ _ _ _ _ => pts_nil) (fun _ _ _ _ _ => (pe_callTy call_int_str (by rfl) T.b_int (by decide +kernel) (pa_cons (pv 9) pa_nil)))) (pa_cons (pe_callTy call_int_str (by rfl) T.b_int (by decide +kernel) (pa_cons (pe_ix (kx_ixl rfl) (pv 4) pe_int (fun _ _ => rfl)) pa_nil)) pa_nil))) (pg_tup rfl (pgs_cons (pg_name (i := 7) sc__law_texts_right.nd rfl (Or.inr rfl)) (pgs_cons (pg_name (i := 8) sc__law_texts_right.nd rfl (Or.inr rfl)) pgs_nil))))
      (pss_one (ps_if (pt_not (pt_val (pe_call F__law_is hr__law_is (by rfl) T.g__law_is T.k__law_is B__law_is .nil passL (pa_cons (pv 6) (pa_cons (pe_lc (own := [("at", 10)]) (g := gName 10) (tt := tYes)  rfl sc__law_texts_right.nd (pi_range3 (by rfl) T.b_range (pa_cons pe_int (pa_cons (pe_callB (kx_lens rfl) (by rfl) T.b_len PySem.boot_len (pa_cons (pv 7) pa_nil)) (pa_cons (pv 8) pa_nil)))) (blkOk_by (own := [("at", 10)]) (N := ["loom", "rows", "items", "turn", "bent", "stop", "told", "numbers", "length", "item", "at"]) (sc := defScope s__law_texts_right) (by decide +kernel)) (fun _ _ _ _ _ => (pg_name (i := 10) sc__law_texts_right.nd rfl (Or.inl rfl))) (fun _ _ _ _ _ => pts_nil) (fun _ _ _ _ _ => (pe_slice (kx_sll (K := K) rfl) (pv 7) (po_some (pv 10)) (po_some (pe_op op_add (pv 10) (pv 8)))))) pa_nil))))) (pss_one (ps_ret pe_bl)) pss_nil))) pss_nil)))))))
      (pss_one (ps_ret pe_bl)))), ?_⟩
  have sh := hok.1
  walk_at "rd"
  refine ⟨_, rfl, rs, ⟨L, cs, rfl, hL, hla⟩, sh, hcl.rz, fun H1 e1 => ?_⟩
  refine ⟨⟨_, rfl⟩, ?_⟩
  have hits := vI_its sh hcl.rz
  have hf := hits.free
  have vl := vI_len sh
  have jl := join_len (ys := vI rs) (fun y hy => (hf y hy).2.1) (by omega)
  refine ⟨_, _, rfl, rfl, rfl, sz_le (by show (Txt.join (Str.ofString " ") (vI rs)).length + 2 ≤ _; omega), fun q hq => ?_⟩
  have es : Txt.split (vS rs) (Str.ofString " ") = vI rs := split_join (y := Str.ofString " ") (s := 32) (S := []) rfl (by decide +kernel) (by simp [vI]) (fun y hy => (hf y hy).1)
  rw [es]
  have e2 : Ex H (upd H1 q (.lst ((vI rs).map V.str))) := e1.trans (Ex.new hq)
  have h2 : (upd H1 q (.lst ((vI rs).map V.str))) q = some (.lst ((vI rs).map V.str)) := upd_same
  generalize upd H1 q (.lst ((vI rs).map V.str)) = H2 at e2 h2 ⊢
  have b2 := hb.ex e2
  have st_ne : ∀ {H' : Hp} {q' : Addr} {zs : List Str} {m : Int}, Bag H' p m → H' q' = some (.lst (zs.map V.str)) → q' ≠ p := fun {H' q' zs m} hb' h => hb'.ne h fun l x y z => by
    injection z with z
    match zs, z with
    | a :: _, z => injection z with z _; cases z
  walk_at "rd"
  refine ⟨_, rfl, by decide, by decide, ?_⟩
  refine for_of (walk_range (lo := 0) (n := 4)) (fun i σ' H' => ∃ s3 s4 s5 s6 s7 s8 s9 s10, σ' = [some (.ref p), some (.ref L), some (.ref q), s3, s4, s5, s6, s7, s8, s9, s10] ∧ Bg p H H' ∧ Bag H' p (n + 6 * (i : Nat)) ∧ H' q = some (.lst ((vI rs).map V.str))) ⟨none, none, none, none, none, none, none, none, rfl, Bg.of e2, b2.le (by omega), h2⟩ (fun _ _ _ _ _ => trivial) ?_ ?_
  · rintro i x σ' H3 H4 hi ⟨s3, s4, s5, s6, s7, s8, s9, s10, rfl, g3, b3, h3⟩ ⟨rfl, rfl⟩
    refine r_gName ?_
    walk_at "rx"
    refine r_seqJ (fun σ' H' => ∃ w zs, σ' = [some (.ref p), some (.ref L), some (.ref q), some (.int (0 + (i : Nat))), some (.ref w), s5, s6, s7, s8, s9, s10] ∧ Bg p H H' ∧ Bag H' p (n + 6 * (i : Nat) + 3) ∧ H' q = some (.lst ((vI rs).map V.str)) ∧ H' w = some (.lst (zs.map V.str)) ∧ zs ≠ [] ∧ zs.length ≤ 30 ∧ AllI zs) (fun N hN => ?_) ?_
    · walk_at "rd"
      refine ⟨p, _, q, vI rs, rfl, rfl, h3, st_ne b3 h3, by simp [vI], by omega, fun y hy => hits.some y hy, by omega, b3, fun w zs H5 g5 b5 hw h5 hne hlen hall => ?_⟩
      walk_at "rd"
      exact hN _ _ ⟨w, zs, rfl, g3.trans g5, b5, g5.at_ (st_ne b3 h3) h3, h5, hne, by omega, hall⟩
    clear b3 h3 g3
    rintro σ' H5 ⟨w5, zs5, rfl, g5, b5, h5, hw5, hne5, hl5, hall5⟩
    refine r_seqJ (fun σ' H' => ∃ w zs, σ' = [some (.ref p), some (.ref L), some (.ref q), some (.int (0 + (i : Nat))), some (.ref w), s5, s6, s7, s8, s9, s10] ∧ Bg p H H' ∧ Bag H' p (n + 6 * (i : Nat) + 6) ∧ H' q = some (.lst ((vI rs).map V.str)) ∧ H' w = some (.lst (zs.map V.str)) ∧ zs ≠ [] ∧ zs.length ≤ 31 ∧ AllI zs) (fun N hN => ?_) ?_
    · walk_at "rd"
      refine ite_b (fun _ => ?_) fun _ => ?_
      · walk_at "rd"
        refine ⟨p, _, w5, zs5, rfl, rfl, hw5, st_ne b5 hw5, hne5, by omega, hall5, by omega, b5, fun w zs H6 g6 b6 hw h6 hne hlen hall => ?_⟩
        walk_at "rd"
        exact hN _ _ ⟨w, zs, rfl, g5.trans g6, b6.le (by omega), g6.at_ (st_ne b5 h5) h5, h6, hne, by omega, hall⟩
      · exact hN _ _ ⟨w5, zs5, rfl, g5, b5.le (by omega), h5, hw5, hne5, by omega, hall5⟩
    clear b5 h5 g5 hw5 hne5 hl5 hall5
    rintro σ' H6 ⟨w, zs, rfl, g6, b6, h6, hw6, hne, hl6, hall⟩
    obtain ⟨vs, hits6⟩ := Its.of hall
    have hf6 := hits6.free
    have hnx : ∀ {H' : Hp} {s5 s6 s7 s8 s9 s10 : Option V}, Ex H6 H' → ∃ s3 s4 s5' s6' s7' s8' s9' s10', [some (.ref p), some (.ref L), some (.ref q), some (.int (0 + (i : Nat))), some (.ref w), s5, s6, s7, s8, s9, s10] = [some (V.ref p), some (.ref L), some (.ref q), s3, s4, s5', s6', s7', s8', s9', s10'] ∧ Bg p H H' ∧ Bag H' p (n + 6 * ((i + 1 : Nat) : Nat)) ∧ H' q = some (.lst ((vI rs).map V.str)) := fun {H' s5 s6 s7 s8 s9 s10} e =>
      ⟨_, _, _, _, _, _, _, _, rfl, g6.trans (Bg.of e), (b6.ex e).le (by push_cast; omega), e _ _ h6⟩
    refine r_seqJ (fun σ' H' => ∃ t, Ex H6 H' ∧ σ' = [some (.ref p), some (.ref L), some (.ref q), some (.int (0 + (i : Nat))), some (.ref w), some (sv (GV.stp vs (decide (zs[1]? = some (Str.ofString ":"))))), some (.ref t), s7, s8, s9, s10] ∧ ((∃ j, GV.stp vs (decide (zs[1]? = some (Str.ofString ":"))) = .inl j ∧ H' t = some (.tup [.str "STOP", .int 0, .int (j : Nat)])) ∨ ∃ ws, GV.stp vs (decide (zs[1]? = some (Str.ofString ":"))) = .inr ws ∧ Vec K H' t ws)) (fun N hN => ?_) ?_
    · walk_at "rd"
      refine ⟨w, zs, vs, rfl, hw6, hne, hits6, by omega, fun H7 e7 => ?_⟩
      walk_at "rd"
      refine ⟨⟨_, rfl⟩, ?_⟩
      walk_at "rd"
      have := sum_len (n := 100) zs fun y hy => (hf6 y hy).2.1
      refine ⟨_, w, zs, rfl, rfl, .inl (SqL.of (e7 _ _ hw6)), by rw [show (Str.ofString " ").length = 1 from rfl]; omega, ?_⟩
      walk_at "rd"
      refine .inl ⟨zs, vs, rfl, hne, hits6, by omega, fun j hj t H8 e8 h8 => ?_, fun ws hws t H8 e8 hv => ?_⟩
      · walk_at "rd"
        exact hN _ _ ⟨t, e7.trans e8, rfl, .inl ⟨j, hj, h8⟩⟩
      · walk_at "rd"
        exact hN _ _ ⟨t, e7.trans e8, rfl, .inr ⟨ws, hws, hv⟩⟩
    rintro σ' H7 ⟨t, e7, rfl, hcase⟩
    rcases hcase with ⟨j, hj, ht⟩ | ⟨ws, hws, hv⟩
    · rw [hj]
      walk_at "rd"
      refine ⟨rfl, _, rfl, ite_t (by simp [sv]) ?_⟩
      walk_at "rd"
      refine r_newT (sz_le (by simp)) fun t1 H8 ht1 e8 h8 => ?_
      refine r_neTup [.str "STOP", .int 0, .int _] [.str "STOP", .int 0, .int _] (e8 _ _ ht) h8 (.cons (.str _) (.cons (.int _) (.cons (.int _) .nil))) (.cons (.str _) (.cons (.int _) (.cons (.int _) .nil))) (stop_sh _) (stop_sh _) ?_
      rw [stop_eq]
      walk_at "rd"
      refine ite_f rfl ?_
      walk_at "rd"
      refine ⟨rfl, _, rfl, ite_f (by simp [sv]) ?_⟩
      exact hnx (e7.trans e8)
    · rw [hws]
      walk_at "rd"
      refine ⟨rfl, _, rfl, ite_f (by simp [sv]) ?_⟩
      refine ite_f rfl ?_
      walk_at "rd"
      refine ⟨rfl, _, rfl, ite_t (by simp [sv]) ?_⟩
      walk_at "rd"
      obtain ⟨d, m, d1, d3, m1, m9, hg0, hlen, hfine, rfl⟩ := GV.stp_inr hws
      have hi6 := hits6.its
      have lv : zs.length = vs.length := hi6.1
      have h0z : 0 < zs.length := List.length_pos_iff.mpr hne
      have hy0 : zs[0]? = some zs[0] := by simp
      generalize zs[0] = y0 at hy0
      have hmd : 1 * 1 ≤ m * d := Nat.mul_le_mul m1 d1
      obtain ⟨o0, _, hgo0, _, hv0⟩ := hi6.get hy0
      rw [hg0] at hgo0
      obtain ⟨rfl, zd⟩ := hv0 _ hgo0.symm
      have hw7 := e7 _ _ hw6
      refine ⟨V.ref w, rfl, 2, rfl, w, _, rfl, SqL.of hw7, fun D hD => ⟨D, rfl, ⟨_, SqL.of upd_same⟩, ?_⟩⟩
      rw [cut_two zs (by omega)]
      have eD : Ex H7 (upd H7 D (.lst ((zs.drop 2).map V.str))) := Ex.new hD
      have hD3 : (upd H7 D (.lst ((zs.drop 2).map V.str))) D = some (.lst ((zs.drop 2).map V.str)) := upd_same
      generalize upd H7 D (.lst ((zs.drop 2).map V.str)) = H8 at eD hD3 ⊢
      have ln : (GV.nums vs).length = zs.length - 2 := by simp [GV.nums, lv]
      refine r_lcM (n := (zs.drop 2).length) (k := 9) (by simpa using walk_list (xs := (zs.drop 2).map V.str)) (fun j => .int ((GV.nums vs).getD j 0)) (by simp; omega) (fun H' e => SqL.of (e _ _ hD3)) (fun _ => rfl) ?_ ?_
      · rintro j y H9 H10 hj e9 ⟨rfl, hy⟩
        refine ⟨Ex.refl _, fun H11 e11 R kR => ?_⟩
        rw [List.length_drop] at hj
        have hyj : zs[2 + j]? = some (zs[2 + j]'(by omega)) := by simp
        have hy' : y = .str (zs[2 + j]'(by omega)) := by
          rw [← List.map_drop, List.getElem?_map, List.getElem?_drop, hyj] at hy
          exact (Option.some.inj hy).symm
        generalize (zs[2 + j]'(by omega)) = z at hyj hy'
        subst hy'
        obtain ⟨o, ho, hgo, hbo, hv'⟩ := hi6.get hyj
        have hso := hfine (2 + j) (by omega) (by omega)
        rw [hgo] at hso
        cases o with
        | none => cases hso
        | some c =>
          obtain ⟨rfl, hc⟩ := hv' c rfl
          have en : (GV.nums vs).getD j 0 = c := by
            rw [List.getD_eq_getElem?_getD, GV.nums, List.getElem?_map, List.getElem?_drop, ho]
            rfl
          rw [en] at kR
          have lc := nS_len (k := 60) (by decide) hc
          walk_at "rd"
          exact ⟨_, c, rfl, nS_int (Nat.lt_of_lt_of_le hc (Nat.pow_le_pow_right (by decide) (by decide))), by omega, kR _ (Ex.refl _)⟩
      · intro N9 H9 hN9 e9 h9
        have hT9 : H9 N9 = some (.lst ((GV.nums vs).map V.int)) := by
          have := range_map (GV.nums vs)
          rw [ln] at this
          rw [h9, List.length_drop, this]
        have e79 := eD.trans e9
        walk_at "rd"
        refine r_ixL (e79 _ _ hw7) (v := .str (nS d)) (atI_nat (j := 0) (by rw [List.getElem?_map, hy0]; rfl)) ?_
        walk_at "rd"
        have ld := nS_len (k := 60) (by decide) zd
        refine ⟨_, d, rfl, nS_int (Nat.lt_of_lt_of_le zd (Nat.pow_le_pow_right (by decide) (by decide))), by omega, ?_⟩
        walk_at "rd"
        refine r_newT (sz_le (by simp)) fun t9 H10 ht9 e10 h10 => ?_
        refine r_gTup h10 rfl (r_gCons (r_gName (r_gCons (r_gName (r_gNil ?_)))))
        walk_at "rd"
        have hT10 := e10 _ _ hT9
        refine r_lenL hT10 ?_
        rw [List.length_map, ln, show zs.length - 2 = m * d by omega]
        walk_at "rd"
        refine ⟨0, _, _, m, rfl, rgc d1 d3 m9, ?_⟩
        refine r_lcLs (n := m) (k := 10) walk_rangeC (fun i => (((GV.nums vs).drop (i * d)).take d).map V.int) (by omega) (fun _ _ => trivial) (fun _ => rfl) ?_ ?_
        · rintro i' y H11 H12 hi' e11 ⟨rfl, rfl⟩
          refine ⟨Ex.refl _, fun R kR => ?_⟩
          have e1' : (i' + 1) * d = i' * d + d := Nat.succ_mul i' d
          have e9' : (i' + 1) * d ≤ m * d := Nat.mul_le_mul_right d hi'
          refine ⟨V.ref N9, rfl, _, rfl, _, rfl, _, rfl, _, rfl, _, _, rfl, rfl, _, rfl, N9, _, rfl, SqL.of (e11 _ _ hT10), fun l hl => ?_⟩
          have ea : ((0 : Int) + (i' : Nat) * (d : Nat)) = ((i' * d : Nat) : Int) := by push_cast; omega
          have eb : (((i' * d : Nat) : Int) + (d : Nat)) = ((i' * d + d : Nat) : Int) := by push_cast; rfl
          rw [ea, eb, cut_mid _ _ _ (by omega)]
          exact kR l _ (Ex.new hl) hl upd_same
        · intro U us H11 hU e11 h11 hlen11 hnd11 hnew11 hrow11
          have la11 : LA H11 us (GV.rowsIn vs d m) := by
            have := la_rows hlen11 hrow11
            have e : (List.range m).map (fun i => ((GV.nums vs).drop (i * d)).take d) = GV.rowsIn vs d m := by
              refine List.map_congr_left fun i' hi' => ?_
              have hin := List.mem_range.mp hi'
              have e9' : (i' + 1) * d ≤ m * d := Nat.mul_le_mul_right d hin
              exact (GV.rowAt_nums (by omega)).symm
            rwa [e] at this
          have e711 := (e79.trans e10).trans e11
          walk_at "rd"
          refine r_Is (hv.ex e711) h11 la11 (fun r hr c hc => rows_lt hi6 r hr c hc) fun H12 e12 => ?_
          refine ⟨_, rfl, ite_f rfl ?_⟩
          walk_at "rd"
          exact hnx ((e7.trans e711).trans e12)
  · rintro σ' H3 ⟨s3, s4, s5, s6, s7, s8, s9, s10, rfl, g3, b3, h3⟩
    walk_at "rd"
    exact k H3 g3 (b3.le (by omega))

end K31
namespace K31
open PySem PySem.Spec PyProof.Rows L2 GS TL
local macro_rules | `(tactic| walk_at "rd") => `(tactic| (repeat (first
  | with_reducible refine r_next ?_
  | with_reducible refine r_seq ?_
  | with_reducible refine r_ret ?_
  | with_reducible refine r_ifS ?_
  | with_reducible refine r_asg ?_
  | with_reducible refine r_drop ?_
  | with_reducible refine r_op ?_
  | with_reducible refine r_un ?_
  | with_reducible refine r_cbInt ?_
  | with_reducible refine r_cbAbs ?_
  | with_reducible refine r_cbLen ?_
  | with_reducible refine r_cbList ?_
  | with_reducible refine r_cbTup ?_
  | with_reducible refine r_iEnT ?_
  | with_reducible refine r_iEnL ?_
  | with_reducible refine r_zipA ?_
  | with_reducible refine r_zipX ?_
  | with_reducible refine r_augS ?_
  | with_reducible refine r_cb ?_
  | with_reducible refine r_call ?_
  | with_reducible refine r_make ?_
  | with_reducible refine r_callN0 ?_
  | with_reducible refine r_makeK0 ?_
  | with_reducible refine r_makeS ?_
  | with_reducible refine r_callS ?_
  | with_reducible refine r_cons ?_
  | with_reducible refine r_nil ?_
  | with_reducible refine r_test ?_
  | with_reducible refine r_B ?_
  | with_reducible refine r_and ?_
  | with_reducible refine r_or ?_
  | with_reducible refine r_not ?_
  | with_reducible refine r_andV ?_
  | with_reducible refine r_orV ?_
  | with_reducible refine r_notV ?_
  | with_reducible refine r_if ?_
  | with_reducible refine r_tup ?_
  | with_reducible refine r_lst ?_
  | with_reducible refine r_c ?_
  | with_reducible refine r_lc ?_
  | with_reducible refine r_chain ?_
  | with_reducible refine r_iT ?_
  | with_reducible refine r_iL ?_
  | with_reducible refine r_iR1 ?_
  | with_reducible refine r_iR2 ?_
  | with_reducible refine r_iR3 ?_
  | with_reducible refine r_asgG ?_
  | with_reducible refine r_gSub ?_
  | with_reducible refine r_for ?_
  | with_reducible refine r_smeth ?_
  | with_reducible refine r_par ?_
  | with_reducible refine r_parK ?_
  | with_reducible refine r_gCons ?_
  | with_reducible refine r_gNil ?_
  | with_reducible refine r_gName ?_
  | with_reducible refine r_intI ?_
  | with_reducible refine r_intB ?_
  | with_reducible refine r_absI ?_
  | with_reducible refine r_k ?_
  | with_reducible refine r_kV ?_
  | ((with_reducible show tVar _ _ _ _); refine r_var3 ?_ (by rfl))
  | with_reducible refine r_I0 ?_
  | with_reducible refine r_U ?_
  | with_reducible refine r_eqI ?_
  | with_reducible refine r_neI ?_
  | with_reducible refine r_F ?_
  | dsimp only)))
local macro_rules | `(tactic| walk_at "rx") => `(tactic| (repeat (first
  | with_reducible refine r_next ?_
  | with_reducible refine r_ret ?_
  | with_reducible refine r_ifS ?_
  | with_reducible refine r_asg ?_
  | with_reducible refine r_drop ?_
  | with_reducible refine r_op ?_
  | with_reducible refine r_un ?_
  | with_reducible refine r_cbInt ?_
  | with_reducible refine r_cbAbs ?_
  | with_reducible refine r_cbLen ?_
  | with_reducible refine r_cbList ?_
  | with_reducible refine r_cbTup ?_
  | with_reducible refine r_iEnT ?_
  | with_reducible refine r_iEnL ?_
  | with_reducible refine r_zipA ?_
  | with_reducible refine r_zipX ?_
  | with_reducible refine r_augS ?_
  | with_reducible refine r_cb ?_
  | with_reducible refine r_call ?_
  | with_reducible refine r_make ?_
  | with_reducible refine r_callN0 ?_
  | with_reducible refine r_makeK0 ?_
  | with_reducible refine r_makeS ?_
  | with_reducible refine r_callS ?_
  | with_reducible refine r_cons ?_
  | with_reducible refine r_nil ?_
  | with_reducible refine r_test ?_
  | with_reducible refine r_B ?_
  | with_reducible refine r_and ?_
  | with_reducible refine r_or ?_
  | with_reducible refine r_not ?_
  | with_reducible refine r_andV ?_
  | with_reducible refine r_orV ?_
  | with_reducible refine r_notV ?_
  | with_reducible refine r_if ?_
  | with_reducible refine r_tup ?_
  | with_reducible refine r_lst ?_
  | with_reducible refine r_c ?_
  | with_reducible refine r_lc ?_
  | with_reducible refine r_chain ?_
  | with_reducible refine r_iT ?_
  | with_reducible refine r_iL ?_
  | with_reducible refine r_iR1 ?_
  | with_reducible refine r_iR2 ?_
  | with_reducible refine r_iR3 ?_
  | with_reducible refine r_asgG ?_
  | with_reducible refine r_gSub ?_
  | with_reducible refine r_for ?_
  | with_reducible refine r_smeth ?_
  | with_reducible refine r_par ?_
  | with_reducible refine r_parK ?_
  | with_reducible refine r_gCons ?_
  | with_reducible refine r_gNil ?_
  | with_reducible refine r_gName ?_
  | with_reducible refine r_intI ?_
  | with_reducible refine r_intB ?_
  | with_reducible refine r_absI ?_
  | with_reducible refine r_k ?_
  | with_reducible refine r_kV ?_
  | ((with_reducible show tVar _ _ _ _); refine r_var3 ?_ (by rfl))
  | with_reducible refine r_I0 ?_
  | with_reducible refine r_U ?_
  | with_reducible refine r_eqI ?_
  | with_reducible refine r_neI ?_
  | with_reducible refine r_F ?_
  | dsimp only)))
/-! ### what is refused -/
def BadV (K : PySem.W.Frag) (H : Hp) (v : V) : Prop := RowB K H v false ∨ ∃ xs os, Sq H v xs ∧ RIts K H xs os ∧ xs.length ≤ 1000 ∧ (∀ r ∈ rowsOf os, ∀ c ∈ r, Z 5000 c) ∧ GV.shB os = false
theorem BadV.ex {K : PySem.W.Frag} {H H' : Hp} {v : V} (h : BadV K H v) (e : Ex H H') : BadV K H' v := by
  rcases h with h | ⟨xs, os, h1, h2, h3⟩
  · exact .inl (h.ex e)
  · exact .inr ⟨xs, os, h1.ex e, h2.ex e, h3⟩
theorem RIts.nil {K : PySem.W.Frag} {H : Hp} : RIts K H [] [] := ⟨rfl, fun j x o h => by simp at h⟩
theorem RIts.cons {K : PySem.W.Frag} {H : Hp} {x : V} {xs : List V} {o : Option (List Int)} {os : List (Option (List Int))} (h : RIt K H x o) (g : RIts K H xs os) : RIts K H (x :: xs) (o :: os) := by
  refine ⟨by simp [g.1], fun j y u h1 h2 => ?_⟩
  cases j with
  | zero => cases h1; cases h2; exact h
  | succ j => exact g.2 j y u (by simpa using h1) (by simpa using h2)
theorem RIts.app {K : PySem.W.Frag} {H : Hp} {xs ys : List V} {os us : List (Option (List Int))} (h : RIts K H xs os) (g : RIts K H ys us) : RIts K H (xs ++ ys) (os ++ us) := by
  refine ⟨by simp [h.1, g.1], fun j x o h1 h2 => ?_⟩
  rcases Nat.lt_or_ge j xs.length with c | c
  · rw [List.getElem?_append_left c] at h1
    rw [List.getElem?_append_left (by rw [← h.1]; exact c)] at h2
    exact h.2 j x o h1 h2
  · rw [List.getElem?_append_right c] at h1
    rw [List.getElem?_append_right (by rw [← h.1]; exact c), ← h.1] at h2
    exact g.2 _ x o h1 h2
theorem rit_sc {K : PySem.W.Frag} {H : Hp} {v : V} (T : String) (h : TyOf K H v (.type T)) (hT : T ∈ tys := by decide) (hn : (T == "list" || T == "tuple") = false := by decide) : RIt K H v none := .inl (.inl ⟨T, hT, h, hn.symm⟩)
theorem rit_l {K : PySem.W.Frag} {H : Hp} {t : Addr} {r : List Int} (h : H t = some (.lst (r.map V.int))) (hl : r.length ≤ 1000) : RIt K H (.ref t) (some r) := ⟨hl, t, rfl, .inl h⟩
theorem rit_no {K : PySem.W.Frag} {H : Hp} {t : Addr} {ys : List V} (h : H t = some (.lst ys)) (hl : ys.length ≤ 1000) (hk : ∀ y ∈ ys, Kn K H y) (hn : ys.all isI = false) : RIt K H (.ref t) none := .inr ⟨ys, ⟨t, rfl, .inl h⟩, by omega, hk, hn⟩
theorem bad_sc {K : PySem.W.Frag} {H : Hp} {v : V} (T : String) (h : TyOf K H v (.type T)) (hT : T ∈ tys := by decide) (hn : (T == "list" || T == "tuple") = false := by decide) : BadV K H v := .inl (.inl ⟨T, hT, h, hn.symm⟩)
theorem bad_l {K : PySem.W.Frag} {H : Hp} {t : Addr} {xs : List V} {os : List (Option (List Int))} (h : H t = some (.lst xs)) (hr : RIts K H xs os) (hl : xs.length ≤ 1000) (hz : ∀ r ∈ rowsOf os, ∀ c ∈ r, Z 5000 c) (hb : GV.shB os = false) : BadV K H (.ref t) := .inr ⟨xs, os, ⟨t, rfl, .inl h⟩, hr, hl, hz, hb⟩
theorem shB_none {os : List (Option (List Int))} (h : none ∈ os) : GV.shB os = false := by
  cases q : GV.shB os with
  | false => rfl
  | true =>
    have := List.all_eq_true.mp (GV.shB_all q) none h
    cases this
theorem shB_len {rs : List (List Int)} {r : List Int} (n : rs ≠ []) (h : r.length ≠ GV.wid rs) : GV.shB (rs.map some ++ [some r]) = false := by
  cases q : GV.shB (rs.map some ++ [some r]) with
  | false => rfl
  | true =>
    have sh := GV.shB_shR q
    have e : (rs.map some ++ [some r]).map (fun o => o.getD []) = rs ++ [r] := by
      rw [List.map_append, List.map_map]
      congr 1
      exact List.map_id' rs
    rw [e] at sh
    have hw : GV.wid (rs ++ [r]) = GV.wid rs := by cases rs with | nil => exact absurd rfl n | cons a l => rfl
    have := sh.2.2.2.2 r (List.mem_append_right _ (List.mem_singleton.mpr rfl))
    rw [hw] at this
    exact absurd this h
theorem dkeep {H Hk Hn : Hp} {p a : Addr} {n : Int} {o : HO} (hb : Bag H p n) (e : Ex H Hk) (hk : Hk a = none) (h : Hn a = some o) : (del Hn p) a = some o := by
  rw [del_ne]
  · exact h
  · rintro rfl
    obtain ⟨L, xs, x, y, h1, _⟩ := hb.is
    have := e _ _ h1
    rw [hk] at this
    cases this
theorem dkeep2 {H Hk Hn : Hp} {p q a : Addr} {n : Int} {o u : HO} (hb : Bag H p n) (hq : H q = some u) (e : Ex H Hk) (hk : Hk a = none) (h : Hn a = some o) : (del (del Hn p) q) a = some o := by
  rw [del_ne]
  · exact dkeep hb e hk h
  · rintro rfl
    have := e _ _ hq
    rw [hk] at this
    cases this
theorem ex_del {H H' : Hp} {p : Addr} (e : Ex H H') : Ex (del H p) (del H' p) := fun a o h => by
  by_cases c : a = p
  · subst c; rw [del_same] at h; cases h
  · rw [del_ne c] at h ⊢; exact e _ _ h
theorem ex_del0 {H : Hp} {p : Addr} : Ex (del H p) H := fun a o h => by
  by_cases c : a = p
  · subst c; rw [del_same] at h; cases h
  · rw [del_ne c] at h; exact h
theorem ex_delF {H H' : Hp} {q : Addr} (e : Ex H H') (h : H q = none) : Ex H (del H' q) := fun a o ha => by
  rw [del_ne (ne_of_none ha h)]
  exact e _ _ ha
theorem ex_bg {HB H H' : Hp} {p : Addr} (e : Ex HB H) (h : HB p = none) (g : Bg p H H') : Ex HB H' := fun a o ha => g.at_ (ne_of_none ha h) (e _ _ ha)
theorem ex_dd {H : Hp} {p q : Addr} {o : HO} : Ex (del (del H p) q) (upd H q o) := fun a u h => by
  by_cases c : a = q
  · subst c; rw [del_same] at h; cases h
  · rw [del_ne c] at h
    rw [upd_ne c]
    exact ex_del0 _ _ h
theorem cut_tl (ns : List Int) : cutV (ns.map V.int) (some 1) none = (ns.drop 1).map V.int := by
  unfold cutV
  rw [HT.sIx_none, show (1 : Int) = ((1 : Nat) : Int) from rfl, HT.sIx_nat, List.length_map, List.take_of_length_le (by simp)]
  cases ns with
  | nil => rfl
  | cons a l => simp
theorem la_del {H : Hp} {p : Addr} {n : Int} {ts : List Addr} {rs : List (List Int)} (h : LA H ts rs) (hb : Bag H p n) : LA (del H p) ts rs := ⟨h.1, fun j t r h1 h2 => by
  have := h.2 j t r h1 h2
  rw [del_ne (hb.ne this fun L x y z => ?_)]
  · exact this
  · injection z with z
    cases r with
    | nil => cases z
    | cons a r => injection z with z1; cases z1⟩
theorem made_bad {K : PySem.W.Frag} {H : Hp} {Q : VK} {E : XK} {v : V} (h : BadV K H v) (q : Two "BAD" "rows" H Q) : spMade K ([v] ++ []) H Q E := by
  rcases h with h | ⟨xs, os, h1, h2, h3, h4, h5⟩
  · exact .inl ⟨h, q⟩
  · exact .inr ⟨xs, os, h1, h2, h3, h4, fun _ => q, fun z => by (rw [h5] at z; cases z), fun z => by (rw [h5] at z; cases z)⟩
theorem r_neTwo {K : PySem.W.Frag} {H : Hp} {Q : VK} {p q : Addr} (a b : Str) (ok : PyData.strOk a = true ∧ PyData.strOk b = true) (h1 : H p = some (.tup [.str a, .str b])) (h2 : H q = some (.tup [.str a, .str b])) (k : Q (.bl false) H) : rNeD K (.ref p) (.ref q) H Q := by
  have e : PyData.eqvAll [.str a, .str b] [.str a, .str b] = true := by simp [PyData.eqvAll, PyData.eqv]
  have s : SeqAt.shaped (.tuple [.str a, .str b]) = true := by
    show (PyData.canLayAll0 [.str a, .str b] && decide (PyData.depthAll [.str a, .str b] + 1 ≤ 64)) = true
    have h1 : PyData.canLayAll0 [.str a, .str b] = true := by simp [PyData.canLayAll0, PyData.canLay0, ok.1, ok.2]
    have h2 : PyData.depthAll [.str a, .str b] = 0 := by simp [PyData.depthAll, PyData.depth]
    rw [h1, h2]
    rfl
  refine r_neTup [.str a, .str b] [.str a, .str b] h1 h2 (.cons (.str _) (.cons (.str _) .nil)) (.cons (.str _) (.cons (.str _) .nil)) s s ?_
  rw [e]
  exact k
theorem made_no {K : PySem.W.Frag} {H : Hp} {Q : VK} {E : XK} {p : Addr} {cs : List Addr} {rs : List (List Int)} (hp : H p = some (.lst (cs.map V.ref))) (hla : LA H cs rs) (sh : GV.shR rs) (hz : rz rs) (hup : GV.upB rs = false) (q : Two "MISFIT" "sum" H Q) : spMade K ([.ref p] ++ []) H Q E :=
  .inr ⟨cs.map V.ref, rs.map some, ⟨p, rfl, .inl hp⟩, hla.rits sh, by rw [List.length_map, hla.1]; have := sh.2.1; omega, by rw [rows_some]; exact hz.z, fun z => by (rw [GV.shB_some sh] at z; cases z), fun _ _ => q, fun _ z => by (rw [rows_some, hup] at z; cases z)⟩
theorem made_ok {K : PySem.W.Frag} {H : Hp} {Q : VK} {E : XK} {p : Addr} {cs : List Addr} {rs : List (List Int)} (hp : H p = some (.lst (cs.map V.ref))) (hla : LA H cs rs) (sh : GV.shR rs) (hz : rz rs) (hup : GV.upB rs = true) (q : ∀ t H', Ex H H' → Vec K H' t rs → Q (.ref t) H') : spMade K ([.ref p] ++ []) H Q E :=
  .inr ⟨cs.map V.ref, rs.map some, ⟨p, rfl, .inl hp⟩, hla.rits sh, by rw [List.length_map, hla.1]; have := sh.2.1; omega, by rw [rows_some]; exact hz.z, fun z => by (rw [GV.shB_some sh] at z; cases z), fun _ z => by (rw [rows_some, hup] at z; cases z), fun _ _ t H' _ e hv => q t H' e (by rw [rows_some] at hv; exact hv)⟩
theorem read_txt {K : PySem.W.Frag} {H : Hp} {Q : VK} {E : XK} {z : Str} {ys : List Str} {vs : List (Option Int)} {j : Nat} (e : z = Txt.join (Str.ofString " ") ys) (hne : ys ≠ []) (hits : Its ys vs) (hl : ys.length ≤ 100) (hst : GV.stp vs (decide (ys[1]? = some (Str.ofString ":"))) = .inl j) (q : StopT j H Q) : spRead K ([.str z] ++ []) H Q E :=
  .inl ⟨ys, vs, by rw [e], hne, hits, hl, fun i hi => by (rw [hst] at hi; cases hi; exact q), fun rs h => by (rw [hst] at h; cases h)⟩
theorem r_neStop {K : PySem.W.Frag} {H : Hp} {Q : VK} {p q : Addr} {n : Int} (h1 : H p = some (.tup [.str "STOP", .int 0, .int n])) (h2 : H q = some (.tup [.str "STOP", .int 0, .int n])) (k : Q (.bl false) H) : rNeD K (.ref p) (.ref q) H Q := by
  refine r_neTup [.str "STOP", .int 0, .int n] [.str "STOP", .int 0, .int n] h1 h2 (.cons (.str _) (.cons (.int _) (.cons (.int _) .nil))) (.cons (.str _) (.cons (.int _) (.cons (.int _) .nil))) (stop_sh _) (stop_sh _) ?_
  rw [stop_eq]
  exact k
theorem r_eqStop {K : PySem.W.Frag} {H : Hp} {Q : VK} {p q : Addr} {n : Int} (h1 : H p = some (.tup [.str "STOP", .int 0, .int n])) (h2 : H q = some (.tup [.str "STOP", .int 0, .int n])) (k : Q (.bl true) H) : rEqD K (.ref p) (.ref q) H Q := by
  refine ⟨_, _, .tup (SqT.of h1) (.cons (.str _) (.cons (.int _) (.cons (.int _) .nil))), .tup (SqT.of h2) (.cons (.str _) (.cons (.int _) (.cons (.int _) .nil))), stop_sh n, stop_sh n, ?_⟩
  show Q (.bl (PyData.eqvAll [.str "STOP", .int 0, .int n] [.str "STOP", .int 0, .int n])) H
  rw [stop_eq]
  exact k
/-- no text -/
def NS (K : PySem.W.Frag) (H : Hp) (v : V) : Prop := (∃ T0 ∈ tys, kitB T0 "str" = some false ∧ TyOf K H v (.type T0)) ∨ Own K H v
theorem NS.ex {K : PySem.W.Frag} {H H' : Hp} {v : V} (h : NS K H v) (e : Ex H H') : NS K H' v := by
  rcases h with ⟨T0, h1, h2, h3⟩ | h
  · exact .inl ⟨T0, h1, h2, TyOf.ex' h3 fun a _ o q => e a o q⟩
  · exact .inr (h.ex e)
theorem NS.kit {K : PySem.W.Frag} {mg : Str → Option Value} {H : Hp} {v : V} (T : Txt K mg) (h : NS K H v) : ∃ t, TyX K H v t ∧ PySem.W.kitOne K t (.type "str") = some false := by
  rcases h with ⟨T0, h1, h2, h3⟩ | ⟨a, C, dx, fs, rfl, hC, b⟩
  · exact ⟨_, .base h3, kit_ty h2⟩
  · exact ⟨_, ty_own T hC b, ((own_facts T hC).2.ty "str" (by decide)).2.1⟩
def rep9 : List (List Int) := (List.range 9).map fun _ => [1]
theorem rep9_ok : GV.shR rep9 ∧ GV.upB rep9 = true ∧ rz rep9 := ⟨⟨by decide, by decide, by decide, by decide, by decide⟩, by decide, fun r hr c hc => by
  obtain ⟨_, _, rfl⟩ := List.mem_map.mp hr
  rw [List.mem_singleton.mp hc]
  decide⟩
def mis3 : List (List Int) := [[1, 1], [1, -1], [1, 0]]
theorem mis3_ok : GV.shR mis3 ∧ GV.upB mis3 = false ∧ rz mis3 := ⟨⟨by decide, by decide, by decide, by decide, by decide⟩, by decide, fun r hr c hc => by
  have : ∀ r ∈ mis3, ∀ c ∈ r, c.natAbs < 10 := by decide
  exact Nat.lt_of_lt_of_le (this r hr c hc) (by decide)⟩
theorem zero_ok {m d : Nat} (m1 : 1 ≤ m) (m9 : m ≤ 9) (d1 : 1 ≤ d) (d3 : d ≤ 3) : GV.shR (GV.matN (fun _ _ => 0) m d) ∧ GV.upB (GV.matN (fun _ _ => 0) m d) = false ∧ rz (GV.matN (fun _ _ => 0) m d) := by
  have hr : ∀ r ∈ GV.matN (fun _ _ => 0) m d, r = List.replicate d (0 : Int) := fun r h => by
    obtain ⟨_, _, rfl⟩ := List.mem_map.mp h
    exact List.eq_replicate_iff.mpr ⟨by simp, fun b hb => by obtain ⟨_, _, rfl⟩ := List.mem_map.mp hb; rfl⟩
  have hl : (GV.matN (fun _ _ => 0) m d).length = m := by simp [GV.matN]
  have hs : GV.shE d (GV.matN (fun _ _ => 0) m d) := ⟨by omega, fun r h => by rw [hr r h]; simp⟩
  obtain ⟨sh, _⟩ := hs.sh d1 d3 (by intro z; rw [z] at hl; simp at hl; omega)
  refine ⟨sh, ?_, fun r h c hc => ?_⟩
  · rw [Bool.eq_false_iff]
    intro z
    have := ((GV.up_iff _).mp z).1
    have h0 : GV.tot (GV.matN (fun _ _ => 0) m d) = 0 := by
      rw [← GV.tot_sq]
      have : ∀ l : List (List Int), (∀ r ∈ l, r = List.replicate d (0 : Int)) → (l.map fun r => r.getD 0 0 * r.getD 0 0).sum = 0 := by
        intro l
        induction l with
        | nil => intro _; rfl
        | cons r l ih =>
          intro h
          rw [List.map_cons, List.sum_cons, ih fun r m => h r (List.mem_cons_of_mem _ m), h r List.mem_cons_self]
          have : (List.replicate d (0 : Int)).getD 0 0 = 0 := by rw [List.getD_eq_getElem?_getD, List.getElem?_replicate]; split <;> rfl
          rw [this]
          rfl
      exact this _ hr
    omega
  · rw [hr r h] at hc
    rw [List.eq_of_mem_replicate hc]
    decide
def spOR (K : PySem.W.Frag) : Sp := sp2 fun b u H Q _ => ∃ (p : Addr) (n : Int) (L : Addr) (cs : List Addr) (rs : List (List Int)), b = .ref p ∧ u = .ref L ∧ H L = some (.lst (cs.map V.ref)) ∧ LA H cs rs ∧ GV.okR rs ∧ clZ rs ∧ n ≤ 80000 ∧ Bag H p n ∧ ∀ H', Q (.bl true) H'
theorem ok__law_odd_right {P : Program} {w : World} {K : PySem.W.Frag} {mg : Str → Option Value} {base : Heap} (T : Txt K mg) : ∃ fd, FnOk P w K mg base (L2.CX P w) 8 (He.ga K "_law_odd_right") fd ["loom", "rows"] (spOR K) ∧ Binds K fd ["loom", "rows"] [] := by
  obtain ⟨fd, F⟩ := T.d__law_odd_right
  obtain ⟨fd__law_read, F__law_read, B__law_read⟩ := ok__law_read (P := P) (w := w) (base := base) T
  obtain ⟨fd_Vectors_init, F_Vectors_init, B_Vectors_init, kb_Vectors_init_0⟩ := ok_Vectors_init (P := P) (w := w) (base := base) T
  obtain ⟨fd__law_is, F__law_is, B__law_is⟩ := ok__law_is (P := P) (w := w) (base := base) T
  obtain ⟨fd__law_made, F__law_made, B__law_made⟩ := ok__law_made (P := P) (w := w) (base := base) T
  obtain ⟨fd__law_weft, F__law_weft, B__law_weft⟩ := ok__law_weft (P := P) (w := w) (base := base) T
  obtain ⟨fd__law_thread, F__law_thread, B__law_thread⟩ := ok__law_thread (P := P) (w := w) (base := base) T
  refine ⟨fd, F.ok sc__law_odd_right sp2_len (fun cdv A outer s H vs Q E hr h => ?_), F.bindsN fun _ _ _ _ _ _ us hl => match us, hl with | [_, _], _ => rfl⟩
  have hr__law_read : Room 7 _ := hr.mono (by decide)
  have hr_Vectors_init : Room 5 _ := hr.mono (by decide)
  have hr__law_is : Room 7 _ := hr.mono (by decide)
  have hr__law_made : Room 6 _ := hr.mono (by decide)
  have hr__law_weft : Room 1 _ := hr.mono (by decide)
  have hr__law_thread : Room 2 _ := hr.mono (by decide)
  obtain ⟨b0, u0, rfl, p, n, L, cs, rs, rfl, rfl, hL, hla, hok, hcl, hn, hb, k⟩ := sp2_is h
  refine ⟨_, (pss_cons (ps_asg (pe_tup (pa_cons (pe_ix (kx_ixl rfl) (pv 1) pe_int (fun _ _ => rfl)) (pa_cons (pe_callB (kx_lens rfl) (by rfl) T.b_len PySem.boot_len (pa_cons (pe_ix (kx_ixl rfl) (pv 1) pe_int (fun _ _ => rfl)) pa_nil)) pa_nil))) (pg_tup rfl (pgs_cons (pg_name (i := 2) sc__law_odd_right.nd rfl (Or.inl rfl)) (pgs_cons (pg_name (i := 3) sc__law_odd_right.nd rfl (Or.inr rfl)) pgs_nil))))
      (pss_cons (ps_set (i := 4) sc__law_odd_right.nd rfl (Or.inl rfl) (pe_lst (pa_cons pe_non (pa_cons pe_int (pa_cons pe_str (pa_cons (pe_lst pa_nil) (pa_cons (pe_tup pa_nil) (pa_cons (pe_lst (pa_cons (pe_lst pa_nil) pa_nil)) (pa_cons (pe_lst (pa_cons (pe_lst pa_nil) (pa_cons (pe_lst pa_nil) pa_nil))) (pa_cons (pe_lst (pa_cons (pe_lst (pa_cons pe_int (pa_cons pe_int (pa_cons pe_int (pa_cons pe_int pa_nil))))) (pa_cons (pe_lst (pa_cons pe_int (pa_cons pe_int (pa_cons pe_int (pa_cons pe_int pa_nil))))) (pa_cons (pe_lst (pa_cons pe_int (pa_cons pe_int (pa_cons pe_int (pa_cons pe_int pa_nil))))) (pa_cons (pe_lst (pa_cons pe_int (pa_cons pe_int (pa_cons pe_int (pa_cons pe_int pa_nil))))) pa_nil))))) (pa_cons (pe_lc (own := [("turn", 5)]) (g := gName 5) (tt := tYes)  rfl sc__law_odd_right.nd (pi_range1 (by rfl) T.b_range (pa_cons pe_int pa_nil)) (blkOk_by (own := [("turn", 5)]) (N := ["loom", "rows", "row", "one", "bad", "turn", "spoilt", "each", "value", "zero", "spot"]) (sc := defScope s__law_odd_right) (by decide +kernel)) (fun _ _ _ _ _ => (pg_name (i := 5) sc__law_odd_right.nd rfl (Or.inl rfl))) (fun _ _ _ _ _ => pts_nil) (fun _ _ _ _ _ => (pe_lst (pa_cons pe_int pa_nil)))) pa_nil)))))))))))
      (pss_cons (ps_expr (pe_bm PySem.F.plainAttrs_list PySem.F.slot_list_extend PySem.F.type_list_extend mt_extend (pv 4) (pa_cons (pe_lst (pa_cons (pe_lst (pa_cons pe_int (pa_cons pe_int pa_nil))) (pa_cons (pe_disp (pps_cons pe_int (pe_lst (pa_cons pe_int pa_nil)) pps_nil) (by rfl) (by rfl) (fun z => by cases z) (by decide)) (pa_cons (pe_lst (pa_cons pe_str pa_nil)) (pa_cons (pe_lst (pa_cons pe_non pa_nil)) (pa_cons (pe_lst (pa_cons (pe_lst (pa_cons pe_bl pa_nil)) pa_nil)) (pa_cons (pe_lst (pa_cons (pe_lst (pa_cons pe_int pa_nil)) (pa_cons (pe_lst (pa_cons pe_bl pa_nil)) pa_nil))) (pa_cons (pe_op op_cat (pv 1) (pe_lst (pa_cons (pe_op op_cat (pv 2) (pe_lst (pa_cons pe_int pa_nil))) pa_nil))) (pa_cons (pe_op op_cat (pv 1) (pe_lst (pa_cons (pe_slice sl_list (pv 2) (po_some pe_int) po_none) pa_nil))) (pa_cons (pe_lst (pa_cons (pv 2) (pa_cons (pe_op op_mulS pe_str (pv 3)) pa_nil))) (pa_cons (pe_make T.mk_Vectors F_Vectors_init hr_Vectors_init (by rfl) T.g_Vectors B_Vectors_init .nil passL (pa_cons (pv 1) pa_nil)) pa_nil))))))))))) pa_nil)))
      (pss_cons (ps_setLc (i := 6) (own := [("each", 7)]) (g := gName 7) (tt := tYes)  rfl sc__law_odd_right.nd rfl rfl (sw_true rfl rfl rfl (by decide +kernel)) (pi_list (pv 1)) (blkOk_by (own := [("each", 7)]) (N := ["loom", "rows", "row", "one", "bad", "turn", "spoilt", "each", "value", "zero", "spot"]) (sc := defScope s__law_odd_right) (by decide +kernel)) (fun _ _ _ _ _ => (pg_name (i := 7) sc__law_odd_right.nd rfl (Or.inl rfl))) (fun _ _ _ _ _ => pts_nil) (fun _ _ _ _ _ => (pe_callTy (kx_listOf (K := K) rfl) (by rfl) T.b_list (by decide +kernel) (pa_cons (pv 7) pa_nil))))
      (pss_cons (ps_asg (pe_call F__law_thread hr__law_thread (by rfl) T.g__law_thread T.k__law_thread B__law_thread .nil passL (pa_cons (pv 0) (pa_cons (pe_lst (pa_cons pe_non (pa_cons pe_bl (pa_cons pe_bl (pa_cons pe_str (pa_cons (pe_lst (pa_cons pe_int pa_nil)) (pa_cons (pe_tup pa_nil) pa_nil))))))) pa_nil))) (pg_sub (pe_ix (kx_ixl rfl) (pv 6) (pe_call F__law_weft hr__law_weft (by rfl) T.g__law_weft T.k__law_weft B__law_weft .nil passL (pa_cons (pv 0) (pa_cons (pe_callB (kx_lens rfl) (by rfl) T.b_len PySem.boot_len (pa_cons (pv 1) pa_nil)) pa_nil))) (fun _ _ => rfl)) (pe_call F__law_weft hr__law_weft (by rfl) T.g__law_weft T.k__law_weft B__law_weft .nil passL (pa_cons (pv 0) (pa_cons (pv 3) pa_nil))) set_list))
      (pss_cons (ps_for (passes_of rfl) rfl (pi_list (pe_op op_cat (pv 4) (pe_lst (pa_cons (pv 6) (pa_cons (pe_op op_cat (pv 1) (pe_lst (pa_cons pe_int pa_nil))) (pa_cons (pe_op op_cat (pv 1) (pe_lst (pa_cons pe_non pa_nil))) pa_nil)))))) (pg_name (i := 8) sc__law_odd_right.nd rfl (Or.inl rfl)) (pss_one (ps_if (pt_cmpR (op_neD hr.units) (pe_call F__law_made hr__law_made (by rfl) T.g__law_made T.k__law_made B__law_made .nil passL (pa_cons (pv 8) pa_nil)) (pe_tup (pa_cons pe_str (pa_cons pe_str pa_nil))) (nomark _)) (pss_one (ps_ret pe_bl)) pss_nil)))
      (pss_cons (ps_setLc (i := 9) (own := [("turn", 5)]) (g := gName 5) (tt := tYes)  rfl sc__law_odd_right.nd rfl rfl (sw_true rfl rfl rfl (by decide +kernel)) (pi_range1 (by rfl) T.b_range (pa_cons (pe_op op_add pe_int (pe_call F__law_weft hr__law_weft (by rfl) T.g__law_weft T.k__law_weft B__law_weft .nil passL (pa_cons (pv 0) (pa_cons pe_int pa_nil)))) pa_nil)) (blkOk_by (own := [("turn", 5)]) (N := ["loom", "rows", "row", "one", "bad", "turn", "spoilt", "each", "value", "zero", "spot"]) (sc := defScope s__law_odd_right) (by decide +kernel)) (fun _ _ _ _ _ => (pg_name (i := 5) sc__law_odd_right.nd rfl (Or.inl rfl))) (fun _ _ _ _ _ => pts_nil) (fun _ _ _ _ _ => (pe_lc (own := [("spot", 10)]) (g := gName 10) (tt := tYes)  rfl sc__law_odd_right.nd (pi_range1 (by rfl) T.b_range (pa_cons (pv 3) pa_nil)) (blkOk_by (own := [("spot", 10)]) (N := ["loom", "rows", "row", "one", "bad", "turn", "spoilt", "each", "value", "zero", "spot"]) (by rfl)) (fun _ _ _ _ _ => (pg_name (i := 10) sc__law_odd_right.nd rfl (Or.inl rfl))) (fun _ _ _ _ _ => pts_nil) (fun _ _ _ _ _ => pe_int))))
      (pss_cons (ps_if (PW.pt (pw_or (pt_cmpR (op_neD hr.units) (pe_call F__law_made hr__law_made (by rfl) T.g__law_made T.k__law_made B__law_made .nil passL (pa_cons (pv 9) pa_nil)) (pe_tup (pa_cons pe_str (pa_cons pe_str pa_nil))) (nomark _)) (pw_or1 (pt_cmpR (op_neD hr.units) (pe_call F__law_made hr__law_made (by rfl) T.g__law_made T.k__law_made B__law_made .nil passL (pa_cons (pe_lst (pa_cons (pe_lst (pa_cons pe_int (pa_cons pe_int pa_nil))) (pa_cons (pe_lst (pa_cons pe_int (pa_cons (pe_un un_neg pe_int) pa_nil))) (pa_cons (pe_lst (pa_cons pe_int (pa_cons pe_int pa_nil))) pa_nil)))) pa_nil)) (pe_tup (pa_cons pe_str (pa_cons pe_str pa_nil))) (nomark _))))) (pss_one (ps_ret pe_bl)) pss_nil)
      (pss_cons (ps_if (pt_not (pt_val (pe_call F__law_is hr__law_is (by rfl) T.g__law_is T.k__law_is B__law_is .nil passL (pa_cons (pe_call F__law_made hr__law_made (by rfl) T.g__law_made T.k__law_made B__law_made .nil passL (pa_cons (pe_lc (own := [("turn", 5)]) (g := gName 5) (tt := tYes)  rfl sc__law_odd_right.nd (pi_range1 (by rfl) T.b_range (pa_cons pe_int pa_nil)) (blkOk_by (own := [("turn", 5)]) (N := ["loom", "rows", "row", "one", "bad", "turn", "spoilt", "each", "value", "zero", "spot"]) (sc := defScope s__law_odd_right) (by decide +kernel)) (fun _ _ _ _ _ => (pg_name (i := 5) sc__law_odd_right.nd rfl (Or.inl rfl))) (fun _ _ _ _ _ => pts_nil) (fun _ _ _ _ _ => (pe_lst (pa_cons pe_int pa_nil)))) pa_nil)) (pa_cons (pe_lc (own := [("turn", 5)]) (g := gName 5) (tt := tYes)  rfl sc__law_odd_right.nd (pi_range1 (by rfl) T.b_range (pa_cons pe_int pa_nil)) (blkOk_by (own := [("turn", 5)]) (N := ["loom", "rows", "row", "one", "bad", "turn", "spoilt", "each", "value", "zero", "spot"]) (sc := defScope s__law_odd_right) (by decide +kernel)) (fun _ _ _ _ _ => (pg_name (i := 5) sc__law_odd_right.nd rfl (Or.inl rfl))) (fun _ _ _ _ _ => pts_nil) (fun _ _ _ _ _ => (pe_lst (pa_cons pe_int pa_nil)))) pa_nil))))) (pss_one (ps_ret pe_bl)) pss_nil)
      (pss_cons (ps_for (passes_of rfl) rfl (pi_list (pe_lst (pa_cons pe_non (pa_cons pe_int (pa_cons pe_bl (pa_cons (pe_lst (pa_cons pe_str (pa_cons pe_str (pa_cons pe_str pa_nil)))) (pa_cons (pe_tup (pa_cons pe_str pa_nil)) (pa_cons (pe_make T.mk_Vectors F_Vectors_init hr_Vectors_init (by rfl) T.g_Vectors B_Vectors_init .nil passL (pa_cons (pv 1) pa_nil)) pa_nil)))))))) (pg_name (i := 8) sc__law_odd_right.nd rfl (Or.inl rfl)) (pss_one (ps_if (pt_cmpR (op_neD hr.units) (pe_call F__law_read hr__law_read (by rfl) T.g__law_read T.k__law_read B__law_read .nil passL (pa_cons (pv 8) pa_nil)) (pe_tup (pa_cons pe_str (pa_cons pe_int (pa_cons pe_int pa_nil)))) (nomark _)) (pss_one (ps_ret pe_bl)) pss_nil)))
      (pss_cons (ps_if (PW.pt (pw_or (pt_cmpR (op_neD hr.units) (pe_call F__law_read hr__law_read (by rfl) T.g__law_read T.k__law_read B__law_read .nil passL (pa_cons (pe_op op_add_str pe_str (pe_op op_mulS pe_str pe_int)) pa_nil)) (pe_tup (pa_cons pe_str (pa_cons pe_int (pa_cons pe_int pa_nil)))) (nomark _)) (pw_or1 (pt_cmpR (op_neD hr.units) (pe_call F__law_read hr__law_read (by rfl) T.g__law_read T.k__law_read B__law_read .nil passL (pa_cons (pe_op op_add_str pe_str (pe_op op_mulS pe_str pe_int)) pa_nil)) (pe_tup (pa_cons pe_str (pa_cons pe_int (pa_cons pe_int pa_nil)))) (nomark _))))) (pss_one (ps_ret pe_bl)) pss_nil)
      (pss_one (ps_ret (pe_and (pe_cmpR (op_eqD hr.units) (pe_call F__law_read hr__law_read (by rfl) T.g__law_read T.k__law_read B__law_read .nil passL (pa_cons pe_str pa_nil)) (pe_tup (pa_cons pe_str (pa_cons pe_int (pa_cons pe_int pa_nil)))) (nomark _)) (pe_and (pe_cmpR (op_eqD hr.units) (pe_call F__law_read hr__law_read (by rfl) T.g__law_read T.k__law_read B__law_read .nil passL (pa_cons pe_str pa_nil)) (pe_tup (pa_cons pe_str (pa_cons pe_int (pa_cons pe_int pa_nil)))) (nomark _)) (pe_one (pe_cmpR (op_eqD hr.units) (pe_call F__law_read hr__law_read (by rfl) T.g__law_read T.k__law_read B__law_read .nil passL (pa_cons pe_str pa_nil)) (pe_tup (pa_cons pe_str (pa_cons pe_int (pa_cons pe_int pa_nil)))) (nomark _)))))))))))))))))), ?_⟩
  have sh := hok.1
  have l9 := sh.2.1
  have w1 := sh.2.2.1
  have w3 := sh.2.2.2.1
  have lcs := hla.1
  have l0 : 0 < cs.length := by rw [lcs]; exact sh.1
  have hc0 : cs[0]? = some (cs[0]'l0) := by simp
  generalize (cs[0]'l0) = c0 at hc0
  obtain ⟨r0, hr0, hrow0⟩ := hla.at hc0
  have lr0 : r0.length = GV.wid rs := sh.2.2.2.2 r0 (List.mem_of_getElem? hr0)
  walk_at "rx"
  refine r_seqJ (fun σ' H' => Ex H H' ∧ σ' = [some (.ref p), some (.ref L), some (.ref c0), some (.int (GV.wid rs : Nat)), none, none, none, none, none, none, none]) (fun N hN => ?_) ?_
  · walk_at "rd"
    refine r_ixL hL (v := .ref c0) (atI_nat (j := 0) (by rw [List.getElem?_map, hc0]; rfl)) ?_
    walk_at "rd"
    refine r_ixL hL (v := .ref c0) (atI_nat (j := 0) (by rw [List.getElem?_map, hc0]; rfl)) ?_
    walk_at "rd"
    refine len_row (.inl hrow0) ?_
    rw [lr0]
    walk_at "rd"
    refine r_newT (sz_le (by simp)) fun t0 H1 ht0 e1 h1 => ?_
    refine r_gTup h1 rfl (r_gCons (r_gName (r_gCons (r_gName (r_gNil ?_)))))
    exact hN _ _ ⟨e1, rfl⟩
  rintro σ' H0 ⟨e0, rfl⟩
  have hb0 := hb.ex e0
  refine r_seqJ (fun σ' H' => ∃ q vals, Ex H H' ∧ σ' = [some (.ref p), some (.ref L), some (.ref c0), some (.int (GV.wid rs : Nat)), some (.ref q), none, none, none, none, none, none] ∧ H q = none ∧ H' q = some (.lst vals) ∧ vals.length ≤ 9 ∧ ∀ v ∈ vals, BadV K (del (del H' p) q) v) (fun N hN => ?_) ?_
  · walk_at "rd"
    refine r_newL (Nat.zero_le _) fun a1 H1 f1 e1 h1 => ?_
    walk_at "rd"
    refine r_newT (sz_le (by simp)) fun a2 H2 f2 e2 h2 => ?_
    walk_at "rd"
    refine r_newL (Nat.zero_le _) fun a3 H3 f3 e3 h3 => ?_
    walk_at "rd"
    refine r_newL (sz_le (by simp)) fun a4 H4 f4 e4 h4 => ?_
    walk_at "rd"
    refine r_newL (Nat.zero_le _) fun a5 H5 f5 e5 h5 => ?_
    walk_at "rd"
    refine r_newL (Nat.zero_le _) fun a6 H6 f6 e6 h6 => ?_
    walk_at "rd"
    refine r_newL (sz_le (by simp)) fun a7 H7 f7 e7 h7 => ?_
    walk_at "rd"
    refine r_newL (sz_le (by simp)) fun a8 H8 f8 e8 h8 => ?_
    walk_at "rd"
    refine r_newL (sz_le (by simp)) fun a9 H9 f9 e9 h9 => ?_
    walk_at "rd"
    refine r_newL (sz_le (by simp)) fun a10 H10 f10 e10 h10 => ?_
    walk_at "rd"
    refine r_newL (sz_le (by simp)) fun a11 H11 f11 e11 h11 => ?_
    walk_at "rd"
    refine r_newL (sz_le (by simp)) fun a12 H12 f12 e12 h12 => ?_
    walk_at "rd"
    refine ⟨10, rfl, by decide, by decide, ?_⟩
    refine r_lcLs (n := 10) (k := 5) (walk_range (lo := 0) (n := 10)) (fun _ => [V.int 1]) (by decide) (fun _ _ => trivial) (fun _ => rfl) ?_ ?_
    · rintro i y Hx Hy hi ex ⟨rfl, rfl⟩
      refine ⟨Ex.refl _, fun R kR => ?_⟩
      walk_at "rd"
      exact r_newL (sz_le (by simp)) fun t H4 ht e4 h4 => kR t H4 e4 ht h4
    · intro a13 ts H13 f13 e13 h13 hlen hnd hnew hrow
      walk_at "rd"
      refine r_newL (sz_le (by simp)) fun q H14 f14 e14 h14 => ?_
      have d1 := dkeep hb e0 f1 ((((((((((((e2.trans e3).trans e4).trans e5).trans e6).trans e7).trans e8).trans e9).trans e10).trans e11).trans e12).trans e13) _ _ h1)
      have d2 := dkeep hb (e0.trans e1) f2 (((((((((((e3.trans e4).trans e5).trans e6).trans e7).trans e8).trans e9).trans e10).trans e11).trans e12).trans e13) _ _ h2)
      have d3 := dkeep hb ((e0.trans e1).trans e2) f3 ((((((((((e4.trans e5).trans e6).trans e7).trans e8).trans e9).trans e10).trans e11).trans e12).trans e13) _ _ h3)
      have d4 := dkeep hb (((e0.trans e1).trans e2).trans e3) f4 (((((((((e5.trans e6).trans e7).trans e8).trans e9).trans e10).trans e11).trans e12).trans e13) _ _ h4)
      have d5 := dkeep hb ((((e0.trans e1).trans e2).trans e3).trans e4) f5 ((((((((e6.trans e7).trans e8).trans e9).trans e10).trans e11).trans e12).trans e13) _ _ h5)
      have d6 := dkeep hb (((((e0.trans e1).trans e2).trans e3).trans e4).trans e5) f6 (((((((e7.trans e8).trans e9).trans e10).trans e11).trans e12).trans e13) _ _ h6)
      have d7 := dkeep hb ((((((e0.trans e1).trans e2).trans e3).trans e4).trans e5).trans e6) f7 ((((((e8.trans e9).trans e10).trans e11).trans e12).trans e13) _ _ h7)
      have d8 := dkeep hb (((((((e0.trans e1).trans e2).trans e3).trans e4).trans e5).trans e6).trans e7) f8 (((((e9.trans e10).trans e11).trans e12).trans e13) _ _ h8)
      have d9 := dkeep hb ((((((((e0.trans e1).trans e2).trans e3).trans e4).trans e5).trans e6).trans e7).trans e8) f9 ((((e10.trans e11).trans e12).trans e13) _ _ h9)
      have d10 := dkeep hb (((((((((e0.trans e1).trans e2).trans e3).trans e4).trans e5).trans e6).trans e7).trans e8).trans e9) f10 (((e11.trans e12).trans e13) _ _ h10)
      have d11 := dkeep hb ((((((((((e0.trans e1).trans e2).trans e3).trans e4).trans e5).trans e6).trans e7).trans e8).trans e9).trans e10) f11 ((e12.trans e13) _ _ h11)
      have d12 := dkeep hb (((((((((((e0.trans e1).trans e2).trans e3).trans e4).trans e5).trans e6).trans e7).trans e8).trans e9).trans e10).trans e11) f12 (e13 _ _ h12)
      have d13 := dkeep hb ((((((((((((e0.trans e1).trans e2).trans e3).trans e4).trans e5).trans e6).trans e7).trans e8).trans e9).trans e10).trans e11).trans e12) f13 h13
      have dr : ∀ (j : Nat) (t : Addr), ts[j]? = some t → (del H13 p) t = some (.lst [V.int 1]) := fun j t ht => dkeep hb ((((((((((((e0.trans e1).trans e2).trans e3).trans e4).trans e5).trans e6).trans e7).trans e8).trans e9).trans e10).trans e11).trans e12) (hnew t (List.mem_of_getElem? ht)) (hrow j t ht)
      have eF : Ex (del H13 p) (del (del H14 p) q) := ex_delF (ex_del e14) (by
        by_cases c : q = p
        · rw [c, del_same]
        · rw [del_ne c]; exact f14)
      have z0 : ∀ (os : List (Option (List Int))), (∀ r ∈ rowsOf os, ∀ c ∈ r, c = 0 ∨ c = 1) → ∀ r ∈ rowsOf os, ∀ c ∈ r, Z 5000 c := fun os h r hr c hc => by
        rcases h r hr c hc with rfl | rfl
        · exact Z.mono (n := 10) (by unfold Z; decide) (by decide)
        · exact Z.mono (n := 10) (by unfold Z; decide) (by decide)
      refine hN _ _ ⟨q, _, ((((((((((((((e0.trans e1).trans e2).trans e3).trans e4).trans e5).trans e6).trans e7).trans e8).trans e9).trans e10).trans e11).trans e12).trans e13).trans e14), rfl, (e0.trans ((((((((((((e1.trans e2).trans e3).trans e4).trans e5).trans e6).trans e7).trans e8).trans e9).trans e10).trans e11).trans e12).trans e13)).free f14, h14, by simp, fun v hv => BadV.ex ?_ eF⟩
      simp only [List.mem_cons, List.not_mem_nil, or_false] at hv
      rcases hv with rfl | rfl | rfl | rfl | rfl | rfl | rfl | rfl | rfl
      · exact bad_sc "NoneType" .non
      · exact bad_sc "int" (.int 5)
      · exact bad_sc "str" (.str _)
      · exact bad_l d1 RIts.nil (by decide) (fun r hr => nomatch hr) (by decide)
      · exact .inr ⟨[], [], ⟨_, rfl, .inr d2⟩, RIts.nil, by decide, (fun r hr => nomatch hr), by decide⟩
      · exact bad_l d4 (.cons (rit_l (r := []) d3 (by decide)) .nil) (by simp) (z0 _ (by decide)) (by decide)
      · exact bad_l d7 (.cons (rit_l (r := []) d5 (by decide)) (.cons (rit_l (r := []) d6 (by decide)) .nil)) (by simp) (z0 _ (by decide)) (by decide)
      · exact bad_l d12 (.cons (rit_l (r := [1, 0, 0, 0]) d8 (by decide)) (.cons (rit_l (r := [0, 1, 0, 0]) d9 (by decide)) (.cons (rit_l (r := [0, 0, 1, 0]) d10 (by decide)) (.cons (rit_l (r := [0, 0, 0, 1]) d11 (by decide)) .nil)))) (by simp) (z0 _ (by decide)) (by decide)
      · refine bad_l (os := List.replicate 10 (some [1])) d13 ⟨by simp [hlen], fun j x o hx ho => ?_⟩ (by rw [List.length_map]; omega) (z0 _ (by decide)) (by decide)
        obtain ⟨t, ht, rfl⟩ := ref_at hx
        obtain rfl : o = some [1] := List.eq_of_mem_replicate (List.mem_of_getElem? ho)
        exact rit_l (r := [1]) (dr j t ht) (by decide)
  rintro σ' H0' ⟨q, vals, e0', rfl, hq0, hq1, hvl, hbad⟩
  clear hb0 e0
  have hb0 := hb.ex e0'
  refine r_seqJ (fun σ' H' => ∃ HB vals, H q = none ∧ Bg p H H' ∧ Bag H' p n ∧ σ' = [some (.ref p), some (.ref L), some (.ref c0), some (.int (GV.wid rs : Nat)), some (.ref q), none, none, none, none, none, none] ∧ H' q = some (.lst vals) ∧ vals.length ≤ 20 ∧ (∀ v ∈ vals, BadV K HB v) ∧ Ex HB H' ∧ HB p = none) (fun N hN => ?_) ?_
  · have hL0 := e0' _ _ hL
    have la0 := hla.ex e0'
    have hr00 := e0' _ _ hrow0
    walk_at "rd"
    refine r_bm ?_
    walk_at "rd"
    refine ⟨.inl ⟨rfl, _, SqL.of hq1⟩, ?_⟩
    walk_at "rd"
    refine r_newL (sz_le (by simp)) fun a1 H1 f1 e1 h1 => ?_
    walk_at "rd"
    intro a2 f2
    simp only [tPairs]
    walk_at "rd"
    refine r_newL (xs := [.int 1]) (sz_le (by simp)) fun a2' H2' f2' e2' h2' => ?_
    walk_at "rd"
    refine ⟨e2' _ _ upd_same, [(.inl 0, .ref a2')], rfl, by simp, ?_⟩
    have e2 : Ex H1 (upd H2' a2 (.dK (mergeK [] [(.inl 0, .ref a2')]))) := Ex.updF ((Ex.new f2).trans e2') f2
    have h2 : (upd H2' a2 (.dK (mergeK [] [(.inl 0, .ref a2')]))) a2 = some (.dK (mergeK [] [(.inl 0, .ref a2')])) := upd_same
    generalize upd H2' a2 (.dK (mergeK [] [(.inl 0, .ref a2')])) = H2 at e2 h2 ⊢
    clear f2' e2' h2'
    walk_at "rd"
    refine r_newL (sz_le (by simp)) fun a3 H3 f3 e3 h3 => ?_
    walk_at "rd"
    refine r_newL (sz_le (by simp)) fun a4 H4 f4 e4 h4 => ?_
    walk_at "rd"
    refine r_newL (sz_le (by simp)) fun a5 H5 f5 e5 h5 => ?_
    walk_at "rd"
    refine r_newL (sz_le (by simp)) fun a6 H6 f6 e6 h6 => ?_
    walk_at "rd"
    refine r_newL (sz_le (by simp)) fun a7 H7 f7 e7 h7 => ?_
    walk_at "rd"
    refine r_newL (sz_le (by simp)) fun a8 H8 f8 e8 h8 => ?_
    walk_at "rd"
    refine r_newL (sz_le (by simp)) fun a9 H9 f9 e9 h9 => ?_
    walk_at "rd"
    refine r_newL (sz_le (by simp)) fun a10 H10 f10 e10 h10 => ?_
    walk_at "rd"
    refine r_cat ((((((((((e1.trans e2).trans e3).trans e4).trans e5).trans e6).trans e7).trans e8).trans e9).trans e10) _ _ hr00) h10 (by simp; omega) fun a11 H11 f11 e11 h11 => ?_
    walk_at "rd"
    refine r_newL (sz_le (by simp)) fun a12 H12 f12 e12 h12 => ?_
    walk_at "rd"
    refine r_cat ((((((((((((e1.trans e2).trans e3).trans e4).trans e5).trans e6).trans e7).trans e8).trans e9).trans e10).trans e11).trans e12) _ _ hL0) h12 (by simp; omega) fun a13 H13 f13 e13 h13 => ?_
    walk_at "rd"
    refine ⟨_, rfl, 1, rfl, c0, _, rfl, SqL.of (((((((((((((e1.trans e2).trans e3).trans e4).trans e5).trans e6).trans e7).trans e8).trans e9).trans e10).trans e11).trans e12).trans e13) _ _ hr00), fun a14 f14 => ?_⟩
    rw [cut_tl]
    have e14 : Ex H13 (upd H13 a14 (.lst ((r0.drop 1).map V.int))) := Ex.new f14
    have h14 : (upd H13 a14 (.lst ((r0.drop 1).map V.int))) a14 = some (.lst ((r0.drop 1).map V.int)) := upd_same
    generalize upd H13 a14 (.lst ((r0.drop 1).map V.int)) = H14 at e14 h14 ⊢
    walk_at "rd"
    refine r_newL (sz_le (by simp)) fun a15 H15 f15 e15 h15 => ?_
    walk_at "rd"
    refine r_cat (((((((((((((((e1.trans e2).trans e3).trans e4).trans e5).trans e6).trans e7).trans e8).trans e9).trans e10).trans e11).trans e12).trans e13).trans e14).trans e15) _ _ hL0) h15 (by simp; omega) fun a16 H16 f16 e16 h16 => ?_
    walk_at "rd"
    refine ⟨_, _, rfl, rfl, mulOk_small (by omega) (by omega) (by decide), ?_⟩
    walk_at "rd"
    refine r_newL (sz_le (by simp)) fun a17 H17 f17 e17 h17 => ?_
    walk_at "rd"
    refine r_Vec2 (xs := cs.map V.ref) (os := rs.map some) ⟨L, rfl, .inl (((((((((((((((((e1.trans e2).trans e3).trans e4).trans e5).trans e6).trans e7).trans e8).trans e9).trans e10).trans e11).trans e12).trans e13).trans e14).trans e15).trans e16).trans e17) _ _ hL0)⟩ ((la0.ex ((((((((((((((((e1.trans e2).trans e3).trans e4).trans e5).trans e6).trans e7).trans e8).trans e9).trans e10).trans e11).trans e12).trans e13).trans e14).trans e15).trans e16).trans e17)).rits sh) (by rw [List.length_map]; omega) (by rw [rows_some]; exact hcl.z) (fun z => by rw [GV.shB_some sh] at z; cases z) (fun _ z => by rw [rows_some, hok.2] at z; cases z) fun _ a18 H18 f18 e18 hv18 => ?_
    obtain ⟨dx18, fs18, h18⟩ := hv18.inst
    clear hv18
    walk_at "rd"
    refine r_newL (sz_le (by simp)) fun a19 H19 f19 e19 h19 => ?_
    walk_at "rd"
    have eA : Ex H0' H19 := ((((((((((((((((((e1.trans e2).trans e3).trans e4).trans e5).trans e6).trans e7).trans e8).trans e9).trans e10).trans e11).trans e12).trans e13).trans e14).trans e15).trans e16).trans e17).trans e18).trans e19)
    have hq19 := eA _ _ hq1
    refine ⟨q, a19, _, _, rfl, rfl, hq19, h19, sz_le (by simp; omega), ?_⟩
    have d1 := dkeep2 hb0 hq1 (Ex.refl _) f1 ((((((((((((((((((e2.trans e3).trans e4).trans e5).trans e6).trans e7).trans e8).trans e9).trans e10).trans e11).trans e12).trans e13).trans e14).trans e15).trans e16).trans e17).trans e18).trans e19) _ _ h1)
    have d2 := dkeep2 hb0 hq1 e1 f2 (((((((((((((((((e3.trans e4).trans e5).trans e6).trans e7).trans e8).trans e9).trans e10).trans e11).trans e12).trans e13).trans e14).trans e15).trans e16).trans e17).trans e18).trans e19) _ _ h2)
    have d3 := dkeep2 hb0 hq1 (e1.trans e2) f3 ((((((((((((((((e4.trans e5).trans e6).trans e7).trans e8).trans e9).trans e10).trans e11).trans e12).trans e13).trans e14).trans e15).trans e16).trans e17).trans e18).trans e19) _ _ h3)
    have d4 := dkeep2 hb0 hq1 ((e1.trans e2).trans e3) f4 (((((((((((((((e5.trans e6).trans e7).trans e8).trans e9).trans e10).trans e11).trans e12).trans e13).trans e14).trans e15).trans e16).trans e17).trans e18).trans e19) _ _ h4)
    have d5 := dkeep2 hb0 hq1 (((e1.trans e2).trans e3).trans e4) f5 ((((((((((((((e6.trans e7).trans e8).trans e9).trans e10).trans e11).trans e12).trans e13).trans e14).trans e15).trans e16).trans e17).trans e18).trans e19) _ _ h5)
    have d6 := dkeep2 hb0 hq1 ((((e1.trans e2).trans e3).trans e4).trans e5) f6 (((((((((((((e7.trans e8).trans e9).trans e10).trans e11).trans e12).trans e13).trans e14).trans e15).trans e16).trans e17).trans e18).trans e19) _ _ h6)
    have d7 := dkeep2 hb0 hq1 (((((e1.trans e2).trans e3).trans e4).trans e5).trans e6) f7 ((((((((((((e8.trans e9).trans e10).trans e11).trans e12).trans e13).trans e14).trans e15).trans e16).trans e17).trans e18).trans e19) _ _ h7)
    have d8 := dkeep2 hb0 hq1 ((((((e1.trans e2).trans e3).trans e4).trans e5).trans e6).trans e7) f8 (((((((((((e9.trans e10).trans e11).trans e12).trans e13).trans e14).trans e15).trans e16).trans e17).trans e18).trans e19) _ _ h8)
    have d9 := dkeep2 hb0 hq1 (((((((e1.trans e2).trans e3).trans e4).trans e5).trans e6).trans e7).trans e8) f9 ((((((((((e10.trans e11).trans e12).trans e13).trans e14).trans e15).trans e16).trans e17).trans e18).trans e19) _ _ h9)
    have d11 := dkeep2 hb0 hq1 (((((((((e1.trans e2).trans e3).trans e4).trans e5).trans e6).trans e7).trans e8).trans e9).trans e10) f11 ((((((((e12.trans e13).trans e14).trans e15).trans e16).trans e17).trans e18).trans e19) _ _ h11)
    have d13 := dkeep2 hb0 hq1 (((((((((((e1.trans e2).trans e3).trans e4).trans e5).trans e6).trans e7).trans e8).trans e9).trans e10).trans e11).trans e12) f13 ((((((e14.trans e15).trans e16).trans e17).trans e18).trans e19) _ _ h13)
    have d14 := dkeep2 hb0 hq1 ((((((((((((e1.trans e2).trans e3).trans e4).trans e5).trans e6).trans e7).trans e8).trans e9).trans e10).trans e11).trans e12).trans e13) f14 (((((e15.trans e16).trans e17).trans e18).trans e19) _ _ h14)
    have d16 := dkeep2 hb0 hq1 ((((((((((((((e1.trans e2).trans e3).trans e4).trans e5).trans e6).trans e7).trans e8).trans e9).trans e10).trans e11).trans e12).trans e13).trans e14).trans e15) f16 (((e17.trans e18).trans e19) _ _ h16)
    have d17 := dkeep2 hb0 hq1 (((((((((((((((e1.trans e2).trans e3).trans e4).trans e5).trans e6).trans e7).trans e8).trans e9).trans e10).trans e11).trans e12).trans e13).trans e14).trans e15).trans e16) f17 ((e18.trans e19) _ _ h17)
    have d18 := dkeep2 hb0 hq1 ((((((((((((((((e1.trans e2).trans e3).trans e4).trans e5).trans e6).trans e7).trans e8).trans e9).trans e10).trans e11).trans e12).trans e13).trans e14).trans e15).trans e16).trans e17) f18 (e19 _ _ h18)
    have laB : LA (del (del H19 p) q) cs rs := (la_del hla hb).ex (ex_delF (ex_del (e0'.trans eA)) (by
      by_cases c : q = p
      · rw [c, del_same]
      · rw [del_ne c]; exact hq0))
    obtain ⟨r0', hr0', d0⟩ := laB.at hc0
    have er0 : r0' = r0 := by rw [hr0] at hr0'; exact (Option.some.inj hr0').symm
    subst er0
    have nrs : rs ≠ [] := by rintro rfl; exact absurd sh.1 (by decide)
    have zr : ∀ {r : List Int}, (∀ c ∈ r, c = 0 ∨ c = 1 ∨ c ∈ r0') → ∀ r' ∈ rowsOf (rs.map some ++ [some r]), ∀ c ∈ r', Z 5000 c := fun {r} h r' hr' c hc => by
      have e : rowsOf (rs.map some ++ [some r]) = rs ++ [r] := by
        unfold rowsOf
        rw [List.map_append, List.map_map]
        congr 1
        exact List.map_id' rs
      rw [e] at hr'
      rcases List.mem_append.mp hr' with m | m
      · exact hcl.z (by decide) r' m c hc
      · rw [List.mem_singleton.mp m] at hc
        rcases h c hc with rfl | rfl | hm
        · exact Z.mono (n := 10) (by unfold Z; decide) (by decide)
        · exact Z.mono (n := 10) (by unfold Z; decide) (by decide)
        · exact hcl.z (by decide) r0' (List.mem_of_getElem? hr0) c hm
    have z0 : ∀ (os : List (Option (List Int))), (∀ r ∈ rowsOf os, ∀ c ∈ r, c = 0 ∨ c = 1) → ∀ r ∈ rowsOf os, ∀ c ∈ r, Z 5000 c := fun os h r hr c hc => by
      rcases h r hr c hc with rfl | rfl
      · exact Z.mono (n := 10) (by unfold Z; decide) (by decide)
      · exact Z.mono (n := 10) (by unfold Z; decide) (by decide)
    refine hN _ _ ⟨del (del H19 p) q, _, hq0, Bg.of (Ex.updF (e0'.trans eA) hq0), hb.ex (Ex.updF (e0'.trans eA) hq0), rfl, upd_same, by simp; omega, fun v hv => ?_, ex_dd, ?_⟩
    · rcases List.mem_append.mp hv with hv | hv
      · exact (hbad v hv).ex (ex_del (ex_del eA))
      simp only [List.mem_cons, List.not_mem_nil, or_false] at hv
      rcases hv with rfl | rfl | rfl | rfl | rfl | rfl | rfl | rfl | rfl | rfl
      · exact bad_l (os := [none, none]) d1 (.cons (rit_sc "int" (.int 1)) (.cons (rit_sc "int" (.int 2)) .nil)) (by simp) (z0 _ (by decide)) (by decide)
      · exact bad_sc "dict" (.dK d2)
      · exact bad_l (os := [none]) d3 (.cons (rit_sc "str" (.str _)) .nil) (by simp) (z0 _ (by decide)) (by decide)
      · exact bad_l (os := [none]) d4 (.cons (rit_sc "NoneType" .non) .nil) (by simp) (z0 _ (by decide)) (by decide)
      · exact bad_l (os := [none]) d6 (.cons (rit_no d5 (by simp) (fun y hy => by rw [List.mem_singleton.mp hy]; exact .inl ⟨"bool", by decide, .bl _⟩) rfl) .nil) (by simp) (z0 _ (by decide)) (by decide)
      · exact bad_l (os := [some [1], none]) d9 (.cons (rit_l (r := [1]) d7 (by decide)) (.cons (rit_no d8 (by simp) (fun y hy => by rw [List.mem_singleton.mp hy]; exact .inl ⟨"bool", by decide, .bl _⟩) rfl) .nil)) (by simp) (z0 _ (by decide)) (by decide)
      · refine bad_l (os := rs.map some ++ [some (r0' ++ [0])]) d13 ((laB.rits sh).app (.cons (rit_l (r := r0' ++ [0]) (by rw [d11, List.map_append]; rfl) (by simp; omega)) .nil)) (by simp; omega) (zr fun c hc => ?_) (shB_len nrs (by simp; omega))
        rcases List.mem_append.mp hc with m | m
        · exact .inr (.inr m)
        · exact .inl (List.mem_singleton.mp m)
      · refine bad_l (os := rs.map some ++ [some (r0'.drop 1)]) d16 ((laB.rits sh).app (.cons (rit_l (r := r0'.drop 1) d14 (by simp; omega)) .nil)) (by simp; omega) (zr fun c hc => .inr (.inr (List.mem_of_mem_drop hc))) (shB_len nrs (by simp; omega))
      · refine bad_l (os := [some r0', none]) d17 (.cons (rit_l d0 (by omega)) (.cons (rit_sc "str" (.str _)) .nil)) (by simp) (fun r hr c hc => ?_) (shB_none (by simp))
        simp [rowsOf] at hr
        rcases hr with rfl | rfl
        · exact hcl.z (by decide) r (List.mem_of_getElem? hr0) c hc
        · cases hc
      · exact .inl (.inr ⟨⟨a18, "Vectors", _, _, rfl, by decide, d18⟩, rfl⟩)
    · by_cases c : p = q
      · rw [c, del_same]
      · rw [del_ne c, del_same]
  clear hq1 hbad hvl e0' hq0
  rintro σ' H1 ⟨HB, vals1, hq0, g1, b1, rfl, hq1, hvl, hbad, eB, hBp⟩
  have hL1 := g1.at_ (ls_ne hb hL) hL
  have la1 := hla.bg hb g1
  have hr01 := g1.at_ (hb.ne hrow0 fun L x y z => by injection z with z; cases r0 with | nil => cases z | cons a r => injection z with z1; cases z1) hrow0
  refine r_seqJ (fun σ' H' => ∃ q2 ts2, Ex H1 H' ∧ H1 q2 = none ∧ H' q2 = some (.lst (ts2.map V.ref)) ∧ LA H' ts2 rs ∧ (q2 :: ts2).Nodup ∧ (∀ t ∈ ts2, H1 t = none) ∧ σ' = [some (.ref p), some (.ref L), some (.ref c0), some (.int (GV.wid rs : Nat)), some (.ref q), none, some (.ref q2), none, none, none, none]) (fun N hN => ?_) ?_
  · walk_at "rd"
    refine ⟨L, rfl, ⟨_, SqL.of hL1⟩, ?_⟩
    refine r_copy (fun _ => rfl) (fun _ => rfl) hL1 la1 (by omega) fun q2 ts2 H2 hq2 e2 h2 hnd2 hnew2 la2 => ?_
    walk_at "rd"
    exact hN _ _ ⟨q2, ts2, e2, hq2, h2, la2, hnd2, hnew2, rfl⟩
  rintro σ' H2 ⟨q2, ts2, e2, hq2n, h2, la2, hnd2, hnew2, rfl⟩
  refine r_seqJ (fun σ' H' => σ' = [some (.ref p), some (.ref L), some (.ref c0), some (.int (GV.wid rs : Nat)), some (.ref q), none, some (.ref q2), none, none, none, none] ∧ Bg p H1 H' ∧ Bag H' p (n + 3) ∧ BadV K H' (.ref q2)) (fun N hN => ?_) ?_
  · walk_at "rd"
    refine r_newL (sz_le (by simp)) fun a3 H3 f3 e3 h3 => ?_
    walk_at "rd"
    refine r_newT (sz_le (by simp)) fun a4 H4 f4 e4 h4 => ?_
    walk_at "rd"
    refine r_newL (sz_le (by simp)) fun a5 H5 f5 e5 h5 => ?_
    walk_at "rd"
    have e25 := (e3.trans e4).trans e5
    have b5 := ((b1.ex e2).ex e25)
    refine r_One (H0 := H5) b5 h5 (fun _ _ _ z => by cases z) (by simp) (by simp) (by omega) fun v H6 hv g6 b6 => ?_
    walk_at "rd"
    have h26 := g6.at_ (ls_ne b5 (e25 _ _ h2)) (e25 _ _ h2)
    have la6 := (la2.ex e25).bg b5 g6
    have hL6 := g6.at_ (ls_ne b5 ((e2.trans e25) _ _ hL1)) ((e2.trans e25) _ _ hL1)
    have h36 := g6.at_ (b5.ne ((e4.trans e5) _ _ h3) (fun _ _ _ z => by cases z)) ((e4.trans e5) _ _ h3)
    have h46 := g6.at_ (b5.ne (e5 _ _ h4) (fun _ _ _ z => by cases z)) (e5 _ _ h4)
    have g16 : Bg p H1 H6 := (Bg.of (e2.trans e25)).trans g6
    refine r_lenL hL6 ?_
    walk_at "rd"
    refine r_DrawG b6 (by omega) (by rw [List.length_map]; omega) (zsm (by rw [List.length_map]; omega)) fun r H7 r0' r1' g7 b7 => ?_
    rw [List.length_map] at r1'
    walk_at "rd"
    have h27 := g7.at_ (ls_ne b6 h26) h26
    have la7 := la6.bg b6 g7
    obtain ⟨i, rfl⟩ : ∃ i : Nat, r = (i : Int) := ⟨r.toNat, by omega⟩
    have hi2 : i < ts2.length := by rw [la2.1]; omega
    have hti : ts2[i]? = some ts2[i] := by simp
    have mti : ts2[i] ∈ ts2 := List.getElem_mem hi2
    generalize ts2[i] = ti at hti mti
    obtain ⟨ri, hri, hrowi⟩ := la7.at hti
    have lri : ri.length = GV.wid rs := sh.2.2.2.2 ri (List.mem_of_getElem? hri)
    refine r_ixL h27 (v := .ref ti) (atI_nat (by rw [List.getElem?_map, hti]; rfl)) ?_
    walk_at "rd"
    refine r_DrawG b7 (by omega) (by omega) (zsm (by omega)) fun s H8 s0 s1 g8 b8 => ?_
    obtain ⟨j, rfl⟩ : ∃ j : Nat, s = (j : Int) := ⟨s.toNat, by omega⟩
    have ntp : ti ≠ p := b7.ne hrowi fun L x y z => by
      injection z with z
      cases ri with
      | nil => cases z
      | cons a r => injection z with z1; cases z1
    have hrow8 := g8.at_ ntp hrowi
    have h28 := g8.at_ (ls_ne b7 h27) h27
    have la8 := la7.bg b7 g8
    refine r_setL hrow8 (n := j) (ixn (by rw [List.length_map]; omega)) ?_
    have g18 : Bg p H1 H8 := (g16.trans g7).trans g8
    have h38 := g8.at_ (b7.ne (g7.at_ (b6.ne h36 (fun _ _ _ z => by cases z)) h36) (fun _ _ _ z => by cases z)) (g7.at_ (b6.ne h36 (fun _ _ _ z => by cases z)) h36)
    have h48 := g8.at_ (b7.ne (g7.at_ (b6.ne h46 (fun _ _ _ z => by cases z)) h46) (fun _ _ _ z => by cases z)) (g7.at_ (b6.ne h46 (fun _ _ _ z => by cases z)) h46)
    obtain ⟨_, _, hx2⟩ := la2.at hti
    have t3 : a3 ≠ ti := fun z => by rw [z, hx2] at f3; cases f3
    have t4 : a4 ≠ ti := fun z => by rw [z, e3 _ _ hx2] at f4; cases f4
    have tq : q2 ≠ ti := fun z => (List.nodup_cons.mp hnd2).1 (by rw [z]; exact mti)
    have h39 : (upd H8 ti (.lst ((ri.map V.int).set j v))) a3 = some (.lst [.int 1]) := by rw [upd_ne t3]; exact h38
    have h49 : (upd H8 ti (.lst ((ri.map V.int).set j v))) a4 = some (.tup []) := by rw [upd_ne t4]; exact h48
    have h29 : (upd H8 ti (.lst ((ri.map V.int).set j v))) q2 = some (.lst (ts2.map V.ref)) := by rw [upd_ne tq]; exact h28
    have ht9 : (upd H8 ti (.lst ((ri.map V.int).set j v))) ti = some (.lst ((ri.map V.int).set j v)) := upd_same
    have g19 : Bg p H1 (upd H8 ti (.lst ((ri.map V.int).set j v))) := g18.updD b1 (hnew2 ti mti)
    have b9 : Bag (upd H8 ti (.lst ((ri.map V.int).set j v))) p (n + 3) := (b8.updD b1 g18 (hnew2 ti mti)).le (by omega)
    have h9o : ∀ (m : Nat) (t : Addr) (r : List Int), m ≠ i → ts2[m]? = some t → rs[m]? = some r → (upd H8 ti (.lst ((ri.map V.int).set j v))) t = some (.lst (r.map V.int)) := fun m t r hm ht hr => by
      rw [upd_ne (fun z => hm (nd_inj (List.nodup_cons.mp hnd2).2 ht (by rw [z]; exact hti)))]
      exact la8.2 m t r ht hr
    generalize upd H8 ti (.lst ((ri.map V.int).set j v)) = H9 at h39 h49 h29 ht9 g19 b9 h9o ⊢
    have hv' : Kn K H9 v ∧ isI v = false := by
      simp only [List.mem_cons, List.not_mem_nil, or_false] at hv
      rcases hv with rfl | rfl | rfl | rfl | rfl | rfl
      · exact ⟨.inl ⟨"NoneType", by decide, .non⟩, rfl⟩
      · exact ⟨.inl ⟨"bool", by decide, .bl _⟩, rfl⟩
      · exact ⟨.inl ⟨"bool", by decide, .bl _⟩, rfl⟩
      · exact ⟨.inl ⟨"str", by decide, .str _⟩, rfl⟩
      · exact ⟨.inl ⟨"list", by decide, .lst h39⟩, rfl⟩
      · exact ⟨.inl ⟨"tuple", by decide, .tup h49⟩, rfl⟩
    refine hN _ _ ⟨rfl, g19, b9, bad_l (os := (rs.map some).set i none) h29 ⟨by simp [la2.1], fun m x o hx ho => ?_⟩ (by rw [List.length_map, la2.1]; omega) (fun r hr c hc => ?_) (shB_none ?_)⟩
    · obtain ⟨t, ht, rfl⟩ := ref_at hx
      rw [List.getElem?_set] at ho
      by_cases em : i = m
      · subst em
        rw [if_pos rfl, if_pos (by rw [List.length_map]; omega)] at ho
        cases ho
        rw [hti] at ht
        cases ht
        refine rit_no ht9 (by simp; omega) (fun y hy => ?_) ?_
        · rcases List.mem_or_eq_of_mem_set hy with hy | rfl
          · obtain ⟨c, _, rfl⟩ := List.mem_map.mp hy
            exact kn_int c
          · exact hv'.1
        · refine List.all_eq_false.mpr ⟨v, List.mem_of_getElem? (i := j) ?_, by rw [hv'.2]; decide⟩
          rw [List.getElem?_set, if_pos rfl, if_pos (by rw [List.length_map]; omega)]
      · rw [if_neg em, List.getElem?_map] at ho
        cases q : rs[m]? with
        | none => rw [q] at ho; cases ho
        | some r =>
          rw [q] at ho
          cases ho
          refine rit_l (h9o m t r (fun z => em z.symm) ht q) ?_
          rw [sh.2.2.2.2 r (List.mem_of_getElem? q)]
          omega
    · unfold rowsOf at hr
      obtain ⟨o, ho, rfl⟩ := List.mem_map.mp hr
      rcases List.mem_or_eq_of_mem_set ho with ho | rfl
      · obtain ⟨r, hr2, rfl⟩ := List.mem_map.mp ho
        exact hcl.z (by decide) r hr2 c hc
      · cases hc
    · refine List.mem_of_getElem? (i := i) ?_
      rw [List.getElem?_set, if_pos rfl, if_pos (by rw [List.length_map]; omega)]
  rintro σ' H3 ⟨rfl, g3, b3, hbq2⟩
  have hL3 := g3.at_ (ls_ne b1 hL1) hL1
  have la3 := la1.bg b1 g3
  have hqp : q ≠ p := by
    rintro rfl
    obtain ⟨_, _, _, _, hx, _⟩ := hb.is
    rw [hq0] at hx
    cases hx
  have hq3 := g3.at_ hqp hq1
  have hr03 := g3.at_ (b1.ne hr01 fun L x y z => by injection z with z; cases r0 with | nil => cases z | cons a r => injection z with z1; cases z1) hr01
  have eB3 := ex_bg eB hBp g3
  clear g1 b1 hq1 eB hBp hL1 la1 hr01 g3 e2 hq2n h2 la2 hnd2 hnew2 hq0 hb hL hla hrow0
  refine r_seqJ (fun σ' H' => ∃ s8, σ' = [some (.ref p), some (.ref L), some (.ref c0), some (.int (GV.wid rs : Nat)), some (.ref q), none, some (.ref q2), none, s8, none, none] ∧ Ex H3 H') (fun N hN => ?_) ?_
  · walk_at "rd"
    refine r_newL (sz_le (by simp)) fun x1 H4 f4 e4 h4 => ?_
    refine r_cat (e4 _ _ hL3) h4 (by simp; omega) fun x2 H5 f5 e5 h5 => ?_
    walk_at "rd"
    refine r_newL (sz_le (by simp)) fun x3 H6 f6 e6 h6 => ?_
    refine r_cat (((e4.trans e5).trans e6) _ _ hL3) h6 (by simp; omega) fun x4 H7 f7 e7 h7 => ?_
    walk_at "rd"
    refine r_newL (sz_le (by simp)) fun x5 H8 f8 e8 h8 => ?_
    have e38 := (((e4.trans e5).trans e6).trans e7).trans e8
    refine r_cat (e38 _ _ hq3) h8 (by simp; omega) fun x6 H9 f9 e9 h9 => ?_
    have e39 := e38.trans e9
    have la9 := la3.ex e39
    have zn : ∀ r ∈ rowsOf (rs.map some ++ [none]), ∀ c ∈ r, Z 5000 c := fun r hr c hc => by
      unfold rowsOf at hr
      obtain ⟨o, ho, rfl⟩ := List.mem_map.mp hr
      rcases List.mem_append.mp ho with ho | ho
      · obtain ⟨r, hr2, rfl⟩ := List.mem_map.mp ho
        exact hcl.z (by decide) r hr2 c hc
      · rw [List.mem_singleton.mp ho] at hc
        cases hc
    have hbads : ∀ v ∈ vals1 ++ [V.ref q2, V.ref x2, V.ref x4], BadV K H9 v := fun v hv => by
      rcases List.mem_append.mp hv with hv | hv
      · exact (hbad v hv).ex (eB3.trans e39)
      simp only [List.mem_cons, List.not_mem_nil, or_false] at hv
      rcases hv with rfl | rfl | rfl
      · exact hbq2.ex e39
      · exact bad_l (os := rs.map some ++ [none]) ((((e6.trans e7).trans e8).trans e9) _ _ h5) ((la9.rits sh).app (.cons (rit_sc "int" (.int 7)) .nil)) (by simp; omega) zn (shB_none (by simp))
      · exact bad_l (os := rs.map some ++ [none]) ((e8.trans e9) _ _ h7) ((la9.rits sh).app (.cons (rit_sc "NoneType" .non) .nil)) (by simp; omega) zn (shB_none (by simp))
    have hll : (vals1 ++ [V.ref q2, V.ref x2, V.ref x4]).length ≤ 1000 := by simp; omega
    generalize vals1 ++ [V.ref q2, V.ref x2, V.ref x4] = bads at h9 hbads hll
    walk_at "rd"
    refine ⟨x6, rfl, ⟨_, SqL.of h9⟩, ?_⟩
    refine for_of (walk_list (xs := bads)) (fun _ σ' H' => ∃ s8, σ' = [some (.ref p), some (.ref L), some (.ref c0), some (.int (GV.wid rs : Nat)), some (.ref q), none, some (.ref q2), none, s8, none, none] ∧ Ex H9 H') ⟨none, rfl, Ex.refl _⟩ (fun _ _ _ _ ⟨_, _, e⟩ => SqL.of (e _ _ h9)) ?_ ?_
    · rintro m x σ' H11 H10 hm ⟨s8, rfl, e10⟩ ⟨rfl, hx⟩
      refine r_gName ?_
      walk_at "rd"
      refine made_bad ((hbads x (List.mem_of_getElem? hx)).ex e10) fun t H12 e12 h12 => ?_
      walk_at "rd"
      refine r_newT (sz_le (by simp)) fun t1 H13 ht1 e13 h13 => ?_
      refine r_neTwo _ _ (by decide +kernel) (e13 _ _ h12) h13 ?_
      walk_at "rd"
      refine ite_f rfl ?_
      walk_at "rd"
      exact ⟨_, rfl, (e10.trans e12).trans e13⟩
    · rintro σ' H' ⟨s8, rfl, e'⟩
      exact hN _ _ ⟨s8, rfl, e39.trans e'⟩
  clear hbad hbq2 hq3 eB3 hvl
  rintro σ' H4 ⟨s8, rfl, e4⟩
  have b4 := b3.ex e4
  have hL4 := e4 _ _ hL3
  have la4 := la3.ex e4
  clear e4 b3 hL3 la3 hr03
  refine r_seqJ (fun σ' H' => ∃ z9 ts9 m, 1 ≤ m ∧ m ≤ 9 ∧ σ' = [some (.ref p), some (.ref L), some (.ref c0), some (.int (GV.wid rs : Nat)), some (.ref q), none, some (.ref q2), none, s8, some (.ref z9), none] ∧ Bg p H4 H' ∧ H' z9 = some (.lst (ts9.map V.ref)) ∧ LA H' ts9 (GV.matN (fun _ _ => 0) m (GV.wid rs))) (fun N hN => ?_) ?_
  · walk_at "rd"
    refine r_DrawG b4 (by omega) (by decide) (zsm (by decide)) fun r H5 r0' r1' g5 b5 => ?_
    walk_at "rd"
    obtain ⟨m, hm⟩ : ∃ m : Nat, 1 + r = (m : Int) := ⟨(1 + r).toNat, by omega⟩
    rw [hm]
    refine ⟨_, rfl, by omega, by omega, ?_⟩
    rw [Int.toNat_natCast]
    refine r_lcLs (n := m) (k := 5) walk_range (fun _ => ((List.range (GV.wid rs)).map fun _ => (0 : Int)).map V.int) (by omega) (fun _ _ => trivial) (fun _ => rfl) ?_ ?_
    · rintro i y H6 H7 hi e6 ⟨rfl, rfl⟩
      refine ⟨Ex.refl _, fun R kR => ?_⟩
      walk_at "rd"
      refine ⟨_, rfl, by omega, by omega, ?_⟩
      rw [Int.toNat_natCast]
      refine r_lcM (n := GV.wid rs) (k := 10) walk_range (fun _ => .int 0) (by omega) (fun _ _ => trivial) (fun _ => rfl) ?_ fun D H8 hD e8 h8 => ?_
      · rintro j y H8 H9 hj e8 ⟨rfl, rfl⟩
        exact ⟨Ex.refl _, fun H10 e10 R2 kR2 => kR2 _ (Ex.refl _)⟩
      · refine kR D H8 e8 hD ?_
        rw [h8, List.map_map]
        rfl
    · intro z9 ts9 H8 hz9 e8 h8 hlen hnd hnew hrow
      walk_at "rd"
      exact hN _ _ ⟨z9, ts9, m, by omega, by omega, rfl, g5.trans (Bg.of e8), h8, la_rows hlen hrow⟩
  rintro σ' H5 ⟨z9, ts9, m, m1, m9, rfl, g5, h5, la5⟩
  have hL5 := g5.at_ (ls_ne b4 hL4) hL4
  have laL5 := la4.bg b4 g5
  clear g5 b4 hL4 la4
  obtain ⟨zsh, zup, zrz⟩ := zero_ok m1 m9 w1 w3
  refine r_seqJ (fun σ' H' => σ' = [some (.ref p), some (.ref L), some (.ref c0), some (.int (GV.wid rs : Nat)), some (.ref q), none, some (.ref q2), none, s8, some (.ref z9), none] ∧ Ex H5 H') (fun N hN => ?_) ?_
  · walk_at "rd"
    refine made_no h5 la5 zsh zrz zup fun t H6 e6 h6 => ?_
    walk_at "rd"
    refine r_newT (sz_le (by simp)) fun t1 H7 ht1 e7 h7 => ?_
    refine r_neTwo _ _ (by decide +kernel) (e7 _ _ h6) h7 ?_
    walk_at "rd"
    refine ite_f rfl ?_
    walk_at "rd"
    refine r_newL (sz_le (by simp)) fun x1 H8 f8 e8 h8 => ?_
    walk_at "rd"
    refine r_newL (sz_le (by simp)) fun x2 H9 f9 e9 h9 => ?_
    walk_at "rd"
    refine r_newL (sz_le (by simp)) fun x3 H10 f10 e10 h10 => ?_
    walk_at "rd"
    refine r_newL (sz_le (by simp)) fun x4 H11 f11 e11 h11 => ?_
    walk_at "rd"
    refine made_no (rs := mis3) (cs := [x1, x2, x3]) h11 (LA.cons ((((e9.trans e10).trans e11)) _ _ h8) (LA.cons ((e10.trans e11) _ _ h9) (LA.cons (e11 _ _ h10) LA.nil))) mis3_ok.1 mis3_ok.2.2 mis3_ok.2.1 fun t2 H12 e12 h12 => ?_
    walk_at "rd"
    refine r_newT (sz_le (by simp)) fun t3 H13 ht3 e13 h13 => ?_
    refine r_neTwo _ _ (by decide +kernel) (e13 _ _ h12) h13 ?_
    walk_at "rd"
    exact hN _ _ ⟨rfl, ((((((e6.trans e7).trans e8).trans e9).trans e10).trans e11).trans e12).trans e13⟩
  rintro σ' H6 ⟨rfl, e6⟩
  have hL6 := e6 _ _ hL5
  have laL6 := laL5.ex e6
  clear hL5 laL5 e6 h5 la5
  refine r_seqJ (fun σ' H' => σ' = [some (.ref p), some (.ref L), some (.ref c0), some (.int (GV.wid rs : Nat)), some (.ref q), none, some (.ref q2), none, s8, some (.ref z9), none] ∧ Ex H6 H') (fun N hN => ?_) ?_
  · walk_at "rd"
    have row1 : ∀ {σ : L2.St} {H7 H8 : Hp} {i : Nat} {R : VK}, (∀ t H4, Ex H8 H4 → H8 t = none → H4 t = some (.lst (([1] : List Int).map V.int)) → R (.ref t) H4) → tLst (tCons (tC (V.int 1)) tNil) σ H8 R := fun {σ H7 H8 i R} kR => by
      walk_at "rd"
      exact r_newL (sz_le (by simp)) fun t H4 ht e4 h4 => kR t H4 e4 ht h4
    refine ⟨_, rfl, by decide, by decide, ?_⟩
    refine r_lcLs (n := 9) (k := 5) walk_range (fun _ => ([1] : List Int).map V.int) (by decide) (fun _ _ => trivial) (fun _ => rfl) ?_ ?_
    · rintro i y H7 H8 hi e7 ⟨rfl, rfl⟩
      refine ⟨Ex.refl _, fun R kR => ?_⟩
      walk_at "rd"
      exact r_newL (sz_le (by simp)) fun t H4 ht e4 h4 => kR t H4 e4 ht h4
    intro a9 us9 H7 ha9 e7 h7 hlen7 hnd7 hnew7 hrow7
    have la7 : LA H7 us9 rep9 := la_rows hlen7 hrow7
    walk_at "rd"
    refine made_ok h7 la7 rep9_ok.1 rep9_ok.2.2 rep9_ok.2.1 fun t H8 e8 hv8 => ?_
    walk_at "rd"
    refine ⟨_, rfl, by decide, by decide, ?_⟩
    refine r_lcLs (n := 9) (k := 5) walk_range (fun _ => ([1] : List Int).map V.int) (by decide) (fun _ _ => trivial) (fun _ => rfl) ?_ ?_
    · rintro i y H9 H10 hi e9 ⟨rfl, rfl⟩
      refine ⟨Ex.refl _, fun R kR => ?_⟩
      walk_at "rd"
      exact r_newL (sz_le (by simp)) fun t H4 ht e4 h4 => kR t H4 e4 ht h4
    intro b9 ws9 H9 hb9 e9 h9 hlen9 hnd9 hnew9 hrow9
    have la9 : LA H9 ws9 rep9 := la_rows hlen9 hrow9
    walk_at "rd"
    refine r_Is (hv8.ex e9) h9 la9 rep9_ok.2.2 fun H10 e10 => ?_
    refine ⟨_, rfl, ite_f rfl ?_⟩
    walk_at "rd"
    exact hN _ _ ⟨rfl, ((e7.trans e8).trans e9).trans e10⟩
  rintro σ' H7 ⟨rfl, e7⟩
  have hL7 := e7 _ _ hL6
  have laL7 := laL6.ex e7
  clear hL6 laL6 e7
  refine r_seqJ (fun σ' H' => ∃ s8, σ' = [some (.ref p), some (.ref L), some (.ref c0), some (.int (GV.wid rs : Nat)), some (.ref q), none, some (.ref q2), none, s8, some (.ref z9), none]) (fun N hN => ?_) ?_
  · walk_at "rd"
    refine r_newL (sz_le (by simp)) fun x1 H8 f8 e8 h8 => ?_
    walk_at "rd"
    refine r_newT (sz_le (by simp)) fun x2 H9 f9 e9 h9 => ?_
    walk_at "rd"
    have e79 := e8.trans e9
    refine r_Vec2 (xs := cs.map V.ref) (os := rs.map some) ⟨L, rfl, .inl (e79 _ _ hL7)⟩ ((laL7.ex e79).rits sh) (by rw [List.length_map]; omega) (by rw [rows_some]; exact hcl.z) (fun z => by rw [GV.shB_some sh] at z; cases z) (fun _ z => by rw [rows_some, hok.2] at z; cases z) fun _ x3 H10 f10 e10 hv10 => ?_
    walk_at "rd"
    refine r_newL (sz_le (by simp)) fun x4 H11 f11 e11 h11 => ?_
    have hns : ∀ v ∈ [V.non, V.int 5, V.bl true, V.ref x1, V.ref x2, V.ref x3], NS K H11 v := fun v hv => by
      simp only [List.mem_cons, List.not_mem_nil, or_false] at hv
      rcases hv with rfl | rfl | rfl | rfl | rfl | rfl
      · exact .inl ⟨"NoneType", by decide, by decide, .non⟩
      · exact .inl ⟨"int", by decide, by decide, .int _⟩
      · exact .inl ⟨"bool", by decide, by decide, .bl _⟩
      · exact .inl ⟨"list", by decide, by decide, .lst (((e9.trans e10).trans e11) _ _ h8)⟩
      · exact .inl ⟨"tuple", by decide, by decide, .tup ((e10.trans e11) _ _ h9)⟩
      · exact .inr (hv10.own.ex e11)
    have hll : [V.non, V.int 5, V.bl true, V.ref x1, V.ref x2, V.ref x3].length ≤ 10 := by simp
    generalize [V.non, V.int 5, V.bl true, V.ref x1, V.ref x2, V.ref x3] = vals at h11 hns hll
    walk_at "rd"
    refine ⟨x4, rfl, ⟨_, SqL.of h11⟩, ?_⟩
    refine for_of (walk_list (xs := vals)) (fun _ σ' H' => ∃ s8, σ' = [some (.ref p), some (.ref L), some (.ref c0), some (.int (GV.wid rs : Nat)), some (.ref q), none, some (.ref q2), none, s8, some (.ref z9), none] ∧ Ex H11 H') ⟨_, rfl, Ex.refl _⟩ (fun _ _ _ _ ⟨_, _, e⟩ => SqL.of (e _ _ h11)) ?_ ?_
    · rintro m x σ' H13 H12 hm ⟨s8, rfl, e12⟩ ⟨rfl, hx⟩
      refine r_gName ?_
      walk_at "rd"
      refine .inr ⟨((hns x (List.mem_of_getElem? hx)).ex e12).kit T, fun t H14 e14 h14 => ?_⟩
      walk_at "rd"
      refine r_newT (sz_le (by simp)) fun t1 H15 ht1 e15 h15 => ?_
      refine r_neStop (n := 0) (e15 _ _ h14) h15 ?_
      walk_at "rd"
      refine ite_f rfl ?_
      walk_at "rd"
      exact ⟨_, rfl, (e12.trans e14).trans e15⟩
    · rintro σ' H' ⟨s8, rfl, e'⟩
      exact hN _ _ ⟨s8, rfl⟩
  clear hL7 laL7
  rintro σ' H8 ⟨s8, rfl⟩
  have it1 : ∀ (m : Nat) (c d : Int), c.natAbs < 10 → d.natAbs < 10 → Its (nS c :: Str.ofString ":" :: (List.replicate m d).map nS) (some c :: none :: (List.replicate m d).map some) := fun m c d hc hd =>
    .cons (okI_nS (Nat.lt_of_lt_of_le hc (by decide))) (.cons (okI_no (by decide +kernel)) (its_ints fun x hx => by rw [List.eq_of_mem_replicate hx]; exact Nat.lt_of_lt_of_le hd (by decide)))
  refine r_seqJ (fun σ' H' => σ' = [some (.ref p), some (.ref L), some (.ref c0), some (.int (GV.wid rs : Nat)), some (.ref q), none, some (.ref q2), none, s8, some (.ref z9), none]) (fun N hN => ?_) ?_
  · walk_at "rd"
    refine ⟨_, 10, rfl, rfl, mulOk_small (by decide) (by decide) (by decide), ?_⟩
    walk_at "rd"
    refine ⟨_, _, rfl, rfl, (by decide +kernel), ?_⟩
    walk_at "rd"
    refine read_txt (ys := nS 1 :: Str.ofString ":" :: (List.replicate 10 (1 : Int)).map nS) (j := 11) (by decide +kernel) (by simp) (it1 10 1 1 (by decide) (by decide)) (by simp) (by decide +kernel) fun t H9 e9 h9 => ?_
    walk_at "rd"
    refine r_newT (sz_le (by simp)) fun t1 H10 ht1 e10 h10 => ?_
    refine r_neStop (n := 11) (e10 _ _ h9) h10 ?_
    walk_at "rd"
    refine ite_f rfl ?_
    walk_at "rd"
    refine ⟨_, 18, rfl, rfl, mulOk_small (by decide) (by decide) (by decide), ?_⟩
    walk_at "rd"
    refine ⟨_, _, rfl, rfl, (by decide +kernel), ?_⟩
    walk_at "rd"
    refine read_txt (ys := nS 2 :: Str.ofString ":" :: (List.replicate 18 (0 : Int)).map nS) (j := 19) (by decide +kernel) (by simp) (it1 18 2 0 (by decide) (by decide)) (by simp) (by decide +kernel) fun t H11 e11 h11 => ?_
    walk_at "rd"
    refine r_newT (sz_le (by simp)) fun t2 H12 ht2 e12 h12 => ?_
    refine r_neStop (n := 19) (e12 _ _ h11) h12 ?_
    walk_at "rd"
    exact hN _ _ rfl
  rintro σ' H9 rfl
  walk_at "rd"
  refine read_txt (ys := [Str.ofString ""]) (vs := [none]) (j := 0) (by decide +kernel) (by simp) (.cons (okI_no (by decide +kernel)) .nil) (by simp) (by decide +kernel) fun t H10 e10 h10 => ?_
  walk_at "rd"
  refine r_newT (sz_le (by simp)) fun t1 H11 ht1 e11 h11 => ?_
  refine r_eqStop (n := 0) (e11 _ _ h10) h11 ?_
  refine ⟨_, rfl, ite_t rfl ?_⟩
  walk_at "rd"
  refine read_txt (ys := [nS 1]) (vs := [some 1]) (j := 1) (by decide +kernel) (by simp) (.cons (okI_nS (by decide)) .nil) (by simp) (by decide +kernel) fun t2 H12 e12 h12 => ?_
  walk_at "rd"
  refine r_newT (sz_le (by simp)) fun t3 H13 ht3 e13 h13 => ?_
  refine r_eqStop (n := 1) (e13 _ _ h12) h13 ?_
  refine ⟨_, rfl, ite_t rfl ?_⟩
  walk_at "rd"
  refine read_txt (ys := [nS 1, Str.ofString ":"]) (vs := [some 1, none]) (j := 2) (by decide +kernel) (by simp) (.cons (okI_nS (by decide)) (.cons (okI_no (by decide +kernel)) .nil)) (by simp) (by decide +kernel) fun t4 H14 e14 h14 => ?_
  walk_at "rd"
  refine r_newT (sz_le (by simp)) fun t5 H15 ht5 e15 h15 => ?_
  exact r_eqStop (n := 2) (e15 _ _ h14) h15 (k H15)

end K31
namespace K31
open PySem PySem.Spec PyProof.Rows L2 GS TL
local macro_rules | `(tactic| walk_at "rd") => `(tactic| (repeat (first
  | with_reducible refine r_next ?_
  | with_reducible refine r_seq ?_
  | with_reducible refine r_ret ?_
  | with_reducible refine r_ifS ?_
  | with_reducible refine r_asg ?_
  | with_reducible refine r_drop ?_
  | with_reducible refine r_op ?_
  | with_reducible refine r_un ?_
  | with_reducible refine r_cbInt ?_
  | with_reducible refine r_cbAbs ?_
  | with_reducible refine r_cbLen ?_
  | with_reducible refine r_cbList ?_
  | with_reducible refine r_cbTup ?_
  | with_reducible refine r_iEnT ?_
  | with_reducible refine r_iEnL ?_
  | with_reducible refine r_zipA ?_
  | with_reducible refine r_zipX ?_
  | with_reducible refine r_augS ?_
  | with_reducible refine r_cb ?_
  | with_reducible refine r_call ?_
  | with_reducible refine r_make ?_
  | with_reducible refine r_callN0 ?_
  | with_reducible refine r_makeK0 ?_
  | with_reducible refine r_makeS ?_
  | with_reducible refine r_callS ?_
  | with_reducible refine r_cons ?_
  | with_reducible refine r_nil ?_
  | with_reducible refine r_test ?_
  | with_reducible refine r_B ?_
  | with_reducible refine r_and ?_
  | with_reducible refine r_or ?_
  | with_reducible refine r_not ?_
  | with_reducible refine r_andV ?_
  | with_reducible refine r_orV ?_
  | with_reducible refine r_notV ?_
  | with_reducible refine r_if ?_
  | with_reducible refine r_tup ?_
  | with_reducible refine r_lst ?_
  | with_reducible refine r_c ?_
  | with_reducible refine r_lc ?_
  | with_reducible refine r_chain ?_
  | with_reducible refine r_iT ?_
  | with_reducible refine r_iL ?_
  | with_reducible refine r_iR1 ?_
  | with_reducible refine r_iR2 ?_
  | with_reducible refine r_iR3 ?_
  | with_reducible refine r_asgG ?_
  | with_reducible refine r_gSub ?_
  | with_reducible refine r_for ?_
  | with_reducible refine r_smeth ?_
  | with_reducible refine r_par ?_
  | with_reducible refine r_parK ?_
  | with_reducible refine r_gCons ?_
  | with_reducible refine r_gNil ?_
  | with_reducible refine r_gName ?_
  | with_reducible refine r_intI ?_
  | with_reducible refine r_intB ?_
  | with_reducible refine r_absI ?_
  | with_reducible refine r_k ?_
  | with_reducible refine r_kV ?_
  | ((with_reducible show tVar _ _ _ _); refine r_var3 ?_ (by rfl))
  | with_reducible refine r_I0 ?_
  | with_reducible refine r_U ?_
  | with_reducible refine r_eqI ?_
  | with_reducible refine r_neI ?_
  | with_reducible refine r_F ?_
  | dsimp only)))
local macro_rules | `(tactic| walk_at "rx") => `(tactic| (repeat (first
  | with_reducible refine r_next ?_
  | with_reducible refine r_ret ?_
  | with_reducible refine r_ifS ?_
  | with_reducible refine r_asg ?_
  | with_reducible refine r_drop ?_
  | with_reducible refine r_op ?_
  | with_reducible refine r_un ?_
  | with_reducible refine r_cbInt ?_
  | with_reducible refine r_cbAbs ?_
  | with_reducible refine r_cbLen ?_
  | with_reducible refine r_cbList ?_
  | with_reducible refine r_cbTup ?_
  | with_reducible refine r_iEnT ?_
  | with_reducible refine r_iEnL ?_
  | with_reducible refine r_zipA ?_
  | with_reducible refine r_zipX ?_
  | with_reducible refine r_augS ?_
  | with_reducible refine r_cb ?_
  | with_reducible refine r_call ?_
  | with_reducible refine r_make ?_
  | with_reducible refine r_callN0 ?_
  | with_reducible refine r_makeK0 ?_
  | with_reducible refine r_makeS ?_
  | with_reducible refine r_callS ?_
  | with_reducible refine r_cons ?_
  | with_reducible refine r_nil ?_
  | with_reducible refine r_test ?_
  | with_reducible refine r_B ?_
  | with_reducible refine r_and ?_
  | with_reducible refine r_or ?_
  | with_reducible refine r_not ?_
  | with_reducible refine r_andV ?_
  | with_reducible refine r_orV ?_
  | with_reducible refine r_notV ?_
  | with_reducible refine r_if ?_
  | with_reducible refine r_tup ?_
  | with_reducible refine r_lst ?_
  | with_reducible refine r_c ?_
  | with_reducible refine r_lc ?_
  | with_reducible refine r_chain ?_
  | with_reducible refine r_iT ?_
  | with_reducible refine r_iL ?_
  | with_reducible refine r_iR1 ?_
  | with_reducible refine r_iR2 ?_
  | with_reducible refine r_iR3 ?_
  | with_reducible refine r_asgG ?_
  | with_reducible refine r_gSub ?_
  | with_reducible refine r_for ?_
  | with_reducible refine r_smeth ?_
  | with_reducible refine r_par ?_
  | with_reducible refine r_parK ?_
  | with_reducible refine r_gCons ?_
  | with_reducible refine r_gNil ?_
  | with_reducible refine r_gName ?_
  | with_reducible refine r_intI ?_
  | with_reducible refine r_intB ?_
  | with_reducible refine r_absI ?_
  | with_reducible refine r_k ?_
  | with_reducible refine r_kV ?_
  | ((with_reducible show tVar _ _ _ _); refine r_var3 ?_ (by rfl))
  | with_reducible refine r_I0 ?_
  | with_reducible refine r_U ?_
  | with_reducible refine r_eqI ?_
  | with_reducible refine r_neI ?_
  | with_reducible refine r_F ?_
  | dsimp only)))
/-! ### the law -/
def spLaw (K : PySem.W.Frag) : Sp := sp1 fun v H Q _ => ∃ (L : Addr) (xs : List Int), v = .ref L ∧ SqL K H L (xs.map V.int) ∧ (∀ x ∈ xs, Z 2000000 x) ∧ ∀ H', Q (.bl true) H'
theorem misfit_eq {K : PySem.W.Frag} {H : Hp} {Q : VK} {p q : Addr} (h1 : H p = some (.tup [.str "MISFIT", .str "sum"])) (h2 : H q = some (.tup [.str "MISFIT", .str "sum"])) (k : Q (.bl true) H) : rEqD K (.ref p) (.ref q) H Q := by
  refine ⟨_, _, .tup (SqT.of h1) (.cons (.str "MISFIT") (.cons (.str "sum") .nil)), .tup (SqT.of h2) (.cons (.str "MISFIT") (.cons (.str "sum") .nil)), by decide +kernel, by decide +kernel, ?_⟩
  exact k
theorem ok_law {P : Program} {w : World} {K : PySem.W.Frag} {mg : Str → Option Value} {base : Heap} {fd : FuncData} (T : Txt K mg) (F : FunD K "law" "law" (defArgs s_law) (defBody s_law) (defScope s_law) [] [] (He.ga K "law") fd) : FnOk P w K mg base (L2.CX P w) 9 (He.ga K "law") fd ["script"] (spLaw K) := by
  obtain ⟨fd__law_odd_right, F__law_odd_right, B__law_odd_right⟩ := ok__law_odd_right (P := P) (w := w) (base := base) T
  obtain ⟨fd__law_total, F__law_total, B__law_total⟩ := ok__law_total (P := P) (w := w) (base := base) T
  obtain ⟨fd__law_is, F__law_is, B__law_is⟩ := ok__law_is (P := P) (w := w) (base := base) T
  obtain ⟨fd__law_made, F__law_made, B__law_made⟩ := ok__law_made (P := P) (w := w) (base := base) T
  obtain ⟨fd__law_weft, F__law_weft, B__law_weft⟩ := ok__law_weft (P := P) (w := w) (base := base) T
  obtain ⟨fd__law_number, F__law_number, B__law_number⟩ := ok__law_number (P := P) (w := w) (base := base) T
  obtain ⟨fd__law_texts_right, F__law_texts_right, B__law_texts_right⟩ := ok__law_texts_right (P := P) (w := w) (base := base) T
  obtain ⟨fd__law_rows_right, F__law_rows_right, B__law_rows_right⟩ := ok__law_rows_right (P := P) (w := w) (base := base) T
  obtain ⟨fd__law_cloth, F__law_cloth, B__law_cloth⟩ := ok__law_cloth (P := P) (w := w) (base := base) T
  obtain ⟨fd__law_loom, F__law_loom, B__law_loom⟩ := ok__law_loom (P := P) (w := w) (base := base) T
  refine F.ok sc_law sp1_len (fun cdv A outer s H vs Q E hr h => ?_)
  have hr__law_odd_right : Room 8 _ := hr.mono (by decide)
  have hr__law_total : Room 1 _ := hr.mono (by decide)
  have hr__law_is : Room 7 _ := hr.mono (by decide)
  have hr__law_made : Room 6 _ := hr.mono (by decide)
  have hr__law_weft : Room 1 _ := hr.mono (by decide)
  have hr__law_number : Room 3 _ := hr.mono (by decide)
  have hr__law_texts_right : Room 8 _ := hr.mono (by decide)
  have hr__law_rows_right : Room 8 _ := hr.mono (by decide)
  have hr__law_cloth : Room 5 _ := hr.mono (by decide)
  have hr__law_loom : Room 1 _ := hr.mono (by decide)
  obtain ⟨v0, rfl, L, xs, rfl, hL, hz, k⟩ := sp1_is h
  refine ⟨_, (pss_cons (ps_set (i := 1) sc_law.nd rfl (Or.inr rfl) (pe_call F__law_loom hr__law_loom (by rfl) T.g__law_loom T.k__law_loom B__law_loom .nil passL (pa_cons (pv 0) pa_nil)))
      (pss_cons (ps_for (passes_of rfl) rfl (pi_range1 (by rfl) T.b_range (pa_cons pe_int pa_nil)) (pg_name (i := 2) sc_law.nd rfl (Or.inl rfl)) (pss_cons (ps_set (i := 3) sc_law.nd rfl (Or.inl rfl) (pe_call F__law_cloth hr__law_cloth (by rfl) T.g__law_cloth T.k__law_cloth B__law_cloth .nil passL (pa_cons (pv 1) (pa_cons pe_int pa_nil))))
      (pss_one (ps_if (PW.pt (pw_or (pt_not (pt_val (pe_call F__law_rows_right hr__law_rows_right (by rfl) T.g__law_rows_right T.k__law_rows_right B__law_rows_right .nil passL (pa_cons (pv 1) (pa_cons (pv 3) pa_nil))))) (pw_or1 (pt_not (pt_val (pe_call F__law_texts_right hr__law_texts_right (by rfl) T.g__law_texts_right T.k__law_texts_right B__law_texts_right .nil passL (pa_cons (pv 1) (pa_cons (pv 3) pa_nil)))))))) (pss_one (ps_ret pe_bl)) pss_nil))))
      (pss_cons (ps_setLc (i := 4) (own := [("turn", 2)]) (g := gName 2) (tt := tYes)  rfl sc_law.nd rfl rfl (sw_true rfl rfl rfl (by decide +kernel)) (pi_range1 (by rfl) T.b_range (pa_cons (pe_op op_add pe_int (pe_call F__law_weft hr__law_weft (by rfl) T.g__law_weft T.k__law_weft B__law_weft .nil passL (pa_cons (pv 1) (pa_cons pe_int pa_nil)))) pa_nil)) (blkOk_by (own := [("turn", 2)]) (N := ["script", "loom", "turn", "rows", "wild", "spot", "told"]) (sc := defScope s_law) (by decide +kernel)) (fun _ _ _ _ _ => (pg_name (i := 2) sc_law.nd rfl (Or.inl rfl))) (fun _ _ _ _ _ => pts_nil) (fun _ _ _ _ _ => (pe_lc (own := [("spot", 5)]) (g := gName 5) (tt := tYes)  rfl sc_law.nd (pi_range1 (by rfl) T.b_range (pa_cons pe_int pa_nil)) (blkOk_by (own := [("spot", 5)]) (N := ["script", "loom", "turn", "rows", "wild", "spot", "told"]) (by rfl)) (fun _ _ _ _ _ => (pg_name (i := 5) sc_law.nd rfl (Or.inl rfl))) (fun _ _ _ _ _ => pts_nil) (fun _ _ _ _ _ => (pe_call F__law_number hr__law_number (by rfl) T.g__law_number T.k__law_number B__law_number .nil passL (pa_cons (pv 1) (pa_cons pe_int pa_nil)))))))
      (pss_cons (ps_set (i := 6) sc_law.nd rfl (Or.inl rfl) (pe_call F__law_made hr__law_made (by rfl) T.g__law_made T.k__law_made B__law_made .nil passL (pa_cons (pv 4) pa_nil)))
      (pss_cons (ps_if (pt_not (pt_ifExp (pt_cmpR op_notN (pe_call F__law_total hr__law_total (by rfl) T.g__law_total T.k__law_total B__law_total .nil passL (pa_cons (pv 4) pa_nil)) pe_non (nomark _)) (pt_val (pe_call F__law_is hr__law_is (by rfl) T.g__law_is T.k__law_is B__law_is .nil passL (pa_cons (pv 6) (pa_cons (pv 4) pa_nil)))) (pt_cmpR (op_eqD hr.units) (pv 6) (pe_tup (pa_cons pe_str (pa_cons pe_str pa_nil))) (nomark _)))) (pss_one (ps_ret pe_bl)) pss_nil)
      (pss_one (ps_ret (pe_call F__law_odd_right hr__law_odd_right (by rfl) T.g__law_odd_right T.k__law_odd_right B__law_odd_right .nil passL (pa_cons (pv 1) (pa_cons (pv 3) pa_nil)))))))))), ?_⟩
  walk_at "rd"
  refine ⟨L, xs, rfl, hL, hz, fun b H1 e1 hb0 hb => ?_⟩
  walk_at "rd"
  refine ⟨2, rfl, by decide, by decide, ?_⟩
  refine for_of (walk_range (lo := 0) (n := 2)) (fun i σ' H' => Bag H' b (400 * (i : Nat)) ∧ ∃ s2 s3, σ' = [some (.ref L), some (.ref b), s2, s3, none, none, none] ∧ (i ≠ 0 → ∃ q cs rs, s3 = some (.ref q) ∧ H' q = some (.lst (cs.map V.ref)) ∧ LA H' cs rs ∧ GV.okR rs ∧ clZ rs)) ⟨hb.le (by decide), none, none, rfl, fun z => absurd rfl z⟩ (fun _ _ _ _ _ => trivial) ?_ ?_
  · rintro i x σ' H2 H' hi ⟨hb2, s2, s3, rfl, _⟩ ⟨rfl, rfl⟩
    have hi' : (400 * (i : Int)) ≤ 400 := by omega
    refine r_gName ?_
    walk_at "rd"
    refine ⟨b, _, rfl, rfl, by omega, hb2, fun q cs rs H3 g3 b3 _ _ h3 la3 hok hcl => ?_⟩
    walk_at "rd"
    refine ⟨b, _, q, cs, rs, rfl, rfl, h3, la3, hok, hcl, (by omega : 400 * (i : Int) + 300 ≤ 80000), b3, fun H4 g4 b4 => ?_⟩
    refine ⟨_, rfl, ite_f rfl ?_⟩
    walk_at "rd"
    have h4 := g4.at_ (ls_ne b3 h3) h3
    have la4 := la3.bg b3 g4
    refine ⟨b, _, q, cs, rs, rfl, rfl, h4, la4, hok, hcl, (by omega : 400 * (i : Int) + 300 + 10 ≤ 80000), b4, fun H5 g5 b5 => ?_⟩
    refine ⟨_, rfl, ite_f rfl ?_⟩
    walk_at "rd"
    exact ⟨b5.le (by push_cast; omega), _, _, rfl, fun _ => ⟨q, cs, rs, rfl, g5.at_ (ls_ne b4 h4) h4, la4.bg b4 g5, hok, hcl⟩⟩
  · rintro σ' H2 ⟨hb2, s2, s3, rfl, hq⟩
    obtain ⟨q, cs, rs, rfl, h2, la2, hok, hcl⟩ := hq (by decide)
    dsimp only
    walk_at "rd"
    refine r_DrawG hb2 (by decide) (by decide) (zsm (by decide)) fun r H3 r0 r1 g3 b3 => ?_
    walk_at "rd"
    obtain ⟨m, hm⟩ : ∃ m : Nat, 1 + r = (m : Int) := ⟨(1 + r).toNat, by omega⟩
    rw [hm]
    refine ⟨_, rfl, by omega, by omega, ?_⟩
    rw [Int.toNat_natCast]
    have b3' : Bag H3 b 801 := b3.le (by omega)
    have h3 := g3.at_ (ls_ne hb2 h2) h2
    have la3 := la2.bg hb2 g3
    have nb : ∀ {D : Addr}, H3 D = none → D ≠ b := fun {D} hD z => by
      obtain ⟨_, _, _, _, hx, _⟩ := b3.is
      rw [z, hx] at hD
      cases hD
    refine r_lcG (n := m) (walk_range (lo := 0) (n := m)) (fun D i ys H' => ∃ (ts : List Addr) (qs : List (List Int)), ys = ts.map V.ref ∧ D ∉ ts ∧ LA H' ts qs ∧ (∀ r ∈ qs, r.length = 2 ∧ ∀ c ∈ r, -6 ≤ c ∧ c ≤ 6) ∧ Bg b H3 H' ∧ Bag H' b (801 + 4 * (i : Nat))) (by omega) (fun _ _ _ _ _ => trivial) (fun D hD => ⟨[], [], rfl, by simp, LA.nil, (fun r h => nomatch h), (Bg.refl b H3).updD b3' hD, (b3'.le (by omega)).updD b3' (Bg.refl b H3) hD⟩) ?_ ?_ ?_
    · rintro D i ys H' o hD ⟨ts, qs, e, hn, hl, hz', g, hb'⟩
      exact ⟨ts, qs, e, hn, hl.upd hn, hz', g.updD b3' hD, hb'.updD b3' g hD⟩
    · rintro D i x ys H5 H4 hi hD hl li ⟨ts, qs, rfl, hn, hla, hz', g, hb'⟩ ⟨rfl, rfl⟩ N hN
      refine r_gName ⟨rfl, ?_⟩
      walk_at "rd"
      refine ⟨2, rfl, by decide, by decide, ?_⟩
      refine r_lcG (n := 2) (walk_range (lo := 0) (n := 2)) (fun D2 j ys2 H' => ∃ zs : List Int, ys2 = zs.map V.int ∧ (∀ c ∈ zs, -6 ≤ c ∧ c ≤ 6) ∧ Bg b H4 H' ∧ Bag H' b (801 + 4 * (i : Nat) + 2 * (j : Nat))) (by decide) (fun _ _ _ _ _ => trivial) (fun D2 hD2 => ⟨[], rfl, (fun _ h => nomatch h), (Bg.refl b H4).updD hb' hD2, (hb'.le (by omega)).updD hb' (Bg.refl b H4) hD2⟩) ?_ ?_ ?_
      · rintro D2 j ys2 H' o hD2 ⟨zs, e, hzs, g4, hb4⟩
        exact ⟨zs, e, hzs, g4.updD hb' hD2, hb4.updD hb' g4 hD2⟩
      · rintro D2 j y ys2 H6 H' hj hD2 hl2 li2 ⟨zs, rfl, hzs, g4, hb4⟩ ⟨rfl, rfl⟩ N2 hN2
        refine r_gName ⟨rfl, ?_⟩
        walk_at "rd"
        have nb2 : D2 ≠ b := fun z => by
          obtain ⟨_, _, _, _, hx, _⟩ := hb'.is
          rw [z, hx] at hD2
          cases hD2
        refine r_Num hb4 (by omega) (by decide) (by decide) fun c H7 c0 c1 g7 b7 => hN2 _ H7 (g7.at_ nb2 hl2) ⟨zs ++ [c], by simp, fun d hd => ?_, g4.trans g7, b7.le (by push_cast; omega)⟩
        rcases List.mem_append.mp hd with hd | hd
        · exact hzs d hd
        · rw [List.mem_singleton.mp hd]; omega
      · rintro D2 ys2 H6 hD2 hl2 li2 ⟨zs, rfl, hzs, g4, hb4⟩
        have lz : zs.length = 2 := by simpa using li2
        have nDD : D2 ≠ D := fun z => by rw [z, hl] at hD2; cases hD2
        refine hN _ H6 (g4.at_ (nb hD) hl) ⟨ts ++ [D2], qs ++ [zs], by simp, fun z => ?_, (hla.bg hb' g4).app (LA.cons hl2 LA.nil), fun r hr => ?_, g.trans g4, hb4.le (by push_cast; omega)⟩
        · rcases List.mem_append.mp z with z | z
          · exact hn z
          · exact nDD (List.mem_singleton.mp z).symm
        · rcases List.mem_append.mp hr with hr | hr
          · exact hz' r hr
          · rw [List.mem_singleton.mp hr]; exact ⟨lz, hzs⟩
    · rintro D ys H4 hD hl li ⟨ts, qs, rfl, hn, hla, hz', g, hb'⟩
      have lts : ts.length = m := by simpa using li
      have lqs : qs.length = m := by rw [← hla.1]; exact lts
      have hqn : qs ≠ [] := by rintro rfl; simp at lqs; omega
      obtain ⟨shq, wq⟩ := GV.shE.sh (d := 2) (rs := qs) ⟨by omega, fun r hr => (hz' r hr).1⟩ (by decide) (by decide) hqn
      have rzq : rz qs := fun r hr c hc => by
        have := (hz' r hr).2 c hc
        exact Nat.lt_of_lt_of_le (show c.natAbs < 10 by omega) (by decide)
      have h4 := g.at_ (ls_ne b3 h3) h3
      have la4 := la3.bg b3 g
      have fin : ∀ {H5 : Hp} {s6 : Option V}, Ex H4 H5 → tRet (tCall (spOR K) [] E0 (tCons (tVar 1) (tCons (tVar 3) tNil))) { nx := fun x H' => Q V.non H', rt := Q } [some (V.ref L), some (V.ref b), s2, some (V.ref q), some (V.ref D), none, s6] H5 := fun {H5 s6} e => by
        walk_at "rd"
        exact ⟨b, _, q, cs, rs, rfl, rfl, e _ _ h4, la4.ex e, hok, hcl, (by omega : 801 + 4 * (m : Int) ≤ 80000), hb'.ex e, fun H' => k H'⟩
      walk_at "rx"
      cases hup : GV.upB qs with
      | true =>
        walk_at "rd"
        refine made_ok hl hla shq rzq hup fun t H5 e5 hv => ?_
        walk_at "rd"
        refine ⟨_, rfl, qs, ⟨D, ts, rfl, e5 _ _ hl, hla.ex e5⟩, .inr shq, rzq.z, fun H6 e6 => ?_⟩
        rw [tv_up shq hup]
        refine ⟨rfl, _, rfl, ite_t (by simp) ?_⟩
        walk_at "rd"
        refine r_Is (hv.ex e6) (e6 _ _ (e5 _ _ hl)) ((hla.ex e5).ex e6) rzq fun H7 e7 => ?_
        refine ⟨_, rfl, ite_f rfl ?_⟩
        exact fin ((e5.trans e6).trans e7)
      | false =>
        walk_at "rd"
        refine made_no hl hla shq rzq hup fun t H5 e5 ht => ?_
        walk_at "rd"
        refine ⟨_, rfl, qs, ⟨D, ts, rfl, e5 _ _ hl, hla.ex e5⟩, .inr shq, rzq.z, fun H6 e6 => ?_⟩
        rw [tv_no hup]
        refine ⟨rfl, _, rfl, ite_f (by simp) ?_⟩
        walk_at "rd"
        refine r_newT (sz_le (by simp)) fun t1 H7 ht1 e7 h7 => ?_
        refine misfit_eq (e7 _ _ (e6 _ _ ht)) h7 ?_
        refine ⟨_, rfl, ite_f rfl ?_⟩
        exact fin ((e5.trans e6).trans e7)

end K31
set_option maxHeartbeats 0
namespace K31
open PySem PySem.Spec PyProof.Rows L2 GS
theorem law_fact {P : Program} {w : World} {K : PySem.W.Frag} {h : Heap} {mg : Str → Option Value} {f : Addr} (X : K.In h) (G : h.Ns mainGlobals mg) (hf : mg ("law" : Str) = some (.ref f)) (c : SaysM fa_all ex_all fn_all K) :
    ∃ fd : FuncData, (∀ (s : Shared) (u : Value), BindsTo s fd ⟨[u], []⟩ [("script", u)]) ∧ ∀ base : Heap, FnOk P w K mg base (L2.CX P w) 9 f fd ["script"] (spLaw K) := by
  have T := txt_of X G c
  obtain ⟨fd, F⟩ := T.d_law
  have e := hf.symm.trans T.g_law
  cases e
  refine ⟨fd, fun s u => ?_, fun base => ok_law T F⟩
  exact F.bindsA (ps := ["script"]) (fun _ _ _ _ _ _ us hl => match us, hl with | [_], _ => rfl) s [u] rfl
theorem nothing_out {P : Program} {w : World} {H : Hp} {s s' : Shared} {e : Value} (c : L2.CX P w [] H s (fun _ _ _ => False) e s') : False := by
  obtain ⟨a, B, H', cls, d, -, -, -, -, -, -, -, z⟩ := c
  exact z
/-- the end of a law: the script's bits are told -/
theorem end_bits {l : PySem.W.OpenLaw} {k n : Nat} {q : Program} {loose : List Str} {XP : (Str → Option Value) → Heap → Prop} {YP : World → Heap → Prop} {d : DefRec} {x : Str} (most : l.most = some n) (line : n ≤ sizeLine) (plain : d.params.defaults = []) (room : Room k callerA)
    (F : ∀ (w : World) (mg : Str → Option Value) (fa : Addr) (h : Heap), YP w h → h.Ns mainGlobals mg → mg d.name = some (.ref fa) → ∃ (K : PySem.W.Frag) (fd : FuncData) (sp : Sp), K.In h ∧ (∀ (s : Shared) (u : Value), BindsTo s fd ⟨[u], []⟩ [(x, u)]) ∧
      (∀ (H : Hp) (a : Addr) (ns : List Int), (∀ z ∈ ns, Builtin.Int.intBits z ≤ 1048576) → SqL K H a (ns.map V.int) → sp [.ref a] H (fun v _ => v = .bl true) fun _ _ _ => False) ∧ ∀ base : Heap, FnOk l.prog w K mg base (L2.CX l.prog w) k fa fd [x] sp) :
    PySem.W.WalkO q loose XP YP l.row.toRowW d [] (fun f vs => PySem.call f vs) := by
  refine Att.attach_callB most plain fun w s₀ s₁ mg mb fa o pm cd doc a vs ns Gr Yp _ _ _ named there numb short bits gens => ?_
  obtain ⟨K, fd, sp, KX, binds, goes, ok⟩ := F w mg fa _ Yp Gr.T.g named
  refine law_call (sp := sp) (CX := L2.CX l.prog w) KX Gr.T.g Gr.T.b Gr.T.builtins Gr.T.nolimit gens there numb ?_ room ?_ binds ?_ ?_
  · exact Nat.le_trans short line
  · exact fun base _ _ => ok base
  · exact fun H _ hs => goes H a ns bits hs
  · exact fun H e s' z => nothing_out z
theorem bits_lt (n : Int) : n.natAbs < 2 ^ Builtin.Int.intBits n := by
  unfold Builtin.Int.intBits
  split
  · rename_i h
    have : n = 0 := by simpa using h
    subst this
    decide
  · exact Nat.lt_log2_self
theorem law_sp {K : PySem.W.Frag} {H : Hp} {a : Addr} {ns : List Int} (bits : ∀ z ∈ ns, Builtin.Int.intBits z ≤ 1048576) (hs : SqL K H a (ns.map V.int)) : spLaw K [.ref a] H (fun v _ => v = .bl true) fun _ _ _ => False := by
  refine ⟨a, ns, rfl, hs, fun x hx => ?_, fun _ => rfl⟩
  exact Nat.lt_of_lt_of_le (bits_lt x) (Nat.pow_le_pow_right (by decide) (Nat.le_trans (bits x hx) (by decide)))
end K31
open PySem PySem.W PySem.Calls PyProof.Rows
theorem PySem.Challenge.cw_goodsigns_k31_vectors_read_and_refused_holds : PySem.Challenge.rw_goodsigns_k31_vectors_read_and_refused.Holds := by
  w_on; o_law
  refine HandSHeadRun.head_any (r := K31.R) (q := view K31.R.prog [47]) (H := K31.hk) (ob := K31.ob) (M := 4000) (loose := K31.loose) (d := HandSHeadRun.topDef K31.R.prog 47) (kwd := []) K31.ob_eq ?a1 (fun s => ?a2) K31.run ?a3 ?a4 ?a5 ?a6 ?a7 ?a8 ?a9 ?hw ?hc
  case a1 => kernel_rfl
  case a2 => kernel_rfl
  case a3 => kernel_rfl
  case a4 => kernel_rfl
  case a5 => kernel_rfl
  case a6 => rfl
  case a7 => first | assumption | decide +kernel
  case a8 => decide +kernel
  case a9 => exact ⟨rfl, rfl, rfl, rfl, rfl, by decide +kernel⟩
  case hw => w_witness2
  case hc =>
    refine K31.end_bits (l := PySem.Challenge.rw_goodsigns_k31_vectors_read_and_refused) (n := 63) (k := 9) (x := "script") rfl (by decide) (by kernel_rfl) ⟨rfl, by decide, by decide⟩ fun w mg fa h Y G named => ?_
    obtain ⟨K, KX, c⟩ := Y
    have hmg : mg ("law" : PySem.Str) = some (.ref fa) := by
      have e : (HandSHeadRun.topDef K31.R.prog 47).name = ("law" : PySem.Str) := by kernel_rfl
      rw [← e]
      exact named
    obtain ⟨fd, hb, hF⟩ := K31.law_fact (P := (PySem.Challenge.rw_goodsigns_k31_vectors_read_and_refused).prog) (w := w) KX G hmg c
    exact ⟨K, fd, K31.spLaw K, KX, hb, fun H a ns bits hs => K31.law_sp bits hs, hF⟩
