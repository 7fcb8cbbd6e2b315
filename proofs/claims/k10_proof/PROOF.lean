import PyProof.Rows.All
import Wide.All
import OpenK.AllK
import Wide.FinOn
import HandS.ForMost
import HandS.ForExc
import HandS.ExcInit
import HandS.ExcField
import HandS.TryMany
import HandS.IsInst
import HandS.MakeKw
import HandS.OwnEq
import HandS.Wide
import HandS.Defaults
import HandS.ClsMeth
import KE.KCallOwn
import HandS.Head0
import HandS.Head1
import HandS.Head2
import HandS.HeadEnd
import HandS.HeadHook1
import HandS.HeadHook2
import HandS.HeadNt
import HandS.WideBits
import HandS.StrMore
import HandS.Walk
import HandS.MakeKwOnly
import HandS.TupAny
import HandS.Iter
import HandS.Zip
import HandS.Gcd
import HandS.Style
import PyProof.WalksMore
import KE.GoesMore
import KE.GoesEnum
import KE.KIsAll
import HandS.ExcIs
import Flt.RightSqrt
import PyProof.ReprRoads
import HandS.Lambda
import HandS.EndTab
import HandS.EndBits
import PyProof.StrBlock2
import HandS.SortInts
import HandS.RaiseMore
import HandS.CallLocal
import KE.KMathGC
import KE.KRevSl
import HandS.ExcValue
import HandS.HeadHook4
import KE.GoesZip
import HandS.NoneIn
import KE.GoesRaise
import HandS.SortRule
import HandS.Conv
import KE.KExcPX
import HandS.DeepEq
import HandS.DictComp
import HandS.Words
import PySem.Challenge.RW_goodsigns_k10_polys_of_tables
set_option Elab.async false
set_option linter.all false
set_option maxRecDepth 100000
set_option maxHeartbeats 4000000
/-! Polynomials as rows of integers, the highest power first. -/
namespace GM
/-- what a row is worth -/
def ev : List Int → Int → Int
  | [], _ => 0
  | a :: as, x => a * x ^ as.length + ev as x
def zadd (xs ys : List Int) : List Int := List.zipWith (· + ·) xs ys
def scl (a : Int) (bs : List Int) : List Int := bs.map (a * ·)
def zr (n : Nat) : List Int := List.replicate n 0
def mulH : List Int → List Int → List Int
  | [], bs => zr (bs.length - 1)
  | a :: as, bs => zadd (scl a bs ++ zr as.length) (0 :: mulH as bs)
theorem zr_len (n : Nat) : (zr n).length = n := by simp [zr]
theorem scl_len (a : Int) (bs : List Int) : (scl a bs).length = bs.length := by simp [scl]
theorem zadd_len {xs ys : List Int} (h : xs.length = ys.length) : (zadd xs ys).length = xs.length := by simp [zadd, h]
theorem ev_zr (n : Nat) (x : Int) : ev (zr n) x = 0 := by
  induction n with
  | zero => rfl
  | succ n ih => rw [zr, List.replicate_succ, ev]; show 0 * _ + ev (zr n) x = 0; rw [ih]; simp
theorem ev_append (as bs : List Int) (x : Int) : ev (as ++ bs) x = ev as x * x ^ bs.length + ev bs x := by
  induction as with
  | nil => simp [ev]
  | cons a as ih =>
    rw [List.cons_append, ev, ev, ih, List.length_append, Int.pow_add]
    grind
theorem ev_snoc (as : List Int) (a x : Int) : ev (as ++ [a]) x = ev as x * x + a := by
  rw [ev_append]
  simp [ev, Int.pow_succ]
theorem ev_scl (a : Int) (bs : List Int) (x : Int) : ev (scl a bs) x = a * ev bs x := by
  induction bs with
  | nil => simp [scl, ev]
  | cons b bs ih =>
    show ev (a * b :: scl a bs) x = _
    rw [ev, ev, ih, scl_len]
    grind
theorem ev_zadd : ∀ {xs ys : List Int}, xs.length = ys.length → ∀ x, ev (zadd xs ys) x = ev xs x + ev ys x
  | [], [], _, x => by simp [zadd, ev]
  | a :: as, b :: bs, h, x => by
    have h' : as.length = bs.length := by simpa using h
    show ev ((a + b) :: zadd as bs) x = _
    rw [ev, ev, ev, ev_zadd h' x, zadd_len h', h']
    grind
theorem mulH_len {bs : List Int} (hb : bs ≠ []) : ∀ as : List Int, (mulH as bs).length = as.length + bs.length - 1
  | [] => by simp [mulH, zr_len]
  | a :: as => by
    have ih := mulH_len hb as
    have : 0 < bs.length := List.length_pos_iff.mpr hb
    rw [mulH, zadd_len]
    · simp [scl_len, zr_len]; omega
    · simp [scl_len, zr_len, ih]; omega
theorem mulH_eq {bs : List Int} (hb : bs ≠ []) (a : Int) (as : List Int) : (scl a bs ++ zr as.length).length = (0 :: mulH as bs).length := by
  have : 0 < bs.length := List.length_pos_iff.mpr hb
  simp [scl_len, zr_len, mulH_len hb]; omega
theorem ev_mulH {bs : List Int} (hb : bs ≠ []) (x : Int) : ∀ as : List Int, ev (mulH as bs) x = ev as x * ev bs x
  | [] => by simp [mulH, ev_zr, ev]
  | a :: as => by
    rw [mulH, ev_zadd (mulH_eq hb a as), ev_append, ev_scl, ev_zr, ev, ev, ev_mulH hb x as, zr_len]
    grind
/-- rows of one length that are worth the same far out are one -/
theorem ext_ev : ∀ (n : Nat) {xs ys : List Int} (N : Int), xs.length = n → ys.length = n → (∀ x, N < x → ev xs x = ev ys x) → xs = ys
  | 0, xs, ys, _, hx, hy, _ => by rw [List.length_eq_zero_iff.mp hx, List.length_eq_zero_iff.mp hy]
  | n + 1, xs, ys, N, hx, hy, h => by
    rcases List.eq_nil_or_concat xs with rfl | ⟨as, a, rfl⟩
    · simp at hx
    rcases List.eq_nil_or_concat ys with rfl | ⟨bs, b, rfl⟩
    · simp at hy
    simp only [List.concat_eq_append] at *
    have hx' : as.length = n := by simpa using hx
    have hy' : bs.length = n := by simpa using hy
    have key : ∀ x, N < x → ev as x * x + a = ev bs x * x + b := fun x hx => by
      have := h x hx
      rwa [ev_snoc, ev_snoc] at this
    have ab : a = b := by
      have hk := key (N.natAbs + (b - a).natAbs + 1) (by omega)
      generalize hX : ((N.natAbs : Int) + (b - a).natAbs + 1) = X at hk
      have e : (ev as X - ev bs X) * X = b - a := by grind
      rcases Decidable.em (ev as X - ev bs X = 0) with z | z
      · rw [z] at e
        omega
      · have h1 : (b - a).natAbs = (ev as X - ev bs X).natAbs * X.natAbs := by rw [← e, Int.natAbs_mul]
        have h2 : 1 ≤ (ev as X - ev bs X).natAbs := by omega
        have h3 := Nat.mul_le_mul_right X.natAbs h2
        omega
    subst ab
    have : as = bs := ext_ev n (N.natAbs) hx' hy' fun x hx => by
      have hk := key x (by omega)
      have e : (ev as x - ev bs x) * x = 0 := by grind
      rcases Int.mul_eq_zero.mp e with z | z
      · omega
      · omega
    rw [this]
theorem ext_ev' {xs ys : List Int} (hl : xs.length = ys.length) (h : ∀ x, ev xs x = ev ys x) : xs = ys := ext_ev ys.length 0 hl rfl fun x _ => h x
/-! ### worths, step by step -/
def hor (x : Int) (t : Int) (l : List Int) : Int := l.foldl (fun t a => t * x + a) t
theorem hor_ev (x : Int) : ∀ (l : List Int) (t : Int), hor x t l = t * x ^ l.length + ev l x
  | [], t => by simp [hor, ev]
  | a :: l, t => by
    show hor x (t * x + a) l = _
    rw [hor_ev x l, ev, List.length_cons, Int.pow_succ]
    grind
/-! ### digits -/
def bal (b r : Int) : Int := if 2 * r > b then r - b else r
def digs (b : Int) : Nat → Int → List Int
  | 0, _ => []
  | n + 1, z => bal b (z % b) :: digs b n ((z - bal b (z % b)) / b)
theorem digs_len (b : Int) : ∀ (n : Nat) (z : Int), (digs b n z).length = n
  | 0, _ => rfl
  | n + 1, z => by simp [digs, digs_len b n]
theorem bal_of {b M c q : Int} (h : 2 * M < b) (h1 : -M ≤ c) (h2 : c ≤ M) : bal b ((q * b + c) % b) = c := by
  have hb : 0 < b := by omega
  have e : (q * b + c) % b = c % b := by rw [Int.add_comm, Int.add_mul_emod_self_right]
  rw [e, bal]
  rcases Int.lt_or_le c 0 with n | n
  · have : c % b = c + b := by
      rw [show c = (c + b) + (-1) * b by grind, Int.add_mul_emod_self_right]
      rw [Int.emod_eq_of_lt (by omega) (by omega)]
      grind
    rw [this, if_pos (by omega)]
    omega
  · rw [Int.emod_eq_of_lt n (by omega), if_neg (by omega)]
theorem digs_ev {b M : Int} (h : 2 * M < b) (h0 : 0 ≤ M) : ∀ (n : Nat) (l : List Int), l.length = n → (∀ c ∈ l, -M ≤ c ∧ c ≤ M) → digs b n (ev l b) = l.reverse
  | 0, l, hl, _ => by rw [List.length_eq_zero_iff.mp hl]; rfl
  | n + 1, l, hl, hc => by
    rcases List.eq_nil_or_concat l with rfl | ⟨as, a, rfl⟩
    · simp at hl
    simp only [List.concat_eq_append] at *
    have hl' : as.length = n := by simpa using hl
    obtain ⟨c1, c2⟩ := hc a (by simp)
    have e := bal_of (q := ev as b) h c1 c2
    rw [ev_snoc, digs, e, List.reverse_append, List.reverse_singleton, List.singleton_append]
    rw [show (ev as b * b + a - a) / b = ev as b by rw [Int.add_sub_cancel, Int.mul_ediv_cancel _ (by omega)]]
    rw [digs_ev h h0 n as hl' fun c m => hc c (by simp [m])]
/-! ### how great the numbers of a product are -/
theorem mem_zadd : ∀ {xs ys : List Int} {c : Int}, c ∈ zadd xs ys → ∃ a ∈ xs, ∃ b ∈ ys, c = a + b
  | [], _, c, h => by simp [zadd] at h
  | _ :: _, [], c, h => by simp [zadd] at h
  | a :: as, b :: bs, c, h => by
    rcases List.mem_cons.mp (show c ∈ (a + b) :: zadd as bs from h) with rfl | h
    · exact ⟨a, by simp, b, by simp, rfl⟩
    · obtain ⟨x, hx, y, hy, e⟩ := mem_zadd h
      exact ⟨x, by simp [hx], y, by simp [hy], e⟩
theorem mulH_le {bs : List Int} {A B : Nat} (hb : ∀ b ∈ bs, b.natAbs ≤ B) : ∀ (as : List Int), (∀ a ∈ as, a.natAbs ≤ A) → ∀ c ∈ mulH as bs, c.natAbs ≤ as.length * (A * B)
  | [], _, c, h => by
    have : c = 0 := (List.mem_replicate.mp h).2
    simp [this]
  | a :: as, ha, c, h => by
    obtain ⟨u, hu, v, hv, rfl⟩ := mem_zadd h
    have h1 : u.natAbs ≤ A * B := by
      rcases List.mem_append.mp hu with hu | hu
      · obtain ⟨b, hb', rfl⟩ := List.mem_map.mp hu
        rw [Int.natAbs_mul]
        exact Nat.mul_le_mul (ha a (by simp)) (hb b hb')
      · have : u = 0 := (List.mem_replicate.mp hu).2
        simp [this]
    have h2 : v.natAbs ≤ as.length * (A * B) := by
      rcases List.mem_cons.mp hv with rfl | hv
      · simp
      · exact mulH_le hb as (fun a m => ha a (by simp [m])) v hv
    rw [List.length_cons, Nat.add_mul]
    omega
/-! ### derived -/
def der : List Int → List Int
  | [] => []
  | [_] => []
  | a :: b :: as => a * ((as.length : Int) + 1) :: der (b :: as)
theorem der_len : ∀ l : List Int, (der l).length = l.length - 1
  | [] => rfl
  | [_] => rfl
  | a :: b :: as => by simp [der, der_len (b :: as)]
/-- the derivative's worth -/
def dv : List Int → Int → Int
  | [], _ => 0
  | a :: as, x => a * (as.length * x ^ (as.length - 1)) + dv as x
theorem ev_der (x : Int) : ∀ l : List Int, ev (der l) x = dv l x
  | [] => rfl
  | [a] => by simp [der, ev, dv]
  | a :: b :: as => by
    rw [der, ev, ev_der x (b :: as), der_len]
    show _ = a * (((b :: as).length : Int) * x ^ ((b :: as).length - 1)) + dv (b :: as) x
    simp only [List.length_cons, Nat.add_sub_cancel]
    rw [Int.natCast_add]
    grind
theorem dv_zr (n : Nat) (x : Int) : dv (zr n) x = 0 := by
  induction n with
  | zero => rfl
  | succ n ih => rw [zr, List.replicate_succ, dv]; show 0 * _ + dv (zr n) x = 0; rw [ih]; simp
theorem dv_scl (a : Int) (bs : List Int) (x : Int) : dv (scl a bs) x = a * dv bs x := by
  induction bs with
  | nil => simp [scl, dv]
  | cons b bs ih =>
    show dv (a * b :: scl a bs) x = _
    rw [dv, dv, ih, scl_len]
    grind
theorem dv_zadd : ∀ {xs ys : List Int}, xs.length = ys.length → ∀ x, dv (zadd xs ys) x = dv xs x + dv ys x
  | [], [], _, x => by simp [zadd, dv]
  | a :: as, b :: bs, h, x => by
    have h' : as.length = bs.length := by simpa using h
    show dv ((a + b) :: zadd as bs) x = _
    rw [dv, dv, dv, dv_zadd h' x, zadd_len h', h']
    grind
theorem pw_add (x : Int) (i j : Nat) : ((i + j : Nat) : Int) * x ^ (i + j - 1) = (i * x ^ (i - 1)) * x ^ j + x ^ i * (j * x ^ (j - 1)) := by
  rcases i with _ | i
  · simp
  · rcases j with _ | j
    · simp
    · rw [show i + 1 + (j + 1) - 1 = i + (j + 1) by omega, show i + 1 - 1 = i from rfl, show j + 1 - 1 = j from rfl, Int.pow_add, Int.pow_succ x j, Int.pow_succ x i]
      simp only [Int.natCast_add, Int.natCast_one]
      grind
theorem dv_append (as bs : List Int) (x : Int) : dv (as ++ bs) x = dv as x * x ^ bs.length + ev as x * (bs.length * x ^ (bs.length - 1)) + dv bs x := by
  induction as with
  | nil => simp [ev, dv]
  | cons a as ih =>
    rw [List.cons_append, dv, dv, ev, ih, List.length_append, pw_add]
    grind
theorem dv_mulH {bs : List Int} (hb : bs ≠ []) (x : Int) : ∀ as : List Int, dv (mulH as bs) x = dv as x * ev bs x + ev as x * dv bs x
  | [] => by simp [mulH, dv_zr, dv, ev]
  | a :: as => by
    rw [mulH, dv_zadd (mulH_eq hb a as), dv_append, dv_scl, dv_zr, ev_scl, dv, dv, ev, dv_mulH hb x as, zr_len]
    grind
/-- the rule of products -/
theorem der_mulH {as bs : List Int} (ha : 2 ≤ as.length) (hb : 2 ≤ bs.length) : zadd (mulH (der as) bs) (mulH as (der bs)) = der (mulH as bs) := by
  have nb : bs ≠ [] := fun z => by simp [z] at hb
  have nd : der bs ≠ [] := fun z => by have := der_len bs; rw [z] at this; simp at this; omega
  have e : (mulH (der as) bs).length = (mulH as (der bs)).length := by rw [mulH_len nb, mulH_len nd, der_len, der_len]; omega
  refine ext_ev' ?_ fun x => ?_
  · rw [zadd_len e, mulH_len nb, der_len, der_len, mulH_len nb]; omega
  · rw [ev_zadd e, ev_mulH nb, ev_mulH nd, ev_der, ev_der, ev_der, dv_mulH nb]
/-! ### a row added from a place on -/
def addR (l : List Int) (o : Nat) (s : Int) (b : List Int) : List Int := zadd l (zr o ++ (scl s b ++ zr (l.length - o - b.length)))
theorem addR_eq {l b : List Int} {o : Nat} (h : o + b.length ≤ l.length) (s : Int) : l.length = (zr o ++ (scl s b ++ zr (l.length - o - b.length))).length := by
  simp [zr_len, scl_len]; omega
theorem addR_len {l b : List Int} {o : Nat} (h : o + b.length ≤ l.length) (s : Int) : (addR l o s b).length = l.length := zadd_len (addR_eq h s)
theorem ev_addR {l b : List Int} {o : Nat} (h : o + b.length ≤ l.length) (s x : Int) : ev (addR l o s b) x = ev l x + s * ev b x * x ^ (l.length - o - b.length) := by
  rw [addR, ev_zadd (addR_eq h s), ev_append, ev_append, ev_zr, ev_zr, ev_scl, zr_len]
  grind
theorem zadd_get {xs ys : List Int} {k : Nat} (h1 : k < xs.length) (h2 : k < ys.length) : (zadd xs ys)[k]? = some (xs[k] + ys[k]) := by
  simp [zadd, List.getElem?_zipWith, h1, h2]
theorem addR_get {l b : List Int} {o : Nat} (h : o + b.length ≤ l.length) (s : Int) {k : Nat} (hk : k < l.length) : (addR l o s b)[k]? = some (l.getD k 0 + if o ≤ k ∧ k < o + b.length then s * b.getD (k - o) 0 else 0) := by
  have e := addR_eq h s
  rw [addR, zadd_get hk (by rw [← e]; exact hk)]
  have g : l.getD k 0 = l[k] := by simp [hk]
  rw [g]
  congr 2
  by_cases c1 : o ≤ k
  · by_cases c2 : k < o + b.length
    · rw [if_pos ⟨c1, c2⟩, List.getElem_append_right (by simpa [zr_len] using c1), List.getElem_append_left (by simp [zr_len, scl_len]; omega)]
      simp only [scl, List.getElem_map, zr_len]
      congr 1
      have : k - o < b.length := by omega
      simp [this]
    · rw [if_neg (fun z => c2 z.2), List.getElem_append_right (by simpa [zr_len] using c1), List.getElem_append_right (by simp [zr_len, scl_len]; omega)]
      simp [zr]
  · rw [if_neg (fun z => c1 z.1), List.getElem_append_left (by simp [zr_len]; omega)]
    simp [zr]
theorem addR_nil (l : List Int) (o : Nat) (s : Int) (h : o ≤ l.length) : addR l o s [] = l := by
  refine List.ext_getElem? fun k => ?_
  by_cases hk : k < l.length
  · rw [addR_get (by simpa using h) s hk]
    simp [hk]
  · rw [List.getElem?_eq_none (by rw [addR_len (by simpa using h)]; omega), List.getElem?_eq_none (by omega)]
theorem addR_step {l b : List Int} {o j : Nat} (h : o + b.length ≤ l.length) (hj : j < b.length) (s v : Int) (hv : v = (addR l o s (b.take j)).getD (o + j) 0 + s * b.getD j 0) : (addR l o s (b.take j)).set (o + j) v = addR l o s (b.take (j + 1)) := by
  have l1 : o + (b.take j).length ≤ l.length := by simp; omega
  have l2 : o + (b.take (j + 1)).length ≤ l.length := by simp; omega
  have old : (addR l o s (b.take j)).getD (o + j) 0 = l.getD (o + j) 0 := by
    rw [List.getD_eq_getElem?_getD, addR_get l1 s (by omega), if_neg (by simp; omega)]
    simp
  refine List.ext_getElem? fun k => ?_
  by_cases hk : k < l.length
  · rw [addR_get l2 s hk, List.getElem?_set]
    by_cases c : o + j = k
    · subst c
      rw [if_pos rfl, if_pos (by rw [addR_len l1]; exact hk), hv, old, if_pos (by simp; omega)]
      have : (b.take (j + 1)).getD (o + j - o) 0 = b.getD j 0 := by
        rw [show o + j - o = j by omega, List.getD_eq_getElem?_getD, List.getElem?_take_of_lt (by omega), List.getD_eq_getElem?_getD]
      rw [this]
    · rw [if_neg c, addR_get l1 s hk]
      congr 2
      have same : o ≤ k → k < o + j → (b.take j).getD (k - o) 0 = (b.take (j + 1)).getD (k - o) 0 := fun q0 q => by
        have z : k - o < j := by omega
        rw [List.getD_eq_getElem?_getD, List.getElem?_take_of_lt z, List.getD_eq_getElem?_getD, List.getElem?_take_of_lt (by omega)]
      have m1 : min j b.length = j := by omega
      have m2 : min (j + 1) b.length = j + 1 := by omega
      simp only [List.length_take, m1, m2]
      by_cases q : o ≤ k ∧ k < o + j
      · rw [if_pos q, if_pos ⟨q.1, by omega⟩, same q.1 q.2]
      · rw [if_neg q, if_neg (by omega)]
  · rw [List.getElem?_eq_none (by rw [List.length_set, addR_len l1]; omega), List.getElem?_eq_none (by rw [addR_len l2]; omega)]
/-! ### quotients -/
theorem ev_take {l : List Int} {j : Nat} (h : j < l.length) (x : Int) : ev (l.take (j + 1)) x = ev (l.take j) x * x + l.getD j 0 := by
  have : l.take (j + 1) = l.take j ++ [l.getD j 0] := by
    rw [List.take_add_one]
    simp [h]
  rw [this, ev_snoc]
theorem mulH_head {b : Int} {bs : List Int} (a : Int) (as : List Int) : (mulH (a :: as) (b :: bs)).headD 0 = a * b := by
  simp [mulH, zadd, scl]
theorem zr_append (i j : Nat) : zr i ++ zr j = zr (i + j) := by simp [zr]
theorem div_get {b : Int} {bs : List Int} {Q : List Int} {i : Nat} (hi : i < Q.length) : (zr i ++ mulH (Q.drop i) (b :: bs))[i]? = some (Q.getD i 0 * b) := by
  rw [List.getElem?_append_right (by simp [zr_len]), zr_len, Nat.sub_self, List.drop_eq_getElem_cons hi]
  have g : Q.getD i 0 = Q[i] := by simp [hi]
  rw [g, ← mulH_head (bs := bs) Q[i] (Q.drop (i + 1))]
  have : (mulH (Q[i] :: Q.drop (i + 1)) (b :: bs)) ≠ [] := fun z => by
    have := mulH_len (bs := b :: bs) (by simp) (Q[i] :: Q.drop (i + 1))
    rw [z] at this
    simp at this
    omega
  obtain ⟨c, cs, e⟩ := List.exists_cons_of_ne_nil this
  rw [e]
  rfl
theorem div_step {b : Int} {bs : List Int} {Q : List Int} {i : Nat} (hi : i < Q.length) : addR (zr i ++ mulH (Q.drop i) (b :: bs)) i (-(Q.getD i 0)) (b :: bs) = zr (i + 1) ++ mulH (Q.drop (i + 1)) (b :: bs) := by
  have ne : b :: bs ≠ [] := by simp
  have dl : (Q.drop i).length = Q.length - i := List.length_drop
  have dl' : (Q.drop (i + 1)).length = Q.length - (i + 1) := List.length_drop
  have l0 : (zr i ++ mulH (Q.drop i) (b :: bs)).length = Q.length + bs.length := by
    rw [List.length_append, zr_len, mulH_len ne, dl, List.length_cons]; omega
  have fit : i + (b :: bs).length ≤ (zr i ++ mulH (Q.drop i) (b :: bs)).length := by rw [l0, List.length_cons]; omega
  refine ext_ev' ?_ fun x => ?_
  · rw [addR_len fit, l0, List.length_append, zr_len, mulH_len ne, dl', List.length_cons]; omega
  · rw [ev_addR fit, ev_append, ev_append, ev_zr, ev_zr, ev_mulH ne, ev_mulH ne, l0, List.drop_eq_getElem_cons hi, ev, dl']
    have g : Q.getD i 0 = Q[i] := by simp [hi]
    rw [g, show Q.length + bs.length - i - (b :: bs).length = Q.length - (i + 1) by rw [List.length_cons]; omega]
    grind
/-! ### one number changed -/
theorem ev_set {l : List Int} {i : Nat} (h : i < l.length) (s x : Int) : ev (l.set i (l.getD i 0 + s)) x = ev l x + s * x ^ (l.length - 1 - i) := by
  have g : l.getD i 0 = l[i] := by simp [h]
  have e1 : l.set i (l.getD i 0 + s) = l.take i ++ (l[i] + s) :: l.drop (i + 1) := by rw [g, List.set_eq_take_append_cons_drop, if_pos h]
  have e2 : l = l.take i ++ l[i] :: l.drop (i + 1) := by rw [← List.drop_eq_getElem_cons h, List.take_append_drop]
  have dl : (l.drop (i + 1)).length = l.length - 1 - i := by rw [List.length_drop]; omega
  rw [e1]
  conv => rhs; rw [e2]
  rw [ev_append, ev_append, ev, ev, dl]
  simp only [List.length_append, List.length_cons, List.length_take, List.length_drop]
  rw [show min i l.length + (l.length - (i + 1) + 1) - 1 - i = l.length - 1 - i by omega]
  grind
theorem strip : ∀ (n : Nat) (l : List Int), l.length = n → (∀ x, ev l x = 0) ∨ ∃ l' a k, l = (l' ++ [a]) ++ zr k ∧ a ≠ 0
  | 0, l, h => .inl fun x => by rw [List.length_eq_zero_iff.mp h]; rfl
  | n + 1, l, h => by
    rcases List.eq_nil_or_concat l with rfl | ⟨as, a, rfl⟩
    · simp at h
    simp only [List.concat_eq_append] at *
    by_cases z : a = 0
    · subst z
      rcases strip n as (by simpa using h) with q | ⟨l', b, k, rfl, hb⟩
      · exact .inl fun x => by rw [ev_snoc, q x]; simp
      · refine .inr ⟨l', b, k + 1, ?_, hb⟩
        rw [List.append_assoc, show zr k ++ [0] = zr (k + 1) from (zr_append k 1)]
    · exact .inr ⟨as, a, 0, by simp [zr], z⟩
theorem ev_low (l : List Int) (a x : Int) : ∃ y, ev (l ++ [a]) x = x * y + a := ⟨ev l x, by rw [ev_snoc]; grind⟩
theorem mono {d o : List Int} {s : Int} {p : Nat} (hs : s = 1 ∨ s = -1) (ho : 0 < o.headD 0) (h : ∀ x, ev d x * ev o x = s * x ^ p) : o = 1 :: zr (o.length - 1) ∧ o.length - 1 ≤ p := by
  have one := h 1
  rw [Int.one_pow] at one
  rcases strip _ d rfl with q | ⟨d', b, k, ed, hb⟩
  · rw [q] at one
    omega
  rcases strip _ o rfl with q | ⟨o', a, l, eo, ha⟩
  · rw [q] at one
    omega
  have hh : ∀ x, (ev (d' ++ [b]) x * ev (o' ++ [a]) x) * x ^ (k + l) = s * x ^ p := fun x => by
    rw [← h x, ed, eo, ev_append _ (zr k), ev_append _ (zr l), ev_zr, ev_zr, zr_len, zr_len, Int.pow_add]
    grind
  have le : k + l ≤ p := by
    rcases Nat.lt_or_ge p (k + l) with c | c
    · obtain ⟨j, hj⟩ : ∃ j, k + l = p + (j + 1) := ⟨k + l - p - 1, by omega⟩
      have h3 := hh 2
      rw [hj, Int.pow_add, Int.pow_succ] at h3
      have np : (2 : Int) ^ p ≠ 0 := by have := Int.pow_pos (n := 2) (m := p) (by omega); omega
      have e : (ev (d' ++ [b]) 2 * ev (o' ++ [a]) 2 * 2 ^ j * 2) * 2 ^ p = s * 2 ^ p := by rw [← h3]; grind
      have := Int.eq_of_mul_eq_mul_right np e
      omega
    · exact c
  obtain ⟨r, rfl⟩ : ∃ r, p = k + l + r := ⟨p - (k + l), by omega⟩
  have hr : ∀ x, 0 < x → ev (d' ++ [b]) x * ev (o' ++ [a]) x = s * x ^ r := fun x hx => by
    have np : x ^ (k + l) ≠ 0 := by have := Int.pow_pos (n := x) (m := k + l) hx; omega
    refine Int.eq_of_mul_eq_mul_right np ?_
    rw [hh x, Int.pow_add]
    grind
  have r0 : r = 0 := by
    rcases r with _ | r
    · rfl
    · exfalso
      have nz : b * a ≠ 0 := Int.mul_ne_zero hb ha
      generalize hX : ((b * a).natAbs : Int) + 1 = X
      have hx := hr X (by omega)
      obtain ⟨y1, e1⟩ := ev_low d' b X
      obtain ⟨y2, e2⟩ := ev_low o' a X
      rw [e1, e2, Int.pow_succ] at hx
      have : b * a = X * (s * X ^ r - (X * y1 * y2 + y1 * a + b * y2)) := by grind
      have hd : X ∣ b * a := ⟨_, this⟩
      have := Int.natAbs_dvd_natAbs.mpr hd
      have := Nat.le_of_dvd (by omega) this
      omega
  subst r0
  have sq : ∀ x, 0 < x → ev (o' ++ [a]) x * ev (o' ++ [a]) x = 1 := fun x hx => by
    have e := hr x hx
    rw [Int.pow_zero, Int.mul_one] at e
    have u : (ev (o' ++ [a]) x).natAbs = 1 := by
      have : (ev (d' ++ [b]) x).natAbs * (ev (o' ++ [a]) x).natAbs = 1 := by rw [← Int.natAbs_mul, e]; omega
      exact Nat.eq_one_of_mul_eq_one_left this
    rcases Int.natAbs_eq (ev (o' ++ [a]) x) with z | z <;> rw [u] at z <;> rw [z] <;> decide
  have ne : o' ++ [a] ≠ [] := by simp
  have e : mulH (o' ++ [a]) (o' ++ [a]) = zr ((mulH (o' ++ [a]) (o' ++ [a])).length - 1) ++ [1] := by
    have l0 := mulH_len ne (o' ++ [a])
    simp only [List.length_append, List.length_singleton] at l0
    refine ext_ev _ 0 rfl (by rw [List.length_append, zr_len]; simp; omega) fun x hx => ?_
    rw [ev_mulH ne, sq x hx, ev_snoc, ev_zr]
    simp
  obtain ⟨c, cs, ec⟩ := List.exists_cons_of_ne_nil ne
  have hc : 0 < c := by
    rw [eo, ec] at ho
    simpa using ho
  rw [ec] at e
  have hd := mulH_head (b := c) (bs := cs) c cs
  have pos : 0 < c * c := Int.mul_pos hc hc
  rw [e] at hd
  have l0 := mulH_len (bs := c :: cs) (by simp) (c :: cs)
  rcases hcs : cs with _ | ⟨c2, cs2⟩
  · subst hcs
    simp [mulH, zadd, scl, zr] at hd
    have c1 : c = 1 := by
      rcases Int.lt_or_le c 2 with z | z
      · omega
      · have := Int.mul_le_mul z z (by omega) (by omega)
        omega
    subst c1
    rw [eo, ec]
    exact ⟨by simp [zr_len], by simp [zr_len] <;> omega⟩
  · exfalso
    subst hcs
    rw [l0] at hd
    simp only [List.length_cons] at hd
    rw [show cs2.length + 1 + 1 + (cs2.length + 1 + 1) - 1 - 1 = (cs2.length + cs2.length + 1) + 1 by omega] at hd
    simp [zr, List.replicate_succ] at hd
    omega
/-- the quotient of a product of which one number is changed -/
theorem changed {one other Q : List Int} {power : Nat} {s : Int} (hs : s = 1 ∨ s = -1) (h1 : one ≠ []) (ho : 0 < other.headD 0) (hl : Q.length = one.length) (hp : power < one.length + other.length - 1)
    (h : ∀ x, ev one x * ev other x + s * x ^ power = ev Q x * ev other x) :
    other = 1 :: zr (other.length - 1) ∧ other.length - 1 ≤ power ∧ Q = one.set (one.length - 1 - (power - (other.length - 1))) (one.getD (one.length - 1 - (power - (other.length - 1))) 0 + s) := by
  have e : Q.length = (scl (-1) one).length := by rw [scl_len, hl]
  obtain ⟨a, b⟩ := mono (d := zadd Q (scl (-1) one)) (p := power) hs ho fun x => by
    rw [ev_zadd e, ev_scl]
    have := h x
    grind
  refine ⟨a, b, ?_⟩
  have hn : 0 < one.length := List.length_pos_iff.mpr h1
  have hi : one.length - 1 - (power - (other.length - 1)) < one.length := by omega
  refine ext_ev _ 0 hl (by simp) fun x hx => ?_
  rw [ev_set hi]
  have eo : ev other x = x ^ (other.length - 1) := by
    conv => lhs; rw [a]
    rw [ev, ev_zr, zr_len]
    simp
  have hx' := h x
  rw [eo] at hx'
  have np : x ^ (other.length - 1) ≠ 0 := by have := Int.pow_pos (n := x) (m := other.length - 1) hx; omega
  refine Int.eq_of_mul_eq_mul_right np ?_
  rw [← hx']
  rw [show one.length - 1 - (one.length - 1 - (power - (other.length - 1))) = power - (other.length - 1) by omega, Int.add_mul, Int.mul_assoc, ← Int.pow_add, show power - (other.length - 1) + (other.length - 1) = power by omega]
/-! ### u + v root c -/
abbrev P2 := Int × Int
def rm (u : Int) (a b : P2) : P2 := (a.1 * b.1 + a.2 * b.2 * u, a.1 * b.2 + a.2 * b.1)
def ra (a b : P2) : P2 := (a.1 + b.1, a.2 + b.2)
def rs (n : Int) (a : P2) : P2 := (n * a.1, n * a.2)
def rp (u : Int) (z : P2) : Nat → P2
  | 0 => (1, 0)
  | n + 1 => rm u (rp u z n) z
def eR (u : Int) (z : P2) : List Int → P2
  | [] => (0, 0)
  | a :: as => ra (rs a (rp u z as.length)) (eR u z as)
theorem p2 {a b : P2} (h1 : a.1 = b.1) (h2 : a.2 = b.2) : a = b := Prod.ext h1 h2
section
variable (u : Int) (z : P2)
theorem rp_add (i : Nat) : ∀ j, rp u z (i + j) = rm u (rp u z i) (rp u z j)
  | 0 => by simp [rp, rm]
  | j + 1 => by
    rw [← Nat.add_assoc, rp, rp_add i j, rp]
    apply p2 <;> simp only [rm] <;> grind
theorem eR_append (as bs : List Int) : eR u z (as ++ bs) = ra (rm u (eR u z as) (rp u z bs.length)) (eR u z bs) := by
  induction as with
  | nil => simp [eR, rm, ra]
  | cons a as ih =>
    rw [List.cons_append, eR, eR, ih, List.length_append, rp_add]
    apply p2 <;> simp only [rm, ra, rs] <;> grind
theorem eR_zr (n : Nat) : eR u z (zr n) = (0, 0) := by
  induction n with
  | zero => rfl
  | succ n ih =>
    rw [zr, List.replicate_succ, eR]
    show ra _ (eR u z (zr n)) = _
    rw [ih]
    simp [ra, rs]
theorem eR_scl (a : Int) (bs : List Int) : eR u z (scl a bs) = rs a (eR u z bs) := by
  induction bs with
  | nil => simp [scl, eR, rs]
  | cons b bs ih =>
    show eR u z (a * b :: scl a bs) = _
    rw [eR, eR, ih, scl_len]
    apply p2 <;> simp only [ra, rs] <;> grind
theorem eR_zadd : ∀ {xs ys : List Int}, xs.length = ys.length → eR u z (zadd xs ys) = ra (eR u z xs) (eR u z ys)
  | [], [], _ => by simp [zadd, eR, ra]
  | a :: as, b :: bs, h => by
    have h' : as.length = bs.length := by simpa using h
    show eR u z ((a + b) :: zadd as bs) = _
    rw [eR, eR, eR, eR_zadd h', zadd_len h', h']
    apply p2 <;> simp only [ra, rs] <;> grind
theorem eR_mulH {bs : List Int} (hb : bs ≠ []) : ∀ as : List Int, eR u z (mulH as bs) = rm u (eR u z as) (eR u z bs)
  | [] => by simp [mulH, eR_zr, eR, rm]
  | a :: as => by
    rw [mulH, eR_zadd u z (mulH_eq hb a as), eR_append, eR_scl, eR_zr, eR, eR, eR_mulH hb as, zr_len]
    apply p2 <;> simp only [rm, ra, rs] <;> grind
/-- the numbers up to the one at j, worked out at z -/
def Hn (c : Nat → P2) : Nat → P2
  | 0 => c 0
  | j + 1 => ra (rm u (Hn c j) z) (c (j + 1))
theorem Hn_congr {c d : Nat → P2} : ∀ j, (∀ k ≤ j, c k = d k) → Hn u z c j = Hn u z d j
  | 0, h => h 0 (Nat.le_refl _)
  | j + 1, h => by rw [Hn, Hn, Hn_congr j fun k hk => h k (by omega), h (j + 1) (Nat.le_refl _)]
theorem Hn_eR (p : List Int) : ∀ j, j < p.length → Hn u z (fun k => (p.getD k 0, 0)) j = eR u z (p.take (j + 1))
  | 0, h => by
    rw [List.take_one]
    rcases p with _ | ⟨a, p⟩
    · simp at h
    · simp [Hn, eR, ra, rs, rp]
  | j + 1, h => by
    have e : p.take (j + 1 + 1) = p.take (j + 1) ++ [p.getD (j + 1) 0] := by
      rw [List.take_add_one (l := p) (i := j + 1)]
      simp [h]
    rw [Hn, Hn_eR p j (by omega), e, eR_append]
    apply p2 <;> simp [rm, ra, rs, eR, rp]
end
/-- each number with t times the new one ahead of it -/
def sc (u : Int) (t : P2) (c : Nat → P2) : Nat → P2
  | 0 => c 0
  | k + 1 => ra (c (k + 1)) (rm u t (sc u t c k))
theorem Hn_sc (u : Int) (t : P2) (y : Int) (c : Nat → P2) : ∀ j, Hn u (ra (y, 0) t) c (j + 1) = ra (rs y (Hn u (ra (y, 0) t) (sc u t c) j)) (sc u t c (j + 1))
  | 0 => by
    simp only [Hn, sc]
    apply p2 <;> simp only [rm, ra, rs] <;> grind
  | j + 1 => by
    rw [Hn, Hn_sc u t y c j, Hn]
    rw [show sc u t c (j + 1 + 1) = ra (c (j + 1 + 1)) (rm u t (sc u t c (j + 1))) from rfl]
    apply p2 <;> simp only [rm, ra, rs] <;> grind
/-- the numbers worked out at an integer -/
def En (y : Int) (c : Nat → P2) : Nat → P2
  | 0 => (0, 0)
  | m + 1 => ra (rs y (En y c m)) (c m)
theorem En_congr (y : Int) {c d : Nat → P2} : ∀ m, (∀ k < m, c k = d k) → En y c m = En y d m
  | 0, _ => rfl
  | m + 1, h => by rw [En, En, En_congr y m fun k hk => h k (by omega), h m (by omega)]
theorem En_cons (y : Int) (c : Nat → P2) : ∀ m, En y c (m + 1) = ra (rs (y ^ m) (c 0)) (En y (fun k => c (k + 1)) m)
  | 0 => by apply p2 <;> simp [En, ra, rs]
  | m + 1 => by
    rw [En, En_cons y c m, En, Int.pow_succ]
    apply p2 <;> simp only [ra, rs] <;> grind
def Shd (u : Int) (t : P2) (n : Nat) (P : Int → P2) (e : Nat) (c : Nat → P2) : Prop := ∀ y, P y = ra (rs (y ^ (n - e)) (Hn u (ra (y, 0) t) c e)) (En y (fun k => c (e + 1 + k)) (n - e))
theorem Shd.first (u : Int) (t : P2) {p : List Int} {n : Nat} (h : p.length = n + 1) : Shd u t n (fun y => eR u (ra (y, 0) t) p) n (fun k => (p.getD k 0, 0)) := fun y => by
  rw [Nat.sub_self, Hn_eR u _ p n (by omega), List.take_of_length_le (by omega)]
  apply p2 <;> simp [ra, rs, En]
theorem Shd.step {u : Int} {t : P2} {n e : Nat} {P : Int → P2} {c : Nat → P2} (he : e + 1 ≤ n) (h : Shd u t n P (e + 1) c) : Shd u t n P e (fun k => if k ≤ e + 1 then sc u t c k else c k) := fun y => by
  rw [h y, Hn_sc, show n - e = (n - (e + 1)) + 1 by omega, En_cons, Int.pow_succ]
  have e1 : Hn u (ra (y, 0) t) (fun k => if k ≤ e + 1 then sc u t c k else c k) e = Hn u (ra (y, 0) t) (sc u t c) e := Hn_congr _ _ e fun k hk => if_pos (by omega)
  have e2 : En y (fun k => (fun k => (fun k => if k ≤ e + 1 then sc u t c k else c k) (e + 1 + k)) (k + 1)) (n - (e + 1)) = En y (fun k => c (e + 1 + 1 + k)) (n - (e + 1)) := En_congr y _ fun k _ => by
    show (if e + 1 + (k + 1) ≤ e + 1 then _ else _) = _
    rw [if_neg (by omega), show e + 1 + (k + 1) = e + 1 + 1 + k by omega]
  rw [e1, e2]
  show _ = ra _ (ra (rs _ (if e + 1 + 0 ≤ e + 1 then _ else _)) _)
  rw [if_pos (by omega), Nat.add_zero]
  apply p2 <;> simp only [ra, rs] <;> grind
theorem Shd.last {u : Int} {t : P2} {n : Nat} {P : Int → P2} {c : Nat → P2} (h : Shd u t n P 0 c) (y : Int) : P y = En y c (n + 1) := by
  rw [h y, En_cons]
  simp only [Nat.sub_zero, Hn, Nat.zero_add]
  congr 2
  funext k
  rw [Nat.add_comm]
theorem En_ev (y : Int) (c : Nat → P2) : ∀ m, (En y c m).1 = ev ((List.range m).map fun k => (c k).1) y ∧ (En y c m).2 = ev ((List.range m).map fun k => (c k).2) y
  | 0 => ⟨rfl, rfl⟩
  | m + 1 => by
    obtain ⟨a, b⟩ := En_ev y c m
    rw [List.range_succ, List.map_append, List.map_append, List.map_singleton, List.map_singleton, ev_snoc, ev_snoc, ← a, ← b, En]
    exact ⟨by simp only [ra, rs]; grind, by simp only [ra, rs]; grind⟩
theorem En_ext {c d : Nat → P2} {m : Nat} (h : ∀ y, En y c m = En y d m) {k : Nat} (hk : k < m) : c k = d k := by
  have a : ((List.range m).map fun k => (c k).1) = (List.range m).map fun k => (d k).1 := ext_ev' (by simp) fun y => by rw [← (En_ev y c m).1, h y, (En_ev y d m).1]
  have b : ((List.range m).map fun k => (c k).2) = (List.range m).map fun k => (d k).2 := ext_ev' (by simp) fun y => by rw [← (En_ev y c m).2, h y, (En_ev y d m).2]
  have a' := congrArg (fun l : List Int => l[k]?) a
  have b' := congrArg (fun l : List Int => l[k]?) b
  simp [hk] at a' b'
  exact p2 a' b'
theorem En_add (y : Int) (c d : Nat → P2) : ∀ m, En y (fun k => ra (c k) (d k)) m = ra (En y c m) (En y d m)
  | 0 => rfl
  | m + 1 => by
    rw [En, En_add y c d m, En, En]
    apply p2 <;> simp only [ra, rs] <;> grind
/-- a row of products from a place on -/
def rowD (u : Int) (i : Nat) (a : P2) (B : Nat → P2) (m : Nat) (k : Nat) : P2 := if i ≤ k ∧ k < i + m then rm u a (B (k - i)) else (0, 0)
theorem En_row0 (u y : Int) (i : Nat) (a : P2) (B : Nat → P2) (m : Nat) : ∀ L, L ≤ i → En y (rowD u i a B m) L = (0, 0)
  | 0, _ => rfl
  | L + 1, h => by
    rw [En, En_row0 u y i a B m L (by omega), rowD, if_neg (by omega)]
    simp [ra, rs]
theorem En_row1 (u y : Int) (i : Nat) (a : P2) (B : Nat → P2) (m : Nat) : ∀ q, q ≤ m → En y (rowD u i a B m) (i + q) = rm u a (En y B q)
  | 0, _ => by rw [Nat.add_zero, En_row0 u y i a B m i (Nat.le_refl _)]; simp [En, rm]
  | q + 1, h => by
    rw [← Nat.add_assoc, En, En_row1 u y i a B m q (by omega), rowD, if_pos (by omega), Nat.add_sub_cancel_left, En]
    apply p2 <;> simp only [ra, rs, rm] <;> grind
theorem En_row2 (u y : Int) (i : Nat) (a : P2) (B : Nat → P2) (m : Nat) : ∀ r, En y (rowD u i a B m) (i + m + r) = rs (y ^ r) (rm u a (En y B m))
  | 0 => by rw [Nat.add_zero, En_row1 u y i a B m m (Nat.le_refl _)]; simp [rs]
  | r + 1 => by
    rw [← Nat.add_assoc, En, En_row2 u y i a B m r, rowD, if_neg (by omega), Int.pow_succ]
    apply p2 <;> simp only [ra, rs] <;> grind
/-- the product of two rows, row by row -/
def Fn (u : Int) (A B : Nat → P2) (m : Nat) : Nat → Nat → P2
  | 0, _ => (0, 0)
  | i + 1, k => ra (Fn u A B m i k) (rowD u i (A i) B m k)
theorem En_zero (y : Int) : ∀ L, En y (fun _ => ((0 : Int), (0 : Int))) L = (0, 0)
  | 0 => rfl
  | L + 1 => by rw [En, En_zero y L]; simp [ra, rs]
theorem En_Fn (u y : Int) (A B : Nat → P2) (m n : Nat) (hm : 1 ≤ m) (hn : 1 ≤ n) : ∀ i, i ≤ n → En y (Fn u A B m i) (n + m - 1) = rs (y ^ (n - i)) (rm u (En y A i) (En y B m))
  | 0, _ => by
    show En y (fun _ => ((0 : Int), (0 : Int))) _ = _
    rw [En_zero]
    simp [En, rm, rs]
  | i + 1, h => by
    show En y (fun k => ra (Fn u A B m i k) (rowD u i (A i) B m k)) _ = _
    rw [En_add, En_Fn u y A B m n hm hn i (by omega)]
    have e := En_row2 u y i (A i) B m (n - (i + 1))
    rw [show i + m + (n - (i + 1)) = n + m - 1 by omega] at e
    rw [e, En, show n - i = (n - (i + 1)) + 1 by omega, Int.pow_succ]
    apply p2 <;> simp only [ra, rs, rm] <;> grind
/-- the numbers of a shifted product are those of the product -/
theorem shift_prod {u : Int} {t : P2} {one other : List Int} (h1 : one ≠ []) (h2 : other ≠ []) {A B C : Nat → P2} (hA : ∀ y, eR u (ra (y, 0) t) one = En y A one.length) (hB : ∀ y, eR u (ra (y, 0) t) other = En y B other.length)
    (hC : ∀ y, eR u (ra (y, 0) t) (mulH one other) = En y C (one.length + other.length - 1)) {k : Nat} (hk : k < one.length + other.length - 1) : Fn u A B other.length one.length k = C k := by
  have l1 : 0 < one.length := List.length_pos_iff.mpr h1
  have l2 : 0 < other.length := List.length_pos_iff.mpr h2
  refine En_ext (m := one.length + other.length - 1) (fun y => ?_) hk
  rw [En_Fn u y A B other.length one.length l2 l1 one.length (Nat.le_refl _), ← hC, eR_mulH u _ h2, hA, hB, Nat.sub_self]
  simp [rs]
end GM
/-! Sums in the mean of rows of integers. -/
namespace GM
def sm : Nat → (Nat → Int) → Int
  | 0, _ => 0
  | n + 1, f => sm n f + f n
theorem sm_congr {n : Nat} {f g : Nat → Int} (h : ∀ i, i < n → f i = g i) : sm n f = sm n g := by
  induction n with
  | zero => rfl
  | succ n ih => rw [sm, sm, ih fun i hi => h i (by omega), h n (by omega)]
theorem sm_zero (n : Nat) : sm n (fun _ => 0) = 0 := by
  induction n with
  | zero => rfl
  | succ n ih => rw [sm, ih]; rfl
theorem sm_add (n : Nat) (f g : Nat → Int) : sm n (fun i => f i + g i) = sm n f + sm n g := by
  induction n with
  | zero => rfl
  | succ n ih => rw [sm, sm, sm, ih]; omega
theorem sm_mul (n : Nat) (c : Int) (f : Nat → Int) : sm n (fun i => c * f i) = c * sm n f := by
  induction n with
  | zero => simp [sm]
  | succ n ih => rw [sm, sm, ih, Int.mul_add]
theorem sm_mulR (n : Nat) (c : Int) (f : Nat → Int) : sm n (fun i => f i * c) = sm n f * c := by
  induction n with
  | zero => simp [sm]
  | succ n ih => rw [sm, sm, ih, Int.add_mul]
theorem sm_cons (n : Nat) (f : Nat → Int) : sm (n + 1) f = f 0 + sm n (fun i => f (i + 1)) := by
  induction n with
  | zero => simp [sm]
  | succ n ih => rw [sm, ih, sm]; omega
theorem sm_refl (n : Nat) (f : Nat → Int) : sm n f = sm n (fun i => f (n - 1 - i)) := by
  induction n with
  | zero => rfl
  | succ n ih =>
    rw [sm_cons n (fun i => f (n + 1 - 1 - i)), sm, ih]
    have e : sm n (fun i => f (n + 1 - 1 - (i + 1))) = sm n (fun i => f (n - 1 - i)) := sm_congr fun i hi => by rw [show n + 1 - 1 - (i + 1) = n - 1 - i by omega]
    rw [e]
    simp
    omega
theorem sm_tri (n : Nat) (F : Nat → Nat → Int) : sm n (fun i => sm (i + 1) (F i)) = sm n (fun j => sm (n - j) (fun l => F (j + l) j)) := by
  induction n with
  | zero => rfl
  | succ n ih =>
    have e : sm (n + 1) (fun j => sm (n + 1 - j) (fun l => F (j + l) j)) = sm (n + 1) (fun j => sm (n - j) (fun l => F (j + l) j) + F n j) := sm_congr fun j hj => by
      rw [show n + 1 - j = (n - j) + 1 by omega, sm, show j + (n - j) = n by omega]
    have e2 : sm (n + 1) (fun j => sm (n - j) (fun l => F (j + l) j)) = sm n (fun j => sm (n - j) (fun l => F (j + l) j)) := by
      show sm n _ + sm (n - n) _ = _
      rw [Nat.sub_self]
      exact Int.add_zero _
    rw [e, sm_add, e2, ← ih]
    rfl
/-- the product of rows of numbers -/
def cv (f g : Nat → Int) (k : Nat) : Int := sm (k + 1) (fun i => f i * g (k - i))
theorem cv_congr {f f' g g' : Nat → Int} {k : Nat} (h1 : ∀ i, i ≤ k → f i = f' i) (h2 : ∀ i, i ≤ k → g i = g' i) : cv f g k = cv f' g' k := sm_congr fun i hi => by rw [h1 i (by omega), h2 (k - i) (by omega)]
theorem cv_comm (f g : Nat → Int) (k : Nat) : cv f g k = cv g f k := by
  unfold cv
  rw [sm_refl]
  exact sm_congr fun i hi => by
    rw [show k + 1 - 1 - i = k - i by omega, show k - (k - i) = i by omega, Int.mul_comm]
theorem cv_assoc (f g h : Nat → Int) (k : Nat) : cv (cv f g) h k = cv f (cv g h) k := by
  have e1 : cv (cv f g) h k = sm (k + 1) (fun i => sm (i + 1) (fun j => f j * g (i - j) * h (k - i))) := sm_congr fun i hi => by
    show cv f g i * _ = _
    unfold cv
    rw [← sm_mulR]
  rw [e1, sm_tri]
  refine sm_congr fun j hj => ?_
  show _ = f j * cv g h (k - j)
  unfold cv
  rw [← sm_mul, show k + 1 - j = k - j + 1 by omega]
  exact sm_congr fun l hl => by
    rw [show j + l - j = l by omega, show k - (j + l) = k - j - l by omega, Int.mul_assoc]
theorem cv_scaleL {f f' g : Nat → Int} {s t : Int} {k : Nat} (h : ∀ i, i ≤ k → s * f i = t * f' i) : s * cv f g k = t * cv f' g k := by
  unfold cv
  rw [← sm_mul, ← sm_mul]
  exact sm_congr fun i hi => by rw [← Int.mul_assoc, ← Int.mul_assoc, h i (by omega)]
theorem cv_delta (c : Int) (g : Nat → Int) (k : Nat) : cv (fun i => if i = 0 then c else 0) g k = c * g k := by
  unfold cv
  rw [sm_cons]
  have e : sm k (fun i => (if i + 1 = 0 then c else 0) * g (k - (i + 1))) = 0 := by
    refine (sm_congr fun i _ => ?_).trans (sm_zero k)
    simp
  rw [e]
  simp
/-! ### lowest terms -/
def glF (d : Int) (ns : List Int) : Int := ns.foldl (fun d v => ((Nat.gcd d.natAbs v.natAbs : Nat) : Int)) d
def gl (ns : List Int) : Int := glF 0 ns
theorem glF_nonneg : ∀ (ns : List Int) (d : Int), 0 ≤ d → 0 ≤ glF d ns
  | [], _, h => h
  | n :: ns, d, _ => glF_nonneg ns _ (Int.natCast_nonneg _)
theorem gl_nonneg (ns : List Int) : 0 ≤ gl ns := glF_nonneg ns 0 (Int.le_refl 0)
theorem glF_dvd : ∀ (ns : List Int) (d : Int), (glF d ns ∣ d) ∧ ∀ c ∈ ns, glF d ns ∣ c
  | [], d => ⟨Int.dvd_refl d, fun _ z => by cases z⟩
  | n :: ns, d => by
    obtain ⟨h1, h2⟩ := glF_dvd ns ((Nat.gcd d.natAbs n.natAbs : Nat) : Int)
    refine ⟨Int.dvd_trans h1 (Int.ofNat_dvd_left.mpr (Nat.gcd_dvd_left _ _)), fun c hc => ?_⟩
    rcases List.mem_cons.mp hc with rfl | hc
    · exact Int.dvd_trans h1 (Int.ofNat_dvd_left.mpr (Nat.gcd_dvd_right _ _))
    · exact h2 c hc
theorem gl_dvd {ns : List Int} {c : Int} (h : c ∈ ns) : gl ns ∣ c := (glF_dvd ns 0).2 c h
theorem glF_great : ∀ (ns : List Int) (d : Int) {k : Int}, k ∣ d → (∀ c ∈ ns, k ∣ c) → k ∣ glF d ns
  | [], _, _, h, _ => h
  | n :: ns, d, k, h, h2 => glF_great ns _ (by
      have a : k.natAbs ∣ d.natAbs := Int.natAbs_dvd_natAbs.mpr h
      have b : k.natAbs ∣ n.natAbs := Int.natAbs_dvd_natAbs.mpr (h2 n (by simp))
      have := Nat.dvd_gcd a b
      exact Int.natAbs_dvd.mp (Int.ofNat_dvd.mpr this)) fun c hc => h2 c (by simp [hc])
theorem gl_great {ns : List Int} {k : Int} (h : ∀ c ∈ ns, k ∣ c) : k ∣ gl ns := glF_great ns 0 (Int.dvd_zero k) h
theorem gl_pos {ns : List Int} (h : 0 < ns.headD 0) : 0 < gl ns := by
  have h0 := gl_nonneg ns
  cases ns with
  | nil => exact absurd h (by decide)
  | cons n r =>
    have h : 0 < n := h
    have d : gl (n :: r) ∣ n := gl_dvd (by simp)
    by_cases z : gl (n :: r) = 0
    · rw [z] at d
      have := Int.zero_dvd.mp d
      omega
    · omega
theorem glF_scl {c : Int} (hc : 0 < c) : ∀ (ns : List Int) (d : Int), 0 ≤ d → glF (c * d) (scl c ns) = c * glF d ns
  | [], _, _ => rfl
  | n :: ns, d, hd => by
    show glF _ (scl c ns) = c * glF _ ns
    rw [← glF_scl hc ns _ (Int.natCast_nonneg _)]
    congr 1
    show ((Nat.gcd (c * d).natAbs (c * n).natAbs : Nat) : Int) = c * ((Nat.gcd d.natAbs n.natAbs : Nat) : Int)
    rw [Int.natAbs_mul, Int.natAbs_mul, Nat.gcd_mul_left, Int.natCast_mul, Int.natAbs_of_nonneg (Int.le_of_lt hc)]
theorem gl_scl {c : Int} (hc : 0 < c) (ns : List Int) : gl (scl c ns) = c * gl ns := by
  have h := glF_scl hc ns 0 (Int.le_refl 0)
  rw [Int.mul_zero] at h
  exact h
def low (ns : List Int) : List Int := ns.map fun c => c / gl ns
theorem low_len (ns : List Int) : (low ns).length = ns.length := by simp [low]
theorem low_scl {c : Int} (hc : 0 < c) (ns : List Int) : low (scl c ns) = low ns := by
  unfold low
  rw [gl_scl hc, scl, List.map_map]
  refine List.map_congr_left fun x _ => ?_
  show c * x / (c * gl ns) = _
  rw [Int.mul_ediv_mul_of_pos _ _ hc]
theorem scl_low (ns : List Int) : scl (gl ns) (low ns) = ns := by
  unfold scl low
  rw [List.map_map]
  refine List.ext_getElem (by simp) fun i h1 h2 => ?_
  simp only [List.getElem_map, Function.comp]
  exact Int.mul_ediv_cancel' (gl_dvd (List.getElem_mem _))
theorem getD_scl (c : Int) (ns : List Int) (k : Nat) : (scl c ns).getD k 0 = c * ns.getD k 0 := by
  unfold scl
  rw [List.getD_eq_getElem?_getD, List.getD_eq_getElem?_getD, List.getElem?_map]
  cases ns[k]? <;> simp
theorem ext_getD {p q : List Int} (h : p.length = q.length) (e : ∀ k, k < p.length → p.getD k 0 = q.getD k 0) : p = q := by
  refine List.ext_getElem h fun i h1 h2 => ?_
  have := e i h1
  simpa [List.getD_eq_getElem?_getD, h1, h2] using this
theorem low_eq {p q : List Int} {s t : Int} (hs : 0 < s) (ht : 0 < t) (h : p.length = q.length) (e : ∀ k, k < p.length → s * p.getD k 0 = t * q.getD k 0) : low p = low q := by
  rw [← low_scl hs p, ← low_scl ht q]
  congr 1
  refine ext_getD (by rw [scl_len, scl_len, h]) fun k hk => ?_
  rw [scl_len] at hk
  rw [getD_scl, getD_scl]
  exact e k hk
theorem low_head {ns : List Int} (h : 0 < ns.headD 0) : 0 < (low ns).headD 0 := by
  cases ns with
  | nil => exact absurd h (by decide)
  | cons n r =>
    have g := gl_pos h
    have h : 0 < n := h
    show 0 < n / gl (n :: r)
    have d : gl (n :: r) ∣ n := gl_dvd (by simp)
    obtain ⟨q, hq⟩ := d
    have : n / gl (n :: r) = q := by
      rw [show n / gl (n :: r) = (gl (n :: r) * q) / gl (n :: r) from by rw [← hq]]
      exact Int.mul_ediv_cancel_left _ (by omega)
    rw [this]
    by_cases z : 0 < q
    · exact z
    · have : gl (n :: r) * q ≤ 0 := Int.mul_nonpos_of_nonneg_of_nonpos (by omega) (by omega)
      omega
theorem low_abs {ns : List Int} {c : Int} (hc : c ∈ low ns) (h : 0 < ns.headD 0) : ∃ n ∈ ns, c.natAbs ≤ n.natAbs := by
  obtain ⟨n, hn, rfl⟩ := List.mem_map.mp hc
  refine ⟨n, hn, ?_⟩
  have g := gl_pos h
  obtain ⟨q, hq⟩ := gl_dvd hn
  have e : n / gl ns = q := by
    rw [show n / gl ns = (gl ns * q) / gl ns from by rw [← hq]]
    exact Int.mul_ediv_cancel_left _ (by omega)
  show (n / gl ns).natAbs ≤ _
  rw [e, hq, Int.natAbs_mul]
  exact Nat.le_mul_of_pos_left _ (by omega)
/-! ### weights -/
/-- weights of a degree: above 0, each divides the first -/
structure Wt (d : Nat) (W : Nat → Int) : Prop where
  pos : ∀ k, k ≤ d → 0 < W k
  dvd : ∀ k, k ≤ d → W k ∣ W 0
def hat (W : Nat → Int) (a : List Int) (k : Nat) : Int := a.getD k 0 * W k
def fnd (d : Nat) (W : Nat → Int) (a b : List Int) : List Int := (List.range (d + 1)).map fun k => cv (hat W a) (hat W b) k * (W 0 / W k)
theorem fnd_len (d : Nat) (W : Nat → Int) (a b : List Int) : (fnd d W a b).length = d + 1 := by simp [fnd]
theorem fnd_get {d : Nat} {W : Nat → Int} {a b : List Int} {k : Nat} (hk : k ≤ d) : (fnd d W a b).getD k 0 = cv (hat W a) (hat W b) k * (W 0 / W k) := by
  unfold fnd
  rw [List.getD_eq_getElem?_getD, List.getElem?_map, List.getElem?_range (by omega)]
  rfl
/-- a row is, weighted, a multiple of F -/
def Rel (d : Nat) (W : Nat → Int) (p : List Int) (F : Nat → Int) : Prop := p.length = d + 1 ∧ ∃ s t : Int, 0 < s ∧ 0 < t ∧ ∀ k, k ≤ d → s * hat W p k = t * F k
theorem Rel.self (d : Nat) (W : Nat → Int) {p : List Int} (h : p.length = d + 1) : Rel d W p (hat W p) := ⟨h, 1, 1, by decide, by decide, fun _ _ => rfl⟩
theorem Rel.congr {d : Nat} {W : Nat → Int} {p : List Int} {F G : Nat → Int} (h : Rel d W p F) (e : ∀ k, k ≤ d → F k = G k) : Rel d W p G := let ⟨h1, s, t, hs, ht, h2⟩ := h; ⟨h1, s, t, hs, ht, fun k hk => by rw [← e k hk]; exact h2 k hk⟩
theorem Rel.low {d : Nat} {W : Nat → Int} {p : List Int} {F : Nat → Int} (h : Rel d W p F) (hp : 0 < p.headD 0) : Rel d W (low p) F := by
  obtain ⟨h1, s, t, hs, ht, h2⟩ := h
  refine ⟨by rw [low_len, h1], s * gl p, t, Int.mul_pos hs (gl_pos hp), ht, fun k hk => ?_⟩
  rw [← h2 k hk]
  have e : p.getD k 0 = gl p * (GM.low p).getD k 0 := by
    rw [← getD_scl, scl_low]
  unfold hat
  rw [e]
  grind
theorem Rel.eq {d : Nat} {W : Nat → Int} {p q : List Int} {F : Nat → Int} (hw : Wt d W) (h : Rel d W p F) (g : Rel d W q F) : GM.low p = GM.low q := by
  obtain ⟨h1, s, t, hs, ht, h2⟩ := h
  obtain ⟨g1, s', t', hs', ht', g2⟩ := g
  refine low_eq (s := t' * s) (t := t * s') (Int.mul_pos ht' hs) (Int.mul_pos ht hs') (by rw [h1, g1]) fun k hk => ?_
  have a := h2 k (by omega)
  have b := g2 k (by omega)
  have w := hw.pos k (by omega)
  unfold hat at a b
  refine Int.eq_of_mul_eq_mul_right (show W k ≠ 0 by omega) ?_
  have e1 : t' * s * p.getD k 0 * W k = t' * (s * (p.getD k 0 * W k)) := by grind
  have e2 : t * s' * q.getD k 0 * W k = t * (s' * (q.getD k 0 * W k)) := by grind
  rw [e1, e2, a, b]
  grind
theorem Rel.fnd {d : Nat} {W : Nat → Int} (hw : Wt d W) (a b : List Int) : Rel d W (fnd d W a b) (cv (hat W a) (hat W b)) := by
  refine ⟨fnd_len d W a b, 1, W 0, by decide, hw.pos 0 (by omega), fun k hk => ?_⟩
  unfold hat
  rw [fnd_get hk, Int.one_mul, Int.mul_assoc, Int.ediv_mul_cancel (hw.dvd k hk)]
  exact Int.mul_comm _ _
theorem Rel.cvL {d : Nat} {W : Nat → Int} {p : List Int} {F : Nat → Int} (hw : Wt d W) (h : Rel d W p F) (b : List Int) : Rel d W (GM.fnd d W p b) (cv F (hat W b)) := by
  obtain ⟨h1, s, t, hs, ht, h2⟩ := h
  obtain ⟨g1, s', t', hs', ht', g2⟩ := Rel.fnd hw p b
  refine ⟨g1, s * s', t' * t, Int.mul_pos hs hs', Int.mul_pos ht' ht, fun k hk => ?_⟩
  rw [Int.mul_assoc, g2 k hk]
  have e := cv_scaleL (g := hat W b) (k := k) (fun i hi => h2 i (by omega))
  grind
theorem Rel.cvR {d : Nat} {W : Nat → Int} {p : List Int} {F : Nat → Int} (hw : Wt d W) (h : Rel d W p F) (a : List Int) : Rel d W (GM.fnd d W a p) (cv (hat W a) F) := by
  obtain ⟨h1, s, t, hs, ht, h2⟩ := h
  obtain ⟨g1, s', t', hs', ht', g2⟩ := Rel.fnd hw a p
  refine ⟨g1, s * s', t' * t, Int.mul_pos hs hs', Int.mul_pos ht' ht, fun k hk => ?_⟩
  rw [Int.mul_assoc, g2 k hk, cv_comm, cv_comm (hat W a) F]
  have e := cv_scaleL (g := hat W a) (k := k) (fun i hi => h2 i (by omega))
  grind
theorem fnd_head {d : Nat} {W : Nat → Int} (hw : Wt d W) {a b : List Int} (ha : 0 < a.headD 0) (hb : 0 < b.headD 0) : 0 < (fnd d W a b).headD 0 := by
  have e : (fnd d W a b).headD 0 = (fnd d W a b).getD 0 0 := by cases fnd d W a b <;> rfl
  rw [e, fnd_get (by omega)]
  have e0 : ∀ l : List Int, l.headD 0 = l.getD 0 0 := fun l => by cases l <;> rfl
  have w := hw.pos 0 (by omega)
  have e1 : W 0 / W 0 = 1 := Int.ediv_self (by omega)
  rw [e1, Int.mul_one]
  show 0 < sm 1 _
  simp only [sm, Int.zero_add, Nat.sub_self]
  rw [e0] at ha hb
  exact Int.mul_pos (Int.mul_pos ha w) (Int.mul_pos hb w)
/-! any order -/
theorem fnd_comm {d : Nat} {W : Nat → Int} (hw : Wt d W) (a b : List Int) : low (fnd d W a b) = low (fnd d W b a) :=
  (Rel.fnd hw a b).eq hw ((Rel.fnd hw b a).congr fun k _ => cv_comm _ _ k)
theorem fnd_assoc {d : Nat} {W : Nat → Int} (hw : Wt d W) {a b c : List Int} (ha : 0 < a.headD 0) (hb : 0 < b.headD 0) (hc : 0 < c.headD 0) :
    low (fnd d W (low (fnd d W a b)) c) = low (fnd d W a (low (fnd d W b c))) :=
  (((Rel.fnd hw a b).low (fnd_head hw ha hb)).cvL hw c).eq hw ((((Rel.fnd hw b c).low (fnd_head hw hb hc)).cvR hw a).congr fun k _ => (cv_assoc _ _ _ k).symm)
theorem getD_plain (d k : Nat) : (1 :: zr d).getD k 0 = if k = 0 then 1 else 0 := by
  cases k with
  | zero => rfl
  | succ k =>
    rw [List.getD_eq_getElem?_getD, List.getElem?_cons_succ, zr, List.getElem?_replicate]
    split <;> simp
theorem fnd_plain {d : Nat} {W : Nat → Int} (hw : Wt d W) {b : List Int} (h : b.length = d + 1) : low (fnd d W (1 :: zr d) b) = low b := by
  refine (Rel.fnd hw (1 :: zr d) b).eq hw ?_
  refine ⟨h, W 0, 1, hw.pos 0 (by omega), by decide, fun k hk => ?_⟩
  have e : cv (hat W (1 :: zr d)) (hat W b) k = W 0 * hat W b k := by
    rw [← cv_delta]
    refine cv_congr (fun i _ => ?_) fun _ _ => rfl
    unfold hat
    rw [getD_plain]
    split
    · rename_i z; rw [z, Int.one_mul]
    · exact Int.zero_mul _
  rw [e, Int.one_mul]
/-! ### factorials -/
def fac : Nat → Int
  | 0 => 1
  | n + 1 => fac n * ((n : Int) + 1)
theorem fac_pos : ∀ n, 0 < fac n
  | 0 => by decide
  | n + 1 => Int.mul_pos (fac_pos n) (by omega)
theorem fac_dvd {k n : Nat} (h : k ≤ n) : fac k ∣ fac n := by
  induction n with
  | zero => rw [Nat.le_zero.mp h]; exact Int.dvd_refl _
  | succ n ih =>
    by_cases e : k = n + 1
    · rw [e]; exact Int.dvd_refl _
    · exact Int.dvd_trans (ih (by omega)) (Int.dvd_mul_right _ _)
def Wm (d : Nat) (k : Nat) : Int := fac (d - k)
def Ws (d : Nat) (k : Nat) : Int := fac (d - k) ^ 2
theorem wt_m (d : Nat) : Wt d (Wm d) := ⟨fun _ _ => fac_pos _, fun k _ => fac_dvd (by omega)⟩
theorem pow_dvd2 {a b : Int} (h : a ∣ b) : a ^ 2 ∣ b ^ 2 := by
  obtain ⟨c, rfl⟩ := h
  exact ⟨c ^ 2, by grind⟩
theorem wt_s (d : Nat) : Wt d (Ws d) := ⟨fun _ _ => by unfold Ws; exact Int.pow_pos (fac_pos _), fun k _ => pow_dvd2 (fac_dvd (by omega))⟩
theorem ws_div {d k : Nat} (h : k ≤ d) : Ws d 0 / Ws d k = (fac d / fac (d - k)) ^ 2 := by
  obtain ⟨c, hc⟩ := fac_dvd (show d - k ≤ d by omega)
  have p := fac_pos (d - k)
  unfold Ws
  rw [Nat.sub_zero, hc, Int.mul_ediv_cancel_left _ (by omega)]
  have e : (fac (d - k) * c) ^ 2 = fac (d - k) ^ 2 * c ^ 2 := by grind
  rw [e, Int.mul_ediv_cancel_left]
  have : 0 < fac (d - k) ^ 2 := Int.pow_pos p
  omega
/-! ### derived -/
theorem der_get : ∀ (l : List Int) (i : Nat), i + 1 < l.length → (der l).getD i 0 = l.getD i 0 * ((l.length : Int) - 1 - i)
  | [], _, h => by simp at h
  | [_], _, h => by simp at h
  | a :: b :: as, 0, h => by
    show a * ((as.length : Int) + 1) = a * _
    simp only [List.length_cons]
    congr 1
    omega
  | a :: b :: as, i + 1, h => by
    show (der (b :: as)).getD i 0 = (b :: as).getD i 0 * _
    rw [der_get (b :: as) i (by simpa using h)]
    congr 1
    simp only [List.length_cons]
    omega
def derN : Nat → List Int → List Int
  | 0, a => a
  | j + 1, a => der (derN j a)
theorem derN_len (a : List Int) : ∀ j, (derN j a).length = a.length - j
  | 0 => rfl
  | j + 1 => by rw [derN, der_len, derN_len a j]; omega
theorem derN_get {a : List Int} {d : Nat} (h : a.length = d + 1) : ∀ (j i : Nat), i + j ≤ d → (derN j a).getD i 0 * fac (d - i - j) = a.getD i 0 * fac (d - i)
  | 0, i, _ => rfl
  | j + 1, i, hi => by
    have l := derN_len a j
    rw [derN, der_get _ i (by rw [l, h]; omega), ← derN_get h j i (by omega), l, h]
    have e : fac (d - i - j) = fac (d - i - (j + 1)) * ((((d + 1 - j : Nat)) : Int) - 1 - i) := by
      rw [show d - i - j = (d - i - (j + 1)) + 1 by omega, fac]
      congr 1
      omega
    rw [e]
    grind
/-- the sum in the mean by derivatives -/
def Lp (d : Nat) (a b : List Int) : Nat → List Int
  | 0 => zr (d + 1)
  | j + 1 => addR (Lp d a b j) j (fac (d - j) * b.getD j 0) (derN j a)
theorem Lp_len {d : Nat} {a b : List Int} (h : a.length = d + 1) : ∀ j, j ≤ d + 1 → (Lp d a b j).length = d + 1
  | 0, _ => zr_len _
  | j + 1, hj => by
    have l := Lp_len (b := b) h j (by omega)
    rw [Lp, addR_len (by rw [l, derN_len, h]; omega)]
    exact l
theorem Lp_get {d : Nat} {a b : List Int} (h : a.length = d + 1) {k : Nat} (hk : k ≤ d) : ∀ j, j ≤ d + 1 → (Lp d a b j).getD k 0 = sm j (fun i => if i ≤ k then fac (d - i) * b.getD i 0 * (derN i a).getD (k - i) 0 else 0)
  | 0, _ => by
    rw [Lp, sm, zr, List.getD_eq_getElem?_getD, List.getElem?_replicate]
    split <;> rfl
  | j + 1, hj => by
    have l := Lp_len (b := b) h j (by omega)
    have ld := derN_len a j
    rw [Lp, List.getD_eq_getElem?_getD, addR_get (by rw [l, ld, h]; omega) _ (by rw [l]; omega), Lp_get h hk j (by omega), sm, ld, h]
    by_cases z : j ≤ k
    · rw [if_pos ⟨z, by omega⟩, if_pos z]
      rfl
    · rw [if_neg (fun y => z y.1), if_neg z]
      rfl
def Lm (a b : List Int) : List Int := Lp (a.length - 1) a b a.length
theorem Lm_len {a b : List Int} {d : Nat} (h : a.length = d + 1) : (Lm a b).length = d + 1 := by
  unfold Lm
  rw [h]
  exact Lp_len h (d + 1) (Nat.le_refl _)
theorem sm_cut {n m : Nat} {f : Nat → Int} (h : n ≤ m) (z : ∀ i, n ≤ i → i < m → f i = 0) : sm m f = sm n f := by
  induction m with
  | zero => rw [Nat.le_zero.mp h]
  | succ m ih =>
    by_cases e : n = m + 1
    · rw [e]
    · rw [sm, ih (by omega) fun i h1 h2 => z i h1 (by omega), z m (by omega) (by omega), Int.add_zero]
theorem Lm_hat {a b : List Int} {d : Nat} (h : a.length = d + 1) {k : Nat} (hk : k ≤ d) : hat (Wm d) (Lm a b) k = cv (hat (Wm d) a) (hat (Wm d) b) k := by
  unfold Lm
  rw [h]
  show (Lp d a b (d + 1)).getD k 0 * fac (d - k) = _
  rw [Lp_get h hk (d + 1) (Nat.le_refl _), sm_cut (n := k + 1) (by omega) (fun i h1 _ => if_neg (by omega)), cv_comm, ← sm_mulR]
  refine sm_congr fun i hi => ?_
  rw [if_pos (by omega)]
  have e := derN_get h i (k - i) (by omega)
  rw [show d - (k - i) - i = d - k by omega] at e
  show _ = b.getD i 0 * fac (d - i) * (a.getD (k - i) 0 * fac (d - (k - i)))
  rw [← e]
  grind
theorem Lm_rel {a b : List Int} {d : Nat} (h : a.length = d + 1) : Rel d (Wm d) (Lm a b) (cv (hat (Wm d) a) (hat (Wm d) b)) := ⟨Lm_len h, 1, 1, by decide, by decide, fun k hk => by rw [Lm_hat h hk]⟩
/-- what mean_sum and the law's derivatives give -/
theorem mean_law {a b : List Int} {d : Nat} (h : a.length = d + 1) : low (fnd d (Wm d) a b) = low (Lm a b) := (Rel.fnd (wt_m d) a b).eq (wt_m d) (Lm_rel h)
theorem Lm_comm {a b : List Int} {d : Nat} (h : a.length = d + 1) (g : b.length = d + 1) : Lm a b = Lm b a := by
  refine ext_getD (by rw [Lm_len h, Lm_len g]) fun k hk => ?_
  rw [Lm_len h] at hk
  have e := (Lm_hat (b := b) h (show k ≤ d by omega)).trans ((cv_comm _ _ k).trans (Lm_hat (b := a) g (show k ≤ d by omega)).symm)
  have p := fac_pos (d - k)
  exact Int.eq_of_mul_eq_mul_right (show Wm d k ≠ 0 by show fac (d - k) ≠ 0; omega) e
/-- derived -/
theorem der_rel {d : Nat} {p : List Int} {F : Nat → Int} (h : Rel (d + 1) (Wm (d + 1)) p F) : Rel d (Wm d) (der p) F := by
  obtain ⟨h1, s, t, hs, ht, h2⟩ := h
  refine ⟨by rw [der_len, h1]; rfl, s, t, hs, ht, fun k hk => ?_⟩
  rw [← h2 k (by omega)]
  congr 1
  show (der p).getD k 0 * fac (d - k) = p.getD k 0 * fac (d + 1 - k)
  rw [der_get p k (by rw [h1]; omega), h1, show d + 1 - k = (d - k) + 1 by omega, fac, show (((d + 1 + 1 : Nat)) : Int) - 1 - k = ((d - k : Nat) : Int) + 1 by omega]
  grind
theorem hat_der {d : Nat} {p : List Int} (h : p.length = d + 2) {k : Nat} (hk : k ≤ d) : hat (Wm d) (der p) k = hat (Wm (d + 1)) p k := by
  show (der p).getD k 0 * fac (d - k) = p.getD k 0 * fac (d + 1 - k)
  rw [der_get p k (by rw [h]; omega), h, show d + 1 - k = (d - k) + 1 by omega, fac, show (((d + 2 : Nat)) : Int) - 1 - k = ((d - k : Nat) : Int) + 1 by omega]
  grind
theorem fnd_der {d : Nat} {a b : List Int} (ha : a.length = d + 2) (hb : b.length = d + 2) (pa : 0 < a.headD 0) (pb : 0 < b.headD 0) :
    low (fnd d (Wm d) (der a) (der b)) = low (der (low (fnd (d + 1) (Wm (d + 1)) a b))) := by
  refine (Rel.fnd (wt_m d) (der a) (der b)).eq (wt_m d) ?_
  refine (der_rel ((Rel.fnd (wt_m (d + 1)) a b).low (fnd_head (wt_m (d + 1)) pa pb))).congr fun k hk => ?_
  exact cv_congr (fun i hi => (hat_der ha (by omega)).symm) fun i hi => (hat_der hb (by omega)).symm
/-! ### shifted by an integer -/
def shS (u : Int) (f : List Int) (n : Int) : List Int := List.zipWith (fun o h => o + u * h) (f ++ [n]) (0 :: f)
def sh (u : Int) : List Int → List Int
  | [] => []
  | a :: as => as.foldl (shS u) [a]
theorem shS_eq (u : Int) (f : List Int) (n : Int) : shS u f n = zadd (f ++ [n]) (scl u (0 :: f)) := by
  unfold shS zadd scl
  rw [List.zipWith_map_right]
theorem shS_len (u : Int) (f : List Int) (n : Int) : (shS u f n).length = f.length + 1 := by simp [shS]
theorem ev_shS (u : Int) (f : List Int) (n x : Int) : ev (shS u f n) x = ev f x * (x + u) + n := by
  rw [shS_eq, ev_zadd (by simp [scl_len]), ev_snoc, ev_scl]
  show _ + u * (0 * x ^ f.length + ev f x) = _
  grind
theorem sh_fold (u : Int) : ∀ (l f : List Int) (x : Int), ev (l.foldl (shS u) f) x = ev f x * (x + u) ^ l.length + ev l (x + u) ∧ (l.foldl (shS u) f).length = f.length + l.length
  | [], f, x => by simp [ev]
  | n :: l, f, x => by
    obtain ⟨e1, e2⟩ := sh_fold u l (shS u f n) x
    rw [List.foldl_cons]
    refine ⟨?_, by rw [e2, shS_len, List.length_cons]; omega⟩
    rw [e1, ev_shS, List.length_cons, Int.pow_succ, ev]
    grind
theorem sh_len (u : Int) (p : List Int) : (sh u p).length = p.length := by
  cases p with
  | nil => rfl
  | cons a as => rw [sh, (sh_fold u as [a] 0).2, List.length_cons, List.length_cons, List.length_nil]; omega
theorem ev_sh (u : Int) (p : List Int) (x : Int) : ev (sh u p) x = ev p (x + u) := by
  cases p with
  | nil => rfl
  | cons a as =>
    rw [sh, (sh_fold u as [a] x).1]
    simp [ev]
theorem sh_scl (u c : Int) (p : List Int) : sh u (scl c p) = scl c (sh u p) := ext_ev' (by rw [sh_len, scl_len, scl_len, sh_len]) fun x => by rw [ev_sh, ev_scl, ev_scl, ev_sh]
theorem sh_sh (u v : Int) (p : List Int) : sh u (sh v p) = sh (u + v) p := ext_ev' (by rw [sh_len, sh_len, sh_len]) fun x => by rw [ev_sh, ev_sh, ev_sh, Int.add_assoc]
theorem sh_zero (p : List Int) : sh 0 p = p := ext_ev' (sh_len 0 p) fun x => by rw [ev_sh, Int.add_zero]
theorem sh_head (u : Int) {p : List Int} : (sh u p).headD 0 = p.headD 0 := by
  have key : ∀ (l f : List Int), f ≠ [] → (l.foldl (shS u) f).headD 0 = f.headD 0 := by
    intro l
    induction l with
    | nil => intro f _; rfl
    | cons n l ih =>
      intro f hf
      rw [List.foldl_cons, ih]
      · cases f with
        | nil => exact absurd rfl hf
        | cons a as => simp [shS]
      · intro z
        have := shS_len u f n
        rw [z] at this
        simp at this
  cases p with
  | nil => rfl
  | cons a as => exact key as [a] (by simp)
/-- a row in lowest terms stays so -/
theorem sh_low (u : Int) {q : List Int} (h : 0 < q.headD 0) (hg : gl q = 1) : low (sh u q) = sh u q := by
  have g : gl (sh u q) = 1 := by
    have e : sh u q = scl (gl (sh u q)) (low (sh u q)) := (scl_low _).symm
    have e2 : q = scl (gl (sh u q)) (sh (-u) (low (sh u q))) := by
      rw [← sh_scl, ← e, sh_sh, Int.add_left_neg, sh_zero]
    have d : gl (sh u q) ∣ gl q := gl_great fun c hc => by
      rw [e2] at hc
      obtain ⟨r, _, rfl⟩ := List.mem_map.mp hc
      exact Int.dvd_mul_right _ _
    rw [hg] at d
    exact Int.eq_one_of_dvd_one (gl_nonneg _) d
  unfold low
  rw [g]
  simp
theorem gl_low {p : List Int} (h : 0 < p.headD 0) : gl (low p) = 1 := by
  have g := gl_pos h
  have e := gl_scl g (low p)
  rw [scl_low] at e
  have : gl p * 1 = gl p * gl (low p) := by rw [Int.mul_one]; exact e
  exact (Int.eq_of_mul_eq_mul_left (by omega) this).symm
theorem low_low_sh (u : Int) {p : List Int} (h : 0 < p.headD 0) : low (sh u p) = sh u (low p) := by
  have e : sh u p = scl (gl p) (sh u (low p)) := by rw [← sh_scl, scl_low]
  rw [e, low_scl (gl_pos h), sh_low u (low_head h) (gl_low h)]
theorem ev_derN_sh (u : Int) (p : List Int) (x : Int) : ∀ j, ev (derN j (sh u p)) x = ev (derN j p) (x + u) ∧ derN j (sh u p) = sh u (derN j p)
  | 0 => ⟨ev_sh u p x, rfl⟩
  | j + 1 => by
    have e := (ev_derN_sh u p x j).2
    have key : ∀ q : List Int, der (sh u q) = sh u (der q) := by
      intro q
      refine ext_ev' (by rw [der_len, sh_len, sh_len, der_len]) fun y => ?_
      rw [ev_sh, ev_der, ev_der]
      have f : ∀ (l f : List Int), dv (l.foldl (shS u) f) y = dv f y * (y + u) ^ l.length + ev f y * (l.length * (y + u) ^ (l.length - 1)) + dv l (y + u) := by
        intro l
        induction l with
        | nil => intro f; simp [dv]
        | cons n l ih =>
          intro f
          rw [List.foldl_cons, ih, ev_shS]
          have d1 : dv (shS u f n) y = dv f y * (y + u) + ev f y := by
            rw [shS_eq, dv_zadd (by simp [scl_len]), dv_append, dv_scl]
            show dv f y * y ^ [n].length + ev f y * ([n].length * y ^ ([n].length - 1)) + (n * ((0 : Nat) * y ^ (0 - 1)) + 0) + u * (0 * _ + dv f y) = _
            simp
            grind
          rw [d1, List.length_cons, Int.pow_succ]
          show _ = _ + _ + (n * (l.length * (y + u) ^ (l.length - 1)) + dv l (y + u))
          rw [Int.natCast_add, Nat.add_sub_cancel]
          cases l with
          | nil => simp
          | cons m l =>
            rw [List.length_cons, Nat.add_sub_cancel, Int.pow_succ, Int.natCast_add]
            grind
      cases q with
      | nil => rfl
      | cons a as =>
        rw [sh, f]
        show _ = a * (as.length * (y + u) ^ (as.length - 1)) + dv as (y + u)
        simp [dv, ev]
    have e2 : derN (j + 1) (sh u p) = sh u (derN (j + 1) p) := by rw [derN, e, key]; rfl
    exact ⟨by rw [e2, ev_sh], e2⟩
theorem ev_Lp {d : Nat} {a b : List Int} (h : a.length = d + 1) (x : Int) : ∀ j, j ≤ d + 1 → ev (Lp d a b j) x = sm j (fun i => fac (d - i) * b.getD i 0 * ev (derN i a) x)
  | 0, _ => by rw [Lp, ev_zr, sm]
  | j + 1, hj => by
    have l := Lp_len (b := b) h j (by omega)
    have ld := derN_len a j
    rw [Lp, ev_addR (by rw [l, ld, h]; omega), ev_Lp h x j (by omega), sm, l, ld, h, show d + 1 - j - (d + 1 - j) = 0 by omega, Int.pow_zero, Int.mul_one]
theorem Lm_sh {d : Nat} {a b : List Int} (h : a.length = d + 1) (u : Int) : Lm (sh u a) b = sh u (Lm a b) := by
  have h' : (sh u a).length = d + 1 := by rw [sh_len, h]
  refine ext_ev' (by rw [Lm_len h', sh_len, Lm_len h]) fun x => ?_
  rw [ev_sh]
  unfold Lm
  rw [h', h]
  show ev (Lp d (sh u a) b (d + 1)) x = ev (Lp d a b (d + 1)) (x + u)
  rw [ev_Lp h' x _ (Nat.le_refl _), ev_Lp h (x + u) _ (Nat.le_refl _)]
  exact sm_congr fun i _ => by rw [(ev_derN_sh u a x i).1]
theorem Lm_head {d : Nat} {a b : List Int} (h : a.length = d + 1) (pa : 0 < a.headD 0) (pb : 0 < b.headD 0) : 0 < (Lm a b).headD 0 := by
  have e0 : ∀ l : List Int, l.headD 0 = l.getD 0 0 := fun l => by cases l <;> rfl
  have e := Lm_hat (b := b) h (show 0 ≤ d by omega)
  have p := fac_pos d
  have e1 : cv (hat (Wm d) a) (hat (Wm d) b) 0 = a.getD 0 0 * fac d * (b.getD 0 0 * fac d) := by simp [cv, sm, hat, Wm]
  rw [e1] at e
  rw [e0] at pa pb ⊢
  have e2 : (Lm a b).getD 0 0 * fac d = a.getD 0 0 * fac d * b.getD 0 0 * fac d := by
    have : hat (Wm d) (Lm a b) 0 = (Lm a b).getD 0 0 * fac d := rfl
    rw [← this, e]
    grind
  have e3 := Int.eq_of_mul_eq_mul_right (show fac d ≠ 0 by omega) e2
  rw [e3]
  exact Int.mul_pos (Int.mul_pos pa p) pb
theorem fnd_sh {d : Nat} {a b : List Int} (ha : a.length = d + 1) (hb : b.length = d + 1) (pa : 0 < a.headD 0) (pb : 0 < b.headD 0) (u v : Int) :
    low (fnd d (Wm d) (sh u a) (sh v b)) = sh (u + v) (low (fnd d (Wm d) a b)) := by
  have ha' : (sh u a).length = d + 1 := by rw [sh_len, ha]
  have hb' : (sh v b).length = d + 1 := by rw [sh_len, hb]
  rw [mean_law ha', mean_law ha, ← low_low_sh _ (Lm_head ha pa pb), Lm_sh ha, Lm_comm ha hb', Lm_sh hb, sh_sh, Lm_comm hb ha]
/-! ### (x - 1) to a power -/
end GM
namespace Dt
/-! ### sums -/
def S : Nat → (Nat → Int) → Int
  | 0, _ => 0
  | n + 1, f => S n f + f n
theorem S_succ (n : Nat) (f : Nat → Int) : S (n + 1) f = S n f + f n := rfl
theorem S_congr : ∀ {n : Nat} {f g : Nat → Int}, (∀ i, i < n → f i = g i) → S n f = S n g
  | 0, _, _, _ => rfl
  | n + 1, f, g, h => by rw [S_succ, S_succ, S_congr (n := n) fun i hi => h i (by omega), h n (by omega)]
theorem S_zero : ∀ (n : Nat), S n (fun _ => 0) = 0
  | 0 => rfl
  | n + 1 => by rw [S_succ, S_zero n]; rfl
theorem S_z {n : Nat} {f : Nat → Int} (h : ∀ i, i < n → f i = 0) : S n f = 0 := (S_congr h).trans (S_zero n)
theorem S_add : ∀ (n : Nat) (f g : Nat → Int), S n (fun i => f i + g i) = S n f + S n g
  | 0, _, _ => rfl
  | n + 1, f, g => by rw [S_succ, S_succ, S_succ, S_add n]; omega
theorem S_mul (c : Int) : ∀ (n : Nat) (f : Nat → Int), S n (fun i => c * f i) = c * S n f
  | 0, _ => by simp [S]
  | n + 1, f => by rw [S_succ, S_succ, S_mul c n, Int.mul_add]
theorem S_mulr (c : Int) (n : Nat) (f : Nat → Int) : S n (fun i => f i * c) = S n f * c := by
  rw [Int.mul_comm, ← S_mul]
  exact S_congr fun i _ => Int.mul_comm _ _
theorem S_neg (n : Nat) (f : Nat → Int) : S n (fun i => - f i) = - S n f := by
  have := S_mul (-1) n f
  rw [Int.neg_one_mul] at this
  rw [← this]
  exact S_congr fun i _ => (Int.neg_one_mul _).symm
theorem S_comm (f : Nat → Nat → Int) (m : Nat) : ∀ (n : Nat), S n (fun i => S m fun j => f i j) = S m fun j => S n fun i => f i j
  | 0 => (S_zero m).symm
  | n + 1 => by
    rw [S_succ, S_comm f m n, ← S_add]
    rfl
theorem S_left : ∀ (n : Nat) (f : Nat → Int), S (n + 1) f = f 0 + S n fun i => f (i + 1)
  | 0, f => by show (0 : Int) + f 0 = f 0 + 0; omega
  | n + 1, f => by rw [S_succ, S_left n, S_succ]; omega
theorem S_one {n k : Nat} {f : Nat → Int} (hk : k < n) (h : ∀ i, i < n → i ≠ k → f i = 0) : S n f = f k := by
  induction n with
  | zero => omega
  | succ n ih =>
    rw [S_succ]
    by_cases e : k = n
    · subst e
      rw [S_z fun i hi => h i (by omega) (by omega)]
      omega
    · rw [ih (by omega) fun i hi ne => h i (by omega) ne, h n (by omega) (by omega)]
      omega
theorem S_split (m : Nat) (f : Nat → Int) : ∀ (n : Nat), S (m + n) f = S m f + S n fun i => f (m + i)
  | 0 => by show S m f = S m f + 0; omega
  | n + 1 => by rw [← Nat.add_assoc, S_succ, S_split m f n, S_succ]; omega
/-! ### signs -/
def sg (n : Nat) : Int := if n % 2 = 0 then 1 else -1
theorem sg_zero : sg 0 = 1 := rfl
theorem sg_succ (n : Nat) : sg (n + 1) = - sg n := by
  unfold sg
  split <;> split <;> omega
theorem sg_sq (n : Nat) : sg n * sg n = 1 := by unfold sg; split <;> rfl
theorem sg_add (m n : Nat) : sg (m + n) = sg m * sg n := by
  induction n with
  | zero => rw [sg_zero, Int.mul_one]; rfl
  | succ n ih => rw [← Nat.add_assoc, sg_succ, ih, sg_succ, Int.mul_neg]
def skip (j k : Nat) : Nat := if k < j then k else k + 1
theorem skip_zero (k : Nat) : skip 0 k = k + 1 := by unfold skip; simp
theorem skip_lt {j k : Nat} (h : k < j) : skip j k = k := by unfold skip; simp [h]
theorem skip_ge {j k : Nat} (h : j ≤ k) : skip j k = k + 1 := by unfold skip; rw [if_neg (by omega)]
theorem skip_succ (j k : Nat) : skip (j + 1) (k + 1) = skip j k + 1 := by unfold skip; split <;> split <;> omega
theorem skip_le (j k : Nat) : skip j k ≤ k + 1 := by unfold skip; split <;> omega
/-! ### determinants -/
abbrev Mx := Nat → Nat → Int
def det : Nat → Mx → Int
  | 0, _ => 1
  | n + 1, A => S (n + 1) fun j => sg j * A 0 j * det n fun i k => A (i + 1) (skip j k)
theorem det_zero (A : Mx) : det 0 A = 1 := rfl
theorem det_succ (n : Nat) (A : Mx) : det (n + 1) A = S (n + 1) fun j => sg j * A 0 j * det n fun i k => A (i + 1) (skip j k) := rfl
theorem det_congr : ∀ {n : Nat} {A B : Mx}, (∀ i j, i < n → j < n → A i j = B i j) → det n A = det n B
  | 0, _, _, _ => rfl
  | n + 1, A, B, h => by
    rw [det_succ, det_succ]
    refine S_congr fun j hj => ?_
    rw [h 0 j (by omega) hj, det_congr (n := n) fun i k hi hk => h (i + 1) (skip j k) (by omega) (by have := skip_le j k; omega)]
theorem det_col : ∀ (n : Nat) (A : Mx), det (n + 1) A = S (n + 1) fun i => sg i * A i 0 * det n fun r k => A (skip i r) (k + 1)
  | 0, A => rfl
  | n + 1, A => by
    rw [det_succ]
    refine Eq.trans (S_left (n + 1) _) (Eq.trans ?_ (S_left (n + 1) _).symm)
    congr 1
    have e1 : (S (n + 1) fun j => sg (j + 1) * A 0 (j + 1) * det (n + 1) fun i k => A (i + 1) (skip (j + 1) k)) = S (n + 1) fun j => S (n + 1) fun i => (- (sg i * sg j)) * (A 0 (j + 1) * A (i + 1) 0) * det n fun r k => A (skip i r + 1) (skip j k + 1) := by
      refine S_congr fun j hj => ?_
      rw [det_col n, ← S_mul]
      refine S_congr fun i hi => ?_
      have : det n (fun r k => A (skip i r + 1) (skip (j + 1) (k + 1))) = det n fun r k => A (skip i r + 1) (skip j k + 1) := det_congr fun r k _ _ => by rw [skip_succ]
      rw [this, skip_lt (show 0 < j + 1 by omega), sg_succ]
      generalize det n (fun r k => A (skip i r + 1) (skip j k + 1)) = d
      grind
    have e2 : (S (n + 1) fun i => sg (i + 1) * A (i + 1) 0 * det (n + 1) fun r k => A (skip (i + 1) r) (k + 1)) = S (n + 1) fun i => S (n + 1) fun j => (- (sg i * sg j)) * (A 0 (j + 1) * A (i + 1) 0) * det n fun r k => A (skip i r + 1) (skip j k + 1) := by
      refine S_congr fun i hi => ?_
      rw [det_succ, ← S_mul]
      refine S_congr fun j hj => ?_
      have : det n (fun r k => A (skip (i + 1) (r + 1)) (skip j k + 1)) = det n fun r k => A (skip i r + 1) (skip j k + 1) := det_congr fun r k _ _ => by rw [skip_succ]
      rw [this, skip_lt (show 0 < i + 1 by omega), sg_succ]
      generalize det n (fun r k => A (skip i r + 1) (skip j k + 1)) = d
      grind
    rw [e1, e2, S_comm]
theorem det_tr : ∀ (n : Nat) (A : Mx), det n (fun i j => A j i) = det n A
  | 0, _ => rfl
  | n + 1, A => by
    rw [det_succ, det_col]
    refine S_congr fun j _ => ?_
    congr 1
    exact det_tr n fun k i => A (skip j k) (i + 1)
theorem det_last : ∀ (n : Nat) (A : Mx), det (n + 1) A = S (n + 1) fun i => sg (n + i) * A i n * det n fun r k => A (skip i r) k
  | 0, A => rfl
  | n + 1, A => by
    rw [det_succ]
    refine Eq.trans (S_succ (n + 1) _) (Eq.trans ?_ (S_left (n + 1) _).symm)
    rw [Int.add_comm]
    congr 1
    · have : det (n + 1) (fun i k => A (i + 1) (skip (n + 1) k)) = det (n + 1) fun r k => A (skip 0 r) k := det_congr fun i k _ hk => by rw [skip_lt hk, skip_zero]
      rw [this]
    · have e1 : (S (n + 1) fun j => sg j * A 0 j * det (n + 1) fun i k => A (i + 1) (skip j k)) = S (n + 1) fun j => S (n + 1) fun i => (sg j * sg (n + i)) * (A 0 j * A (i + 1) (n + 1)) * det n fun r k => A (skip i r + 1) (skip j k) := by
        refine S_congr fun j hj => ?_
        rw [det_last n, ← S_mul]
        refine S_congr fun i hi => ?_
        rw [skip_ge (show j ≤ n by omega)]
        generalize det n (fun r k => A (skip i r + 1) (skip j k)) = d
        grind
      have e2 : (S (n + 1) fun i => sg (n + 1 + (i + 1)) * A (i + 1) (n + 1) * det (n + 1) fun r k => A (skip (i + 1) r) k) = S (n + 1) fun i => S (n + 1) fun j => (sg j * sg (n + i)) * (A 0 j * A (i + 1) (n + 1)) * det n fun r k => A (skip i r + 1) (skip j k) := by
        refine S_congr fun i hi => ?_
        rw [det_succ, ← S_mul]
        refine S_congr fun j hj => ?_
        have : det n (fun r k => A (skip (i + 1) (r + 1)) (skip j k)) = det n fun r k => A (skip i r + 1) (skip j k) := det_congr fun r k _ _ => by rw [skip_succ]
        rw [this, skip_lt (show 0 < i + 1 by omega), show n + 1 + (i + 1) = n + i + 1 + 1 by omega, sg_succ, sg_succ]
        generalize det n (fun r k => A (skip i r + 1) (skip j k)) = d
        grind
      rw [e1, e2, S_comm]
/-! ### rows -/
def row (A : Mx) (r : Nat) (u : Nat → Int) : Mx := fun i j => if i = r then u j else A i j
theorem row_at (A : Mx) (r : Nat) (u : Nat → Int) (j : Nat) : row A r u r j = u j := by simp [row]
theorem row_ne {A : Mx} {r i : Nat} {u : Nat → Int} {j : Nat} (h : i ≠ r) : row A r u i j = A i j := by simp [row, h]
theorem row_self (A : Mx) (r : Nat) : row A r (A r) = A := by
  funext i j
  unfold row
  split
  · rename_i h; rw [h]
  · rfl
theorem det_lin : ∀ (n : Nat) (A : Mx) (r : Nat), r < n → ∀ (u v : Nat → Int) (c : Int), det n (row A r fun j => u j + c * v j) = det n (row A r u) + c * det n (row A r v)
  | n + 1, A, 0, _, u, v, c => by
    rw [det_succ, det_succ, det_succ, ← S_mul, ← S_add]
    refine S_congr fun j _ => ?_
    have e : ∀ w : Nat → Int, det n (fun i k => row A 0 w (i + 1) (skip j k)) = det n fun i k => A (i + 1) (skip j k) := fun w => det_congr fun i k _ _ => row_ne (by omega)
    rw [e, e, e, row_at, row_at, row_at]
    grind
  | n + 1, A, r + 1, h, u, v, c => by
    rw [det_succ, det_succ, det_succ, ← S_mul, ← S_add]
    refine S_congr fun j _ => ?_
    have e : ∀ w : Nat → Int, det n (fun i k => row A (r + 1) w (i + 1) (skip j k)) = det n (row (fun i k => A (i + 1) (skip j k)) r fun k => w (skip j k)) := fun w => det_congr fun i k _ _ => by
      by_cases q : i = r
      · subst q
        rw [row_at, row_at]
      · rw [row_ne q, row_ne (by omega)]
    rw [e, e, e, det_lin n _ r (by omega), row_ne (by omega), row_ne (by omega), row_ne (by omega)]
    grind
theorem det_scale {n : Nat} {A : Mx} {r : Nat} (h : r < n) (u : Nat → Int) (c : Int) : det n (row A r fun j => c * u j) = c * det n (row A r u) := by
  have := det_lin n A r h (fun _ => 0) u c
  have z := det_lin n A r h (fun _ => 0) (fun _ => 0) 1
  simp only [Int.mul_zero, Int.add_zero, Int.one_mul] at z
  have z0 : det n (row A r fun _ => 0) = 0 := by omega
  rw [z0] at this
  simp only [Int.zero_add] at this
  exact this
theorem det_null {n : Nat} {A : Mx} {r : Nat} (h : r < n) : det n (row A r fun _ => 0) = 0 := by
  have := det_scale h (fun _ => 0) 0 (A := A)
  simpa using this
theorem det_add {n : Nat} {A : Mx} {r : Nat} (h : r < n) (u v : Nat → Int) : det n (row A r fun j => u j + v j) = det n (row A r u) + det n (row A r v) := by
  have := det_lin n A r h u v 1
  simpa using this
theorem det_S {n : Nat} {A : Mx} {r : Nat} (h : r < n) (c : Nat → Int) (v : Nat → Nat → Int) : ∀ m : Nat, det n (row A r fun j => S m fun k => c k * v k j) = S m fun k => c k * det n (row A r (v k))
  | 0 => det_null h
  | m + 1 => by
    rw [S_succ, ← det_S h c v m]
    have := det_lin n A r h (fun j => S m fun k => c k * v k j) (v m) (c m)
    rw [← this]
    rfl
/-! ### two rows alike -/
theorem alt_adj : ∀ (n : Nat) (A : Mx) (a : Nat), a + 1 < n → (∀ j, j < n → A a j = A (a + 1) j) → det n A = 0
  | n + 1, A, a, h, eq => by
    rw [det_col]
    have others : ∀ i, i < n + 1 → i ≠ a → i ≠ a + 1 → sg i * A i 0 * det n (fun r k => A (skip i r) (k + 1)) = 0 := by
      intro i hi h1 h2
      have : det n (fun r k => A (skip i r) (k + 1)) = 0 := by
        by_cases q : i < a
        · refine alt_adj n _ (a - 1) (by omega) fun j hj => ?_
          show A (skip i (a - 1)) (j + 1) = A (skip i (a - 1 + 1)) (j + 1)
          rw [skip_ge (show i ≤ a - 1 by omega), skip_ge (show i ≤ a - 1 + 1 by omega), show a - 1 + 1 = a by omega]
          exact eq _ (by omega)
        · refine alt_adj n _ a (by omega) fun j hj => ?_
          show A (skip i a) (j + 1) = A (skip i (a + 1)) (j + 1)
          rw [skip_lt (show a < i by omega), skip_lt (show a + 1 < i by omega)]
          exact eq _ (by omega)
      rw [this, Int.mul_zero]
    have same : det n (fun r k => A (skip (a + 1) r) (k + 1)) = det n fun r k => A (skip a r) (k + 1) := by
      refine det_congr fun r k hr hk => ?_
      show A (skip (a + 1) r) (k + 1) = A (skip a r) (k + 1)
      by_cases q : r < a
      · rw [skip_lt q, skip_lt (by omega)]
      · by_cases q2 : r = a
        · subst q2
          rw [skip_lt (by omega), skip_ge (by omega)]
          exact eq _ (by omega)
        · rw [skip_ge (by omega), skip_ge (by omega)]
    have e : (S (n + 1) fun i => sg i * A i 0 * det n fun r k => A (skip i r) (k + 1)) = S (n + 1) (fun i => if i = a then sg a * A a 0 * det n fun r k => A (skip a r) (k + 1) else 0) + S (n + 1) (fun i => if i = a + 1 then - (sg a * A a 0 * det n fun r k => A (skip a r) (k + 1)) else 0) := by
      rw [← S_add]
      refine S_congr fun i hi => ?_
      by_cases q : i = a
      · subst q
        rw [if_pos rfl, if_neg (by omega), Int.add_zero]
      · by_cases q2 : i = a + 1
        · subst q2
          rw [if_neg q, if_pos rfl, same, sg_succ, ← eq 0 (by omega), Int.neg_mul, Int.neg_mul, Int.zero_add]
        · rw [if_neg q, if_neg q2, others i hi q q2]
          rfl
    rw [e, S_one (k := a) (by omega) (fun i _ ne => if_neg ne), S_one (k := a + 1) (by omega) (fun i _ ne => if_neg ne), if_pos rfl, if_pos rfl]
    omega
def two (A : Mx) (a b : Nat) (u v : Nat → Int) : Mx := row (row A a u) b v
theorem two_comm {A : Mx} {a b : Nat} (h : a ≠ b) (u v : Nat → Int) : two A a b u v = row (row A b v) a u := by
  funext i j
  unfold two row
  by_cases q : i = b
  · rw [if_pos q, if_neg (by omega), if_pos q]
  · rw [if_neg q]
    by_cases q2 : i = a
    · rw [if_pos q2, if_pos q2]
    · rw [if_neg q2, if_neg q2, if_neg q]
/-- from «two rows alike give 0» to the exchange of these rows -/
theorem swap_of {n a b : Nat} (ha : a < n) (hb : b < n) (ne : a ≠ b) (z : ∀ (A : Mx), (∀ j, j < n → A a j = A b j) → det n A = 0) (A : Mx) (u v : Nat → Int) : det n (two A a b u v) = - det n (two A a b v u) := by
  have dia : ∀ w : Nat → Int, det n (two A a b w w) = 0 := fun w => z _ fun j _ => by
    rw [two_comm ne, row_at, row_ne (Ne.symm ne), row_at]
  have l1 : ∀ w : Nat → Int, det n (two A a b (fun j => u j + v j) w) = det n (two A a b u w) + det n (two A a b v w) := fun w => by
    rw [two_comm ne, two_comm ne, two_comm ne]
    exact det_add ha u v
  have h0 := dia fun j => u j + v j
  rw [l1] at h0
  have r1 : ∀ w : Nat → Int, det n (two A a b w fun j => u j + v j) = det n (two A a b w u) + det n (two A a b w v) := fun w => det_add hb u v
  rw [r1, r1, dia, dia] at h0
  omega
theorem two_self {A : Mx} {a b : Nat} : two A a b (A a) (A b) = A := by
  unfold two
  rw [row_self, row_self]
/-- the rows a and b exchanged -/
def swp (A : Mx) (a b : Nat) : Mx := two A a b (A b) (A a)
theorem alt : ∀ (d n : Nat) (A : Mx) (a : Nat), a + d + 1 < n → (∀ j, j < n → A a j = A (a + d + 1) j) → det n A = 0
  | 0, n, A, a, h, eq => alt_adj n A a h eq
  | d + 1, n, A, a, h, eq => by
    have sw := swap_of (n := n) (a := a + d + 1) (b := a + d + 2) (by omega) (by omega) (by omega) (fun B hB => alt_adj n B _ (by omega) hB) A (A (a + d + 1)) (A (a + d + 2))
    rw [two_self] at sw
    rw [sw, alt d n (two A (a + d + 1) (a + d + 2) (A (a + d + 2)) (A (a + d + 1))) a (by omega) fun j hj => ?_]
    · rfl
    · show two A (a + d + 1) (a + d + 2) (A (a + d + 2)) (A (a + d + 1)) a j = two A (a + d + 1) (a + d + 2) (A (a + d + 2)) (A (a + d + 1)) (a + d + 1) j
      have q1 : two A (a + d + 1) (a + d + 2) (A (a + d + 2)) (A (a + d + 1)) (a + d + 1) j = A (a + d + 2) j := by
        rw [two_comm (by omega), row_at]
      have q2 : two A (a + d + 1) (a + d + 2) (A (a + d + 2)) (A (a + d + 1)) a j = A a j := by
        unfold two
        rw [row_ne (by omega), row_ne (by omega)]
      rw [q1, q2]
      exact eq j hj
theorem alike {n : Nat} {A : Mx} {a b : Nat} (ha : a < n) (hb : b < n) (ne : a ≠ b) (eq : ∀ j, j < n → A a j = A b j) : det n A = 0 := by
  by_cases q : a < b
  · obtain ⟨d, rfl⟩ : ∃ d, b = a + d + 1 := ⟨b - a - 1, by omega⟩
    exact alt d n A a hb eq
  · obtain ⟨d, rfl⟩ : ∃ d, a = b + d + 1 := ⟨a - b - 1, by omega⟩
    exact alt d n A b ha fun j hj => (eq j hj).symm
theorem det_two {n a b : Nat} (ha : a < n) (hb : b < n) (ne : a ≠ b) (A : Mx) (u v : Nat → Int) : det n (two A a b u v) = - det n (two A a b v u) := swap_of ha hb ne (fun _ h => alike ha hb ne h) A u v
theorem det_swp {n a b : Nat} (ha : a < n) (hb : b < n) (ne : a ≠ b) (A : Mx) : det n (swp A a b) = - det n A := by
  have := det_two ha hb ne A (A b) (A a)
  rw [two_self] at this
  exact this
/-! ### unit rows -/
def unit (k : Nat) : Nat → Int := fun j => if j = k then 1 else 0
def cof (n : Nat) (A : Mx) (i j : Nat) : Int := det n (row A i (unit j))
theorem det_unit {n : Nat} {A : Mx} {r : Nat} (h : r < n) (u : Nat → Int) : det n (row A r u) = S n fun j => u j * cof n A r j := by
  have := det_S h u unit n (A := A)
  rw [show (S n fun k => u k * det n (row A r (unit k))) = S n fun j => u j * cof n A r j from rfl] at this
  rw [← this]
  refine det_congr fun i j hi hj => ?_
  by_cases q : i = r
  · subst q
    rw [row_at, row_at, S_one (k := j) hj]
    · simp [unit]
    · intro k _ ne
      simp only [unit]
      rw [if_neg (Ne.symm ne), Int.mul_zero]
  · rw [row_ne q, row_ne q]
theorem cof_self {n : Nat} {A : Mx} {i : Nat} (h : i < n) : (S n fun j => A i j * cof n A i j) = det n A := by
  rw [← det_unit h, row_self]
theorem cof_other {n : Nat} {A : Mx} {i k : Nat} (h : i < n) (hk : k < n) (ne : k ≠ i) : (S n fun j => A k j * cof n A i j) = 0 := by
  rw [← det_unit h]
  refine alike h hk (Ne.symm ne) fun j _ => ?_
  rw [row_at, row_ne ne]
/-! ### blocks -/
theorem det_block : ∀ (m n : Nat) (A : Mx), (∀ i j, i < m → m ≤ j → j < m + n → A i j = 0) → det (m + n) A = det m A * det n fun i j => A (m + i) (m + j)
  | 0, n, A, _ => by
    rw [Nat.zero_add, det_zero, Int.one_mul]
    exact det_congr fun i j _ _ => by rw [Nat.zero_add, Nat.zero_add]
  | m + 1, n, A, z => by
    rw [show m + 1 + n = (m + n) + 1 by omega, det_succ, show m + n + 1 = (m + 1) + n by omega, S_split, S_z (n := n) (fun i hi => ?_), Int.add_zero, det_succ, ← S_mulr]
    · refine S_congr fun j hj => ?_
      have := det_block m n (fun i k => A (i + 1) (skip j k)) fun i k hi h1 h2 => by
        show A (i + 1) (skip j k) = 0
        rw [skip_ge (by omega)]
        exact z _ _ (by omega) (by omega) (by omega)
      rw [this]
      have e : det n (fun i k => A (m + i + 1) (skip j (m + k))) = det n fun i k => A (m + 1 + i) (m + 1 + k) := det_congr fun i k _ _ => by
        rw [skip_ge (by omega), show m + i + 1 = m + 1 + i by omega, show m + k + 1 = m + 1 + k by omega]
      rw [e, Int.mul_assoc, Int.mul_assoc, Int.mul_assoc]
    · show sg (m + 1 + i) * A 0 (m + 1 + i) * _ = 0
      rw [z 0 (m + 1 + i) (by omega) (by omega) (by omega)]
      simp
theorem det_block' {m n : Nat} {A : Mx} (z : ∀ i j, j < m → m ≤ i → i < m + n → A i j = 0) : det (m + n) A = det m A * det n fun i j => A (m + i) (m + j) := by
  have := det_block m n (fun i j => A j i) fun i j hi h1 h2 => z j i hi h1 h2
  rw [det_tr (m + n) A, det_tr m A, det_tr n fun i j => A (m + i) (m + j)] at this
  exact this
theorem det_one (A : Mx) : det 1 A = A 0 0 := by
  show 0 + sg 0 * A 0 0 * 1 = A 0 0
  rw [sg_zero]
  omega
end Dt
namespace Dt
/-! ### bordered minors, elimination -/
def bdM (m : Nat) (P : Mx) (i j : Nat) : Mx := fun r c => P (if r < m then r else i) (if c < m then c else j)
def bd (m : Nat) (P : Mx) (i j : Nat) : Int := det (m + 1) (bdM m P i j)
theorem bd_zero (P : Mx) (i j : Nat) : bd 0 P i j = P i j := by
  unfold bd
  rw [det_one]
  rfl
theorem bd_last (m : Nat) (P : Mx) : bd m P m m = det (m + 1) P := by
  refine det_congr fun r c hr hc => ?_
  unfold bdM
  have e1 : (if r < m then r else m) = r := by split <;> omega
  have e2 : (if c < m then c else m) = c := by split <;> omega
  rw [e1, e2]
theorem bd_left {m : Nat} {P : Mx} {i j : Nat} (h : j < m) : bd m P i j = 0 := by
  unfold bd
  rw [← det_tr]
  refine alike (a := j) (b := m) (by omega) (by omega) (by omega) fun r hr => ?_
  unfold bdM
  rw [if_pos h, if_neg (Nat.lt_irrefl m)]
theorem bd_lin (m : Nat) (P : Mx) (i : Nat) : ∃ w : Nat → Int, ∀ j, bd m P i j = det m P * P i j + S m fun k => w k * P k j := by
  refine ⟨fun k => cof (m + 1) (fun c r => P (if r < m then r else i) c) m k, fun j => ?_⟩
  have e : bd m P i j = det (m + 1) (row (fun c r => P (if r < m then r else i) c) m fun r => P (if r < m then r else i) j) := by
    unfold bd
    rw [← det_tr]
    refine det_congr fun c r hc hr => ?_
    unfold bdM
    by_cases q : c = m
    · subst q
      rw [row_at, if_neg (Nat.lt_irrefl c)]
    · rw [row_ne q, if_pos (show c < m by omega)]
  rw [e, det_unit (by omega), S_succ, if_neg (Nat.lt_irrefl m)]
  have c : cof (m + 1) (fun c r => P (if r < m then r else i) c) m m = det m P := by
    unfold cof
    rw [det_block' (m := m) (n := 1) fun a b hb h1 h2 => ?_, det_one]
    · have : det m (row (fun c r => P (if r < m then r else i) c) m (unit m)) = det m P := by
        rw [← det_tr m P]
        refine det_congr fun a b ha hb => ?_
        rw [row_ne (by omega), if_pos hb]
      rw [this]
      show det m P * row _ m (unit m) (m + 0) (m + 0) = _
      rw [show m + 0 = m from rfl, row_at]
      simp [unit]
    · rw [show a = m by omega, row_at]
      simp only [unit]
      rw [if_neg (by omega)]
  rw [c, Int.add_comm, Int.mul_comm]
  congr 1
  refine S_congr fun k hk => ?_
  rw [if_pos hk, Int.mul_comm]
theorem elim_rows (m n : Nat) (P : Mx) : ∀ t, t ≤ n → det (m + n) (fun i j => if m ≤ i ∧ i < m + t then bd m P i j else P i j) = det m P ^ t * det (m + n) P
  | 0, _ => by
    rw [Int.pow_zero, Int.one_mul]
    exact det_congr fun i j _ _ => if_neg (by omega)
  | t + 1, h => by
    obtain ⟨w, hw⟩ := bd_lin m P (m + t)
    have ih := elim_rows m n P t (by omega)
    generalize hQ : (fun i j => if m ≤ i ∧ i < m + t then bd m P i j else P i j : Mx) = Q at ih
    have e : det (m + n) (fun i j => if m ≤ i ∧ i < m + (t + 1) then bd m P i j else P i j) = det (m + n) (row Q (m + t) fun j => (det m P * P (m + t) j) + S m fun k => w k * P k j) := by
      refine det_congr fun i j _ _ => ?_
      by_cases q : i = m + t
      · subst q
        rw [row_at, if_pos (by omega), hw]
      · rw [row_ne q, ← hQ]
        show _ = if m ≤ i ∧ i < m + t then bd m P i j else P i j
        by_cases q2 : m ≤ i ∧ i < m + t
        · rw [if_pos q2, if_pos (by omega)]
        · rw [if_neg q2, if_neg (by omega)]
    have q1 : Q (m + t) = P (m + t) := by
      subst hQ
      funext j
      exact if_neg (by omega)
    rw [e, det_add (by omega), det_scale (by omega), ← q1, row_self, ih, det_S (by omega), S_z fun k hk => ?_, Int.add_zero, Int.pow_succ, Int.mul_comm (det m P ^ t) (det m P), Int.mul_assoc]
    rw [alike (a := m + t) (b := k) (by omega) (by omega) (by omega) fun j hj => ?_, Int.mul_zero]
    rw [row_at, row_ne (by omega), ← hQ]
    exact (if_neg (by omega)).symm
theorem elim (m n : Nat) (P : Mx) : det m P ^ n * det (m + n) P = det m P * det n fun i j => bd m P (m + i) (m + j) := by
  rw [← elim_rows m n P n (Nat.le_refl n), det_block' fun i j hj h1 h2 => ?_]
  · have e1 : det m (fun i j => if m ≤ i ∧ i < m + n then bd m P i j else P i j) = det m P := det_congr fun i j hi _ => if_neg (by omega)
    rw [e1]
    congr 1
    exact det_congr fun i j hi _ => if_pos (by omega)
  · show (if m ≤ i ∧ i < m + n then bd m P i j else P i j) = 0
    rw [if_pos ⟨h1, h2⟩, bd_left hj]
theorem det_2 (A : Mx) : det 2 A = A 0 0 * A 1 1 - A 0 1 * A 1 0 := by
  have : det 2 A = 0 + sg 0 * A 0 0 * det 1 (fun i k => A (i + 1) (skip 0 k)) + sg 1 * A 0 1 * det 1 (fun i k => A (i + 1) (skip 1 k)) := rfl
  rw [this, det_one, det_one]
  show 0 + sg 0 * A 0 0 * A 1 1 + sg 1 * A 0 1 * A 1 0 = _
  rw [show sg 1 = -1 from rfl, sg_zero]
  grind
/-- one step of the elimination, told by bordered minors -/
theorem bd_step {k : Nat} {P : Mx} {i j : Nat} (d : det k P ≠ 0) : bd (k + 1) P i j * det k P = bd k P k k * bd k P i j - bd k P k j * bd k P i k := by
  have h := elim k 2 (bdM (k + 1) P i j)
  have e0 : det k (bdM (k + 1) P i j) = det k P := det_congr fun r c hr hc => by
    unfold bdM
    rw [if_pos (by omega), if_pos (by omega)]
  have b : ∀ a c : Nat, (a = k ∨ a = k + 1) → (c = k ∨ c = k + 1) → bd k (bdM (k + 1) P i j) a c = bd k P (if a = k then k else i) (if c = k then k else j) := fun a c ha hc => by
    refine det_congr fun r s hr hs => ?_
    unfold bdM
    have e : ∀ x a i : Nat, (a = k ∨ a = k + 1) → (if (if x < k then x else a) < k + 1 then (if x < k then x else a) else i) = if x < k then x else if a = k then k else i := fun x a i ha => by
      by_cases q : x < k
      · simp only [q, if_true]
        rw [if_pos (by omega)]
      · simp only [q, if_false]
        rcases ha with rfl | rfl
        · rw [if_pos (by omega), if_pos rfl]
        · rw [if_neg (by omega), if_neg (by omega)]
    rw [e r a i ha, e s c j hc]
  rw [e0, det_2] at h
  simp only [Nat.add_zero] at h
  rw [b _ _ (.inl rfl) (.inl rfl), b _ _ (.inl rfl) (.inr rfl), b _ _ (.inr rfl) (.inl rfl), b _ _ (.inr rfl) (.inr rfl)] at h
  simp only [if_true, if_neg (show ¬ k + 1 = k by omega)] at h
  have : det k P * (bd (k + 1) P i j * det k P) = det k P * (bd k P k k * bd k P i j - bd k P k j * bd k P i k) := by
    rw [← h]
    show _ = det k P ^ 2 * bd (k + 1) P i j
    grind
  exact Int.eq_of_mul_eq_mul_left d this
theorem det_first0 {n : Nat} {A : Mx} (h : ∀ i, i < n + 1 → A i 0 = 0) : det (n + 1) A = 0 := by
  rw [det_col]
  exact S_z fun i hi => by rw [h i hi]; simp
theorem bd_none {k n : Nat} {P : Mx} (d : det k P ≠ 0) (z : ∀ i, k ≤ i → i < k + (n + 1) → bd k P i k = 0) : det (k + (n + 1)) P = 0 := by
  have h := elim k (n + 1) P
  rw [det_first0 fun i hi => z _ (by omega) (by omega), Int.mul_zero] at h
  rcases Int.mul_eq_zero.mp h with h | h
  · exact absurd h (Int.pow_ne_zero d)
  · exact h
end Dt
namespace Dt
/-! ### more sums -/
theorem S_rev : ∀ (m : Nat) (g : Nat → Int), S m (fun i => g (m - 1 - i)) = S m g
  | 0, _ => rfl
  | m + 1, g => by
    rw [S_left, S_succ, ← S_rev m g, Int.add_comm]
    congr 1
    exact S_congr fun i hi => by rw [show m + 1 - 1 - (i + 1) = m - 1 - i by omega]
theorem S_tri1 (g : Nat → Nat → Int) : ∀ n : Nat, S n (fun i => S (n - i) fun j => g i j) = S n fun at_ => S (at_ + 1) fun i => g i (at_ - i)
  | 0 => rfl
  | n + 1 => by
    rw [S_succ, S_succ, ← S_tri1 g n, S_succ, show n + 1 - n = 0 + 1 by omega, Nat.sub_self]
    have e : S n (fun i => S (n + 1 - i) fun j => g i j) = S n (fun i => S (n - i) fun j => g i j) + S n fun i => g i (n - i) := by
      rw [← S_add]
      refine S_congr fun i hi => ?_
      rw [show n + 1 - i = (n - i) + 1 by omega, S_succ]
    rw [e, S_succ]
    show _ + (0 + g n 0) = _
    omega
theorem S_tri (g : Nat → Nat → Int) (n : Nat) : S n (fun i => S (n - i) fun j => g i j) = S n fun j => S (n - j) fun i => g i j := by
  rw [S_tri1 g n, S_tri1 (fun j i => g i j) n]
  refine S_congr fun a ha => ?_
  rw [← S_rev (a + 1) fun i => g i (a - i)]
  refine S_congr fun i hi => ?_
  rw [show a + 1 - 1 - i = a - i by omega, show a - (a - i) = i by omega]
theorem S_pad {m n : Nat} {f : Nat → Int} (h : m ≤ n) (z : ∀ i, m ≤ i → i < n → f i = 0) : S n f = S m f := by
  obtain ⟨d, rfl⟩ : ∃ d, n = m + d := ⟨n - m, by omega⟩
  rw [S_split, S_z (n := d) (f := fun i => f (m + i)) fun i hi => z _ (by omega) (by omega), Int.add_zero]
/-! ### polynomial functions -/
def pv (D : Nat) (c : Nat → Int) (x : Int) : Int := S D fun t => c t * x ^ t
theorem pv_succ (D : Nat) (c : Nat → Int) (x : Int) : pv (D + 1) c x = c 0 + x * pv D (fun t => c (t + 1)) x := by
  unfold pv
  rw [S_left, Int.pow_zero, Int.mul_one, ← S_mul]
  congr 1
  refine S_congr fun i _ => ?_
  rw [Int.pow_succ]
  generalize x ^ i = y
  grind
theorem pv_null : ∀ (D : Nat) (c : Nat → Int) (N : Int), (∀ x, N ≤ x → pv D c x = 0) → ∀ t, t < D → c t = 0
  | 0, _, _, _, t, ht => by omega
  | D + 1, c, N, h, t, ht => by
    have c0 : c 0 = 0 := by
      apply Classical.byContradiction
      intro ne
      have e := h ((c 0).natAbs + N.natAbs + 1) (by omega)
      rw [pv_succ] at e
      have d : ((c 0).natAbs + N.natAbs + 1 : Int) ∣ c 0 := ⟨- pv D (fun t => c (t + 1)) ((c 0).natAbs + N.natAbs + 1), by rw [Int.mul_neg]; omega⟩
      have := Int.le_of_dvd (show 0 < ((c 0).natAbs : Int) by omega) (Int.dvd_natAbs.mpr d)
      omega
    cases t with
    | zero => exact c0
    | succ t =>
      refine pv_null D (fun t => c (t + 1)) (N.natAbs + 1) (fun x hx => ?_) t (by omega)
      have e := h x (by omega)
      rw [pv_succ, c0, Int.zero_add] at e
      rcases Int.mul_eq_zero.mp e with e | e
      · omega
      · exact e
def PF (f : Int → Int) : Prop := ∃ (D : Nat) (c : Nat → Int), ∀ x, f x = pv D c x
theorem pv_pad (D E : Nat) (c : Nat → Int) (x : Int) : pv D c x = pv (D + E) (fun t => if t < D then c t else 0) x := by
  unfold pv
  rw [S_pad (m := D) (n := D + E) (by omega) fun i h1 h2 => by show (if i < D then c i else 0) * x ^ i = 0; rw [if_neg (by omega), Int.zero_mul]]
  exact S_congr fun i hi => by show _ = (if i < D then c i else 0) * x ^ i; rw [if_pos hi]
/-- a bound of the degree may be greater, the numbers beyond are 0 -/
theorem PF.at {f : Int → Int} (h : PF f) : ∃ (D : Nat) (c : Nat → Int), (∀ t, D ≤ t → c t = 0) ∧ ∀ x, f x = pv D c x := by
  obtain ⟨D, c, e⟩ := h
  refine ⟨D, fun t => if t < D then c t else 0, fun t ht => if_neg (by omega), fun x => ?_⟩
  rw [e, pv_pad D 0]
  rfl
theorem pv_more {D E : Nat} {c : Nat → Int} (h : D ≤ E) (z : ∀ t, D ≤ t → c t = 0) (x : Int) : pv D c x = pv E c x := by
  unfold pv
  exact (S_pad h fun i h1 _ => by rw [z i h1, Int.zero_mul]).symm
theorem PF.congr {f g : Int → Int} (h : PF f) (e : ∀ x, g x = f x) : PF g := let ⟨D, c, q⟩ := h; ⟨D, c, fun x => (e x).trans (q x)⟩
theorem PF.const (k : Int) : PF fun _ => k := ⟨1, fun _ => k, fun x => by unfold pv; show k = 0 + k * x ^ 0; rw [Int.pow_zero]; omega⟩
theorem PF.add {f g : Int → Int} (hf : PF f) (hg : PF g) : PF fun x => f x + g x := by
  obtain ⟨D, c, z1, e1⟩ := hf.at
  obtain ⟨E, d, z2, e2⟩ := hg.at
  refine ⟨D + E, fun t => c t + d t, fun x => ?_⟩
  show f x + g x = _
  rw [e1, e2, pv_more (show D ≤ D + E by omega) z1, pv_more (show E ≤ D + E by omega) z2]
  unfold pv
  rw [← S_add]
  exact S_congr fun i _ => (Int.add_mul _ _ _).symm
theorem PF.scale {f : Int → Int} (k : Int) (hf : PF f) : PF fun x => k * f x := by
  obtain ⟨D, c, e⟩ := hf
  refine ⟨D, fun t => k * c t, fun x => ?_⟩
  show k * f x = _
  rw [e]
  unfold pv
  rw [← S_mul]
  exact S_congr fun i _ => (Int.mul_assoc _ _ _).symm
theorem PF.x {f : Int → Int} (hf : PF f) : PF fun x => x * f x := by
  obtain ⟨D, c, e⟩ := hf
  refine ⟨D + 1, fun t => if t = 0 then 0 else c (t - 1), fun x => ?_⟩
  show x * f x = _
  rw [pv_succ, e, if_pos rfl, Int.zero_add]
  rfl
theorem PF.id : PF fun x => x := ((PF.const 1).x).congr fun x => by rw [Int.mul_one]
theorem PF.pow {f : Int → Int} (hf : PF f) : ∀ t : Nat, PF fun x => x ^ t * f x
  | 0 => hf.congr fun x => by rw [Int.pow_zero, Int.one_mul]
  | t + 1 => ((PF.pow hf t).x).congr fun x => by rw [Int.pow_succ, Int.mul_comm (x ^ t) x, Int.mul_assoc]
theorem PF.S {f : Nat → Int → Int} : ∀ n : Nat, (∀ i, i < n → PF (f i)) → PF fun x => S n fun i => f i x
  | 0, _ => PF.const 0
  | n + 1, h => (PF.S n fun i hi => h i (by omega)).add (h n (by omega))
theorem PF.mul {f g : Int → Int} (hf : PF f) (hg : PF g) : PF fun x => f x * g x := by
  obtain ⟨D, c, e⟩ := hf
  refine (PF.S D fun t _ => (hg.pow t).scale (c t)).congr fun x => ?_
  rw [e]
  unfold pv
  rw [← S_mulr]
  exact S_congr fun i _ => Int.mul_assoc _ _ _
theorem PF.neg {f : Int → Int} (hf : PF f) : PF fun x => - f x := (hf.scale (-1)).congr fun x => by rw [Int.neg_one_mul]
theorem PF.sub {f g : Int → Int} (hf : PF f) (hg : PF g) : PF fun x => f x - g x := (hf.add hg.neg).congr fun x => Int.sub_eq_add_neg
theorem PF.ite {p : Prop} [Decidable p] {f g : Int → Int} (hf : PF f) (hg : PF g) : PF fun x => if p then f x else g x := by
  by_cases h : p
  · exact hf.congr fun x => if_pos h
  · exact hg.congr fun x => if_neg h
theorem PF.det : ∀ (n : Nat) (A : Int → Mx), (∀ i j, i < n → j < n → PF fun x => A x i j) → PF fun x => det n (A x)
  | 0, _, _ => PF.const 1
  | n + 1, A, h => by
    refine (PF.S (n + 1) fun j hj => ?_).congr fun x => det_succ n (A x)
    exact (((PF.const (sg j)).mul (h 0 j (by omega) hj)).mul (PF.det n (fun x i k => A x (i + 1) (skip j k)) fun i k hi hk => h _ _ (by omega) (by have := skip_le j k; omega)))
/-- from one place on the same: everywhere the same -/
theorem PF.same {f g : Int → Int} (hf : PF f) (hg : PF g) (N : Int) (h : ∀ x, N ≤ x → f x = g x) (x : Int) : f x = g x := by
  obtain ⟨D, c, e⟩ := hf.sub hg
  have z := pv_null D c N fun x hx => by rw [← e]; show f x - g x = 0; rw [h x hx]; omega
  have := e x
  unfold pv at this
  rw [S_z fun i hi => by rw [z i hi, Int.zero_mul]] at this
  have t2 : f x - g x = 0 := this
  omega
theorem coefs_same {D : Nat} {c d : Nat → Int} (h : ∀ x, pv D c x = pv D d x) : ∀ t, t < D → c t = d t := fun t ht => by
  have := pv_null D (fun t => c t - d t) 0 (fun x _ => by
    have := h x
    unfold pv at *
    have e : (S D fun t => (c t - d t) * x ^ t) = (S D fun t => c t * x ^ t) + S D fun t => - (d t * x ^ t) := by
      rw [← S_add]
      exact S_congr fun i _ => by rw [Int.sub_mul]; omega
    rw [e, S_neg]
    omega) t ht
  have e : c t - d t = 0 := this
  omega
/-- a monic one is above 0 from some place on -/
theorem monic_pos : ∀ (k : Nat) (p : Nat → Int), p k = 1 → ∃ N : Int, ∀ x, N ≤ x → 0 < pv (k + 1) p x
  | 0, p, h => ⟨0, fun x _ => by unfold pv; show 0 < 0 + p 0 * x ^ 0; rw [h, Int.pow_zero]; decide⟩
  | k + 1, p, h => by
    obtain ⟨N, hN⟩ := monic_pos k (fun t => p (t + 1)) h
    refine ⟨N.natAbs + (p 0).natAbs + 1, fun x hx => ?_⟩
    rw [pv_succ]
    have h1 := hN x (by omega)
    have : x * 1 ≤ x * pv (k + 1) (fun t => p (t + 1)) x := Int.mul_le_mul_of_nonneg_left (by omega) (by omega)
    omega
/-! ### x less a table; its border -/
def lessM (A : Mx) (x : Int) : Mx := fun i j => (if i = j then x else 0) - A i j
theorem lessM_PF (A : Mx) (i j : Nat) : PF fun x => lessM A x i j := (PF.ite PF.id (PF.const 0)).sub (PF.const (A i j))
def vec (k : Nat) (A : Mx) (r : Nat → Int) : Nat → Nat → Int
  | 0 => r
  | s + 1 => fun i => S k fun j => A i j * vec k A r s j
def dot (k : Nat) (u w : Nat → Int) : Int := S k fun i => u i * w i
theorem S_if {k i : Nat} (hi : i < k) (x : Int) (f : Nat → Int) : (S k fun j => (if i = j then x else 0) * f j) = x * f i := by
  rw [S_one hi fun j _ ne => by rw [if_neg (Ne.symm ne), Int.zero_mul], if_pos rfl]
theorem border_C {k : Nat} {A : Mx} {r : Nat → Int} {p : Nat → Int} (hp : ∀ x, det k (lessM A x) = pv (k + 1) p x) (x : Int) (i : Nat) (hi : i < k) :
    (S k fun j => lessM A x i j * S k fun a => r a * cof k (lessM A x) a j) = pv (k + 1) p x * r i := by
  have e : (S k fun j => lessM A x i j * S k fun a => r a * cof k (lessM A x) a j) = S k fun a => r a * S k fun j => lessM A x i j * cof k (lessM A x) a j := by
    have e1 : (S k fun j => lessM A x i j * S k fun a => r a * cof k (lessM A x) a j) = S k fun j => S k fun a => r a * (lessM A x i j * cof k (lessM A x) a j) := by
      refine S_congr fun j _ => ?_
      rw [← S_mul]
      refine S_congr fun a _ => ?_
      grind
    rw [e1, S_comm]
    exact S_congr fun a _ => S_mul _ _ _
  rw [e, S_one hi fun a ha ne => by rw [cof_other ha hi (Ne.symm ne), Int.mul_zero], cof_self hi, hp, Int.mul_comm]
/-- the numbers of the vector that solves -/
theorem border_b {k : Nat} {A : Mx} {r : Nat → Int} {p : Nat → Int} (hp : ∀ x, det k (lessM A x) = pv (k + 1) p x) (j : Nat) (hj : j < k) (x : Int) :
    (S k fun a => r a * cof k (lessM A x) a j) = S k fun t => x ^ t * S (k - t) fun s => p (t + 1 + s) * vec k A r s j := by
  have pf : ∀ j, j < k → PF fun x => S k fun a => r a * cof k (lessM A x) a j := fun j hj => PF.S k fun a ha => (PF.det k _ fun i l hi hl => by
    unfold row
    exact PF.ite (PF.const _) (lessM_PF A i l)).scale (r a)
  have all : ∀ m, m ≤ k → ∃ (D : Nat) (b : Nat → Nat → Int), (∀ j t, D ≤ t → b j t = 0) ∧ ∀ j, j < m → ∀ x, (S k fun a => r a * cof k (lessM A x) a j) = pv D (b j) x := by
    intro m
    induction m with
    | zero => exact fun _ => ⟨0, fun _ _ => 0, fun _ _ _ => rfl, fun j hj => by omega⟩
    | succ m ih =>
      intro hm
      obtain ⟨D, b, z, e⟩ := ih (by omega)
      obtain ⟨E, c, zc, ec⟩ := (pf m (by omega)).at
      refine ⟨D + E, fun j => if j = m then c else b j, fun j t ht => ?_, fun j hj x => ?_⟩
      · show (if j = m then c else b j) t = 0
        split
        · exact zc t (by omega)
        · exact z j t (by omega)
      · show _ = pv (D + E) (if j = m then c else b j) x
        by_cases q : j = m
        · subst q
          rw [if_pos rfl, ec, pv_more (show E ≤ D + E by omega) zc]
        · rw [if_neg q, e j (by omega), pv_more (show D ≤ D + E by omega) (z j)]
  obtain ⟨D0, b, z0, e⟩ := all k (Nat.le_refl k)
  obtain ⟨D, hD, hk, rfl⟩ : ∃ D, D0 ≤ D ∧ k ≤ D ∧ D = D0 + k := ⟨D0 + k, by omega, by omega, rfl⟩
  have z : ∀ j t, D0 + k ≤ t → b j t = 0 := fun j t ht => z0 j t (by omega)
  replace e : ∀ j, j < k → ∀ x, (S k fun a => r a * cof k (lessM A x) a j) = pv (D0 + k) (b j) x := fun j hj x => by rw [e j hj x, pv_more (show D0 ≤ D0 + k by omega) (z0 j)]
  generalize D0 + k = D at *
  let q : Nat → Int := fun t => if t < k + 1 then p t else 0
  have step : ∀ i, i < k → ∀ t, b i t = q (t + 1) * r i + S k fun j => A i j * b j (t + 1) := by
    intro i hi
    have poly : ∀ x, pv (D + 1) (fun t => if t = 0 then 0 else b i (t - 1)) x = pv (D + 1) (fun t => q t * r i + S k fun j => A i j * b j t) x := by
      intro x
      have h := border_C (r := r) hp x i hi
      have h1 : (S k fun j => lessM A x i j * S k fun a => r a * cof k (lessM A x) a j) = x * pv D (b i) x - S k fun j => A i j * pv D (b j) x := by
        have h2 : (S k fun j => lessM A x i j * S k fun a => r a * cof k (lessM A x) a j) = (S k fun j => (if i = j then x else 0) * pv D (b j) x) + S k fun j => - (A i j * pv D (b j) x) := by
          rw [← S_add]
          refine S_congr fun j hj => ?_
          rw [e j hj]
          unfold lessM
          rw [Int.sub_mul]
          omega
        rw [h2, S_if hi, S_neg]
        omega
      rw [h1] at h
      have l : pv (D + 1) (fun t => if t = 0 then 0 else b i (t - 1)) x = x * pv D (b i) x := by
        rw [pv_succ, if_pos rfl, Int.zero_add]
        rfl
      have rr : pv (D + 1) (fun t => q t * r i + S k fun j => A i j * b j t) x = pv (k + 1) p x * r i + S k fun j => A i j * pv D (b j) x := by
        have r1 : pv (D + 1) (fun t => q t * r i + S k fun j => A i j * b j t) x = (S (D + 1) fun t => q t * r i * x ^ t) + S (D + 1) fun t => (S k fun j => A i j * b j t) * x ^ t := by
          unfold pv
          rw [← S_add]
          exact S_congr fun t _ => Int.add_mul _ _ _
        have r2 : (S (D + 1) fun t => q t * r i * x ^ t) = pv (k + 1) p x * r i := by
          rw [S_pad (m := k + 1) (by omega) fun t h1 _ => by show (if t < k + 1 then p t else 0) * r i * x ^ t = 0; rw [if_neg (by omega)]; simp]
          unfold pv
          rw [← S_mulr]
          refine S_congr fun t ht => ?_
          show (if t < k + 1 then p t else 0) * r i * x ^ t = _
          rw [if_pos ht]
          grind
        have r3 : (S (D + 1) fun t => (S k fun j => A i j * b j t) * x ^ t) = S k fun j => A i j * pv D (b j) x := by
          have r4 : (S (D + 1) fun t => (S k fun j => A i j * b j t) * x ^ t) = S (D + 1) fun t => S k fun j => A i j * (b j t * x ^ t) := S_congr fun t _ => by
            rw [← S_mulr]
            exact S_congr fun j _ => Int.mul_assoc _ _ _
          rw [r4, S_comm]
          refine S_congr fun j _ => ?_
          rw [S_mul, S_pad (m := D) (by omega) fun t h1 _ => by rw [z j t h1, Int.zero_mul]]
          rfl
        rw [r1, r2, r3]
      rw [l, rr]
      omega
    intro t
    by_cases ht : t < D
    · have := coefs_same poly (t + 1) (by omega)
      rw [if_neg (by omega)] at this
      exact this
    · rw [z i t (by omega), S_z fun j _ => by rw [z j (t + 1) (by omega), Int.mul_zero]]
      show (0 : Int) = (if t + 1 < k + 1 then p (t + 1) else 0) * r i + 0
      rw [if_neg (by omega)]
      simp
  have form : ∀ d t, t + d = D → ∀ i, i < k → b i t = S (k - t) fun s => p (t + 1 + s) * vec k A r s i := by
    intro d
    induction d with
    | zero =>
      intro t ht i hi
      rw [z i t (by omega), show k - t = 0 by omega]
      rfl
    | succ d ih =>
      intro t ht i hi
      rw [step i hi t]
      have e1 : (S k fun j => A i j * b j (t + 1)) = S (k - (t + 1)) fun s => p (t + 1 + 1 + s) * vec k A r (s + 1) i := by
        have e2 : (S k fun j => A i j * b j (t + 1)) = S k fun j => S (k - (t + 1)) fun s => p (t + 1 + 1 + s) * (A i j * vec k A r s j) := S_congr fun j hj => by
          rw [ih (t + 1) (by omega) j hj, ← S_mul]
          exact S_congr fun s _ => by grind
        rw [e2, S_comm]
        refine S_congr fun s _ => ?_
        rw [S_mul]
        rfl
      rw [e1]
      by_cases hk' : t < k
      · show (if t + 1 < k + 1 then p (t + 1) else 0) * r i + _ = _
        rw [if_pos (by omega), show k - t = (k - (t + 1)) + 1 by omega, S_left]
        congr 1
        exact S_congr fun s _ => by rw [show t + 1 + 1 + s = t + 1 + (s + 1) by omega]
      · show (if t + 1 < k + 1 then p (t + 1) else 0) * r i + _ = _
        rw [if_neg (by omega), show k - t = 0 by omega, show k - (t + 1) = 0 by omega]
        show (0 : Int) * r i + 0 = 0
        simp
  rw [e j hj]
  unfold pv
  rw [S_pad (m := k) hk fun t h1 h2 => by rw [form (D - t) t (by omega) j hj, show k - t = 0 by omega]; show (0 : Int) * _ = 0; simp]
  refine S_congr fun t ht => ?_
  rw [form (D - t) t (by omega) j hj, Int.mul_comm]
/-- one row and one column more -/
theorem border {k : Nat} {B : Mx} {p : Nat → Int} (hp : ∀ x, det k (lessM B x) = pv (k + 1) p x) (mon : p k = 1) (x : Int) :
    det (k + 1) (lessM B x) = (x - B k k) * pv (k + 1) p x - S k fun t => x ^ t * S (k - t) fun s => p (t + 1 + s) * dot k (fun j => B k j) (vec k B (fun i => B i k) s) := by
  obtain ⟨N, pos⟩ := monic_pos k p mon
  refine PF.same (PF.det (k + 1) _ fun i j _ _ => lessM_PF B i j) (((PF.id.sub (PF.const _)).mul ⟨k + 1, p, fun _ => rfl⟩).sub (PF.S k fun t _ => PF.pow (PF.const _) t)) N (fun x hx => ?_) x
  have hx0 := pos x hx
  generalize hP : pv (k + 1) p x = P at *
  have sol := fun i hi => border_C (r := fun i => B i k) hp x i hi
  generalize hC : (fun j => S k fun a => (fun i => B i k) a * cof k (lessM B x) a j : Nat → Int) = C at *
  have hC' : ∀ j, (S k fun a => B a k * cof k (lessM B x) a j) = C j := fun j => by rw [← hC]
  simp only [hC'] at sol
  rw [hP] at sol
  -- the last column
  let T : Mx := fun i j => lessM B x j i
  have dT : det (k + 1) T = det (k + 1) (lessM B x) := det_tr _ _
  have op : det (k + 1) (row T k fun i => P * T k i + S k fun j => C j * T j i) = P * det (k + 1) T := by
    rw [det_add (by omega), det_scale (by omega), row_self, det_S (by omega), S_z fun j hj => ?_, Int.add_zero]
    rw [alike (a := k) (b := j) (by omega) (by omega) (by omega) fun i _ => by rw [row_at, row_ne (by omega)], Int.mul_zero]
  have bl := det_block' (m := k) (n := 1) (A := row T k fun i => P * T k i + S k fun j => C j * T j i) fun i j hj h1 h2 => by
    rw [show i = k by omega, row_at]
    have := sol j hj
    show P * lessM B x j k + S k (fun l => C l * lessM B x j l) = 0
    rw [S_congr (g := fun l => lessM B x j l * C l) fun l _ => Int.mul_comm _ _, this]
    unfold lessM
    rw [if_neg (by omega)]
    grind
  rw [op, det_one] at bl
  have dl : det k (row T k fun i => P * T k i + S k fun j => C j * T j i) = P := by
    rw [← hP, ← hp x, ← det_tr k (lessM B x)]
    exact det_congr fun i j hi _ => row_ne (by omega)
  rw [dl, show k + 0 = k from rfl, row_at] at bl
  have c := Int.eq_of_mul_eq_mul_left (show P ≠ 0 by omega) bl
  rw [← dT, c]
  show P * lessM B x k k + S k (fun j => C j * lessM B x k j) = _
  have l1 : lessM B x k k = x - B k k := by unfold lessM; rw [if_pos rfl]
  have l2 : (S k fun j => C j * lessM B x k j) = - dot k (fun j => B k j) C := by
    unfold dot
    rw [← S_neg]
    refine S_congr fun j hj => ?_
    unfold lessM
    rw [if_neg (by omega)]
    grind
  have l3 : dot k (fun j => B k j) C = S k fun t => x ^ t * S (k - t) fun s => p (t + 1 + s) * dot k (fun j => B k j) (vec k B (fun i => B i k) s) := by
    unfold dot
    have l4 : (S k fun j => B k j * C j) = S k fun j => S k fun t => x ^ t * S (k - t) fun s => p (t + 1 + s) * (B k j * vec k B (fun i => B i k) s j) := S_congr fun j hj => by
      have bj := border_b (r := fun i => B i k) hp j hj x
      rw [hC' j] at bj
      rw [bj, ← S_mul]
      refine S_congr fun t _ => ?_
      rw [Int.mul_left_comm, ← S_mul]
      congr 1
      exact S_congr fun s _ => by grind
    rw [l4, S_comm]
    refine S_congr fun t _ => ?_
    rw [S_mul, S_comm]
    congr 1
    exact S_congr fun s _ => S_mul _ _ _
  rw [l1, l2, l3, Int.mul_comm P]
  omega
end Dt
namespace Dt
/-! ### the numbers, size by size -/
/-- the factor of a border: 1, less the corner, less the products -/
def fac (a : Int) (d : Nat → Int) : Nat → Int
  | 0 => 1
  | 1 => -a
  | t + 2 => - d t
def nxt (c f : Nat → Int) : Nat → Int := fun at_ => S (at_ + 1) fun i => c i * f (at_ - i)
theorem S_fac (a : Int) (d : Nat → Int) (x : Int) (m : Nat) : (S (m + 2) fun t => fac a d t * x ^ (m + 1 - t)) = x ^ (m + 1) - a * x ^ m - S m fun s => d s * x ^ (m - 1 - s) := by
  rw [S_left, S_left, ← Int.neg_neg (S m fun s => d s * x ^ (m - 1 - s)), ← S_neg]
  have e : (S m fun i => fac a d (i + 1 + 1) * x ^ (m + 1 - (i + 1 + 1))) = S m fun i => - (d i * x ^ (m - 1 - i)) := S_congr fun i hi => by
    show - d i * x ^ (m + 1 - (i + 1 + 1)) = _
    rw [show m + 1 - (i + 1 + 1) = m - 1 - i by omega, Int.neg_mul]
  rw [e]
  show 1 * x ^ (m + 1 - 0) + (-a * x ^ (m + 1 - (0 + 1)) + _) = _
  rw [Nat.sub_zero, show m + 1 - (0 + 1) = m by omega]
  grind
/-- descending numbers of degree k, their worth -/
def dv (k : Nat) (c : Nat → Int) (x : Int) : Int := S (k + 1) fun i => c i * x ^ (k - i)
theorem dv_pv (k : Nat) (c : Nat → Int) (x : Int) : dv k c x = pv (k + 1) (fun t => c (k - t)) x := by
  unfold dv pv
  rw [← S_rev (k + 1) fun t => c (k - t) * x ^ t]
  refine S_congr fun i hi => ?_
  rw [show k + 1 - 1 - i = k - i by omega, show k - (k - i) = i by omega]
theorem nxt_dv {k : Nat} {c : Nat → Int} {a : Int} {d : Nat → Int} (z : ∀ i, k < i → c i = 0) (x : Int) :
    dv (k + 1) (nxt c (fac a d)) x = (x - a) * dv k c x - S k fun t => x ^ t * S (k - t) fun s => c (k - (t + 1 + s)) * d s := by
  have e1 : dv (k + 1) (nxt c (fac a d)) x = S (k + 2) fun at_ => S (at_ + 1) fun i => c i * (fac a d (at_ - i) * x ^ (k + 1 - i - (at_ - i))) := by
    unfold dv nxt
    refine S_congr fun at_ ha => ?_
    rw [← S_mulr]
    refine S_congr fun i hi => ?_
    rw [show k + 1 - i - (at_ - i) = k + 1 - at_ by omega, Int.mul_assoc]
  rw [e1, ← S_tri1 (fun i t => c i * (fac a d t * x ^ (k + 1 - i - t))) (k + 2), S_succ, S_z (n := k + 2 - (k + 1)) (fun t _ => by rw [z (k + 1) (by omega), Int.zero_mul]), Int.add_zero]
  have e2 : (S (k + 1) fun i => S (k + 2 - i) fun t => c i * (fac a d t * x ^ (k + 1 - i - t))) = (S (k + 1) fun i => (x - a) * (c i * x ^ (k - i))) + S (k + 1) fun i => - S (k - i) fun s => c i * (d s * x ^ (k - i - 1 - s)) := by
    rw [← S_add]
    refine S_congr fun i hi => ?_
    rw [S_mul, show k + 2 - i = (k - i) + 2 by omega, show k + 1 - i = (k - i) + 1 by omega, S_fac, S_mul, Int.pow_succ]
    grind
  rw [e2, S_mul, S_neg]
  have e3 : (S (k + 1) fun i => S (k - i) fun s => c i * (d s * x ^ (k - i - 1 - s))) = S k fun t => x ^ t * S (k - t) fun s => c (k - (t + 1 + s)) * d s := by
    rw [S_succ, show k - k = 0 by omega]
    show (S k fun i => S (k - i) fun s => c i * (d s * x ^ (k - i - 1 - s))) + 0 = _
    have e4 : (S k fun t => x ^ t * S (k - t) fun s => c (k - (t + 1 + s)) * d s) = S k fun t => S (k - t) fun s => c (k - (t + 1 + s)) * (d s * x ^ t) := S_congr fun t _ => by
      rw [← S_mul]
      exact S_congr fun s _ => by grind
    rw [e4, Int.add_zero, S_tri (fun i s => c i * (d s * x ^ (k - i - 1 - s))) k, S_tri (fun t s => c (k - (t + 1 + s)) * (d s * x ^ t)) k]
    refine S_congr fun s hs => ?_
    rw [← S_rev (k - s) fun i => c (k - (i + 1 + s)) * (d s * x ^ i)]
    refine S_congr fun i hi => ?_
    rw [show k - (k - s - 1 - i + 1 + s) = i by omega, show k - s - 1 - i = k - i - 1 - s by omega]
  rw [e3]
  unfold dv
  omega
/-- the numbers of a table's poly, size by size -/
def cs (B : Mx) : Nat → Nat → Int
  | 0 => fun i => if i = 0 then 1 else 0
  | k + 1 => fun i => if i ≤ k + 1 then nxt (cs B k) (fac (B k k) fun s => dot k (fun j => B k j) (vec k B (fun i => B i k) s)) i else 0
theorem cs_zero (B : Mx) : ∀ k i, k < i → cs B k i = 0
  | 0, i, h => if_neg (by omega)
  | k + 1, i, h => if_neg (by omega)
theorem cs_first (B : Mx) : ∀ k, cs B k 0 = 1
  | 0 => rfl
  | k + 1 => by
    show (if 0 ≤ k + 1 then nxt (cs B k) _ 0 else 0) = 1
    rw [if_pos (by omega)]
    unfold nxt
    show 0 + cs B k 0 * fac _ _ 0 = 1
    rw [cs_first B k]
    rfl
theorem dv_congr {k : Nat} {c d : Nat → Int} (h : ∀ i, i ≤ k → c i = d i) (x : Int) : dv k c x = dv k d x := S_congr fun i hi => by rw [h i (by omega)]
theorem cs_det (B : Mx) : ∀ (k : Nat) (x : Int), det k (lessM B x) = dv k (cs B k) x
  | 0, x => by
    show (1 : Int) = 0 + (if 0 = 0 then 1 else 0) * x ^ (0 - 0)
    rw [if_pos rfl, Nat.sub_self, Int.pow_zero]
    rfl
  | k + 1, x => by
    have hp : ∀ x, det k (lessM B x) = pv (k + 1) (fun t => cs B k (k - t)) x := fun x => by rw [cs_det B k x, dv_pv]
    have mon : (fun t => cs B k (k - t)) k = 1 := by
      show cs B k (k - k) = 1
      rw [Nat.sub_self, cs_first]
    have e : dv (k + 1) (cs B (k + 1)) x = dv (k + 1) (nxt (cs B k) (fac (B k k) fun s => dot k (fun j => B k j) (vec k B (fun i => B i k) s))) x := dv_congr (fun i hi => if_pos hi) x
    rw [border hp mon x, e, nxt_dv (cs_zero B k) x, ← dv_pv]
/-- the products of the powers, for a symmetric table -/
theorem vec_add {k : Nat} {A : Mx} (r : Nat → Int) (s : Nat) : ∀ t i, vec k A r (s + t) i = vec k A (vec k A r s) t i
  | 0, i => rfl
  | t + 1, i => by
    show (S k fun j => A i j * vec k A r (s + t) j) = S k fun j => A i j * vec k A (vec k A r s) t j
    exact S_congr fun j _ => by rw [vec_add r s t j]
theorem dot_congr {k : Nat} {u v u' v' : Nat → Int} (h1 : ∀ i, i < k → u i = u' i) (h2 : ∀ i, i < k → v i = v' i) : dot k u v = dot k u' v' := S_congr fun i hi => by rw [h1 i hi, h2 i hi]
theorem dot_sym {k : Nat} {A : Mx} (sym : ∀ i j, i < k → j < k → A i j = A j i) (u w : Nat → Int) : dot k (fun i => S k fun j => A i j * u j) w = dot k u fun i => S k fun j => A i j * w j := by
  unfold dot
  have e1 : (S k fun i => (S k fun j => A i j * u j) * w i) = S k fun i => S k fun j => A i j * u j * w i := S_congr fun i _ => (S_mulr _ _ _).symm
  have e2 : (S k fun i => u i * S k fun j => A i j * w j) = S k fun i => S k fun j => u i * (A i j * w j) := S_congr fun i _ => (S_mul _ _ _).symm
  rw [e1, e2, S_comm]
  refine S_congr fun i hi => S_congr fun j hj => ?_
  rw [sym j i hj hi]
  grind
theorem dot_pow {k : Nat} {A : Mx} (sym : ∀ i j, i < k → j < k → A i j = A j i) (r : Nat → Int) : ∀ (s t : Nat), dot k (vec k A r s) (vec k A r t) = dot k r (vec k A r (s + t))
  | 0, t => by rw [Nat.zero_add]; rfl
  | s + 1, t => by
    show dot k (fun i => S k fun j => A i j * vec k A r s j) (vec k A r t) = _
    rw [dot_sym sym, show s + 1 + t = s + (t + 1) by omega, ← dot_pow sym r s (t + 1)]
    rfl
/-! ### the same worth everywhere: the same numbers -/
theorem dv_same {k : Nat} {c d : Nat → Int} (h : ∀ x, dv k c x = dv k d x) : ∀ i, i ≤ k → c i = d i := fun i hi => by
  have := coefs_same (D := k + 1) (c := fun t => c (k - t)) (d := fun t => d (k - t)) (fun x => by rw [← dv_pv, ← dv_pv, h]) (k - i) (by omega)
  simp only [show k - (k - i) = i by omega] at this
  exact this
/-! ### rows and columns in another order -/
def sw (a b i : Nat) : Nat := if i = a then b else if i = b then a else i
theorem det_swrows {n a b : Nat} (ha : a < n) (hb : b < n) (ne : a ≠ b) (A : Mx) : det n (fun i j => A (sw a b i) j) = - det n A := by
  rw [← det_swp ha hb ne A]
  refine det_congr fun i j _ _ => ?_
  unfold swp two sw
  by_cases q : i = b
  · subst q
    rw [row_at, if_neg (Ne.symm ne), if_pos rfl]
  · rw [row_ne q]
    by_cases q2 : i = a
    · subst q2
      rw [row_at, if_pos rfl]
    · rw [row_ne q2, if_neg q2, if_neg q]
theorem det_swboth {n a b : Nat} (ha : a < n) (hb : b < n) (ne : a ≠ b) (A : Mx) : det n (fun i j => A (sw a b i) (sw a b j)) = det n A := by
  rw [det_swrows ha hb ne fun i j => A i (sw a b j), ← det_tr, det_swrows ha hb ne fun j i => A i j, det_tr]
  omega
/-- a table told by a row of places -/
def byL (A : Mx) (l : List Nat) : Mx := fun i j => A (l.getD i 0) (l.getD j 0)
theorem getD_app {α : Type} (p l : List α) (i : Nat) (d : α) : (p ++ l).getD i d = if i < p.length then p.getD i d else l.getD (i - p.length) d := by
  simp only [List.getD_eq_getElem?_getD, List.getElem?_append]
  split <;> rfl
theorem perm_det (A : Mx) {l l' : List Nat} (h : l.Perm l') : ∀ p : List Nat, det (p ++ l).length (byL A (p ++ l)) = det (p ++ l').length (byL A (p ++ l')) := by
  induction h with
  | nil => exact fun _ => rfl
  | cons x _ ih =>
    intro p
    have := ih (p ++ [x])
    simpa using this
  | swap x y l =>
    intro p
    have len : (p ++ y :: x :: l).length = (p ++ x :: y :: l).length := by simp
    rw [len, ← det_swboth (n := (p ++ x :: y :: l).length) (a := p.length) (b := p.length + 1) (by simp) (by simp) (by omega) (byL A (p ++ x :: y :: l))]
    refine det_congr fun i j hi hj => ?_
    have e : ∀ i, (p ++ y :: x :: l).getD i 0 = (p ++ x :: y :: l).getD (sw p.length (p.length + 1) i) 0 := by
      intro i
      unfold sw
      by_cases q : i = p.length
      · subst q
        rw [if_pos rfl, getD_app, getD_app, if_neg (by omega), if_neg (by omega)]
        simp
      · by_cases q2 : i = p.length + 1
        · subst q2
          rw [if_neg q, if_pos rfl, getD_app, getD_app, if_neg (by omega), if_neg (by omega)]
          simp
        · rw [if_neg q, if_neg q2, getD_app, getD_app]
          split
          · rfl
          · obtain ⟨d, hd⟩ : ∃ d, i - p.length = d + 2 := ⟨i - p.length - 2, by omega⟩
            rw [hd]
            rfl
    unfold byL
    rw [e, e]
  | trans _ _ ih1 ih2 => exact fun p => (ih1 p).trans (ih2 p)
theorem byL_range (n : Nat) (A : Mx) : det n (byL A (List.range n)) = det n A := det_congr fun i j hi hj => by
  unfold byL
  simp [hi, hj]
theorem perm_same {n : Nat} {l : List Nat} (h : l.Perm (List.range n)) (A : Mx) : det n (byL A l) = det n A := by
  have := perm_det A h []
  rw [List.nil_append, List.nil_append, h.length_eq, List.length_range] at this
  rw [this, byL_range]
end Dt
namespace Dt
/-! ### products, sums over lists -/
def Pr : Nat → (Nat → Int) → Int
  | 0, _ => 1
  | n + 1, f => Pr n f * f n
theorem Pr_congr : ∀ {n : Nat} {f g : Nat → Int}, (∀ i, i < n → f i = g i) → Pr n f = Pr n g
  | 0, _, _, _ => rfl
  | n + 1, f, g, h => by
    show Pr n f * f n = Pr n g * g n
    rw [Pr_congr (n := n) fun i hi => h i (by omega), h n (by omega)]
theorem Pr_skip : ∀ (n cut : Nat) (f : Nat → Int), cut ≤ n → Pr (n + 1) f = f cut * Pr n fun r => f (skip cut r)
  | 0, cut, f, h => by
    obtain rfl : cut = 0 := by omega
    show 1 * f 0 = f 0 * 1
    rw [Int.one_mul, Int.mul_one]
  | n + 1, cut, f, h => by
    by_cases q : cut = n + 1
    · subst q
      show Pr (n + 1) f * f (n + 1) = _
      rw [Pr_congr (g := fun r => f (skip (n + 1) r)) fun i hi => by rw [skip_lt hi], Int.mul_comm]
    · show Pr (n + 1) f * f (n + 1) = f cut * (Pr n (fun r => f (skip cut r)) * f (skip cut n))
      rw [Pr_skip n cut f (by omega), skip_ge (show cut ≤ n by omega), Int.mul_assoc]
def sumL {α : Type} (l : List α) (f : α → Int) : Int := (l.map f).sum
theorem sumL_nil {α : Type} (f : α → Int) : sumL [] f = 0 := rfl
theorem sumL_cons {α : Type} (a : α) (l : List α) (f : α → Int) : sumL (a :: l) f = f a + sumL l f := by unfold sumL; rw [List.map_cons, List.sum_cons]
theorem sumL_app {α : Type} (f : α → Int) : ∀ (l m : List α), sumL (l ++ m) f = sumL l f + sumL m f
  | [], m => by rw [List.nil_append, sumL_nil]; omega
  | a :: l, m => by rw [List.cons_append, sumL_cons, sumL_cons, sumL_app f l m]; omega
theorem sumL_flat {α β : Type} (g : α → List β) (f : β → Int) : ∀ l : List α, sumL (l.flatMap g) f = sumL l fun a => sumL (g a) f
  | [] => rfl
  | a :: l => by rw [List.flatMap_cons, sumL_app, sumL_cons, sumL_flat g f l]
theorem sumL_congr {α : Type} {f g : α → Int} : ∀ {l : List α}, (∀ a ∈ l, f a = g a) → sumL l f = sumL l g
  | [], _ => rfl
  | a :: l, h => by rw [sumL_cons, sumL_cons, h a List.mem_cons_self, sumL_congr fun b hb => h b (List.mem_cons_of_mem _ hb)]
theorem sumL_range (f : Nat → Int) : ∀ n : Nat, sumL (List.range n) f = S n f
  | 0 => rfl
  | n + 1 => by rw [List.range_succ, sumL_app, sumL_range f n, sumL_cons, sumL_nil, S_succ]; omega
theorem sumL_map {α β : Type} (g : α → β) (f : β → Int) (l : List α) : sumL (l.map g) f = sumL l fun a => f (g a) := by
  unfold sumL
  rw [List.map_map]
  rfl
theorem sumL_S {α : Type} (f : α → Nat → Int) (n : Nat) : ∀ l : List α, sumL l (fun a => S n fun i => f a i) = S n fun i => sumL l fun a => f a i
  | [] => (S_zero n).symm
  | a :: l => by
    rw [sumL_cons, sumL_S f n l, ← S_add]
    exact S_congr fun i _ => (sumL_cons a l fun a => f a i).symm
theorem sumL_mul {α : Type} (c : Int) (f : α → Int) : ∀ l : List α, sumL l (fun a => c * f a) = c * sumL l f
  | [] => by rw [sumL_nil, sumL_nil, Int.mul_zero]
  | a :: l => by rw [sumL_cons, sumL_cons, sumL_mul c f l, Int.mul_add]
/-! ### orders -/
def ins (n cut : Nat) (row : List Nat) : List Nat := row.take cut ++ [n] ++ row.drop cut
def orders : Nat → List (List Nat × Int)
  | 0 => [([], 1)]
  | n + 1 => (orders n).flatMap fun p => (List.range (n + 1)).map fun cut => (ins n cut p.1, p.2 * sg (n - cut))
theorem ins_len {n cut : Nat} {row : List Nat} (h : cut ≤ row.length) : (ins n cut row).length = row.length + 1 := by
  unfold ins
  simp
  omega
theorem orders_len : ∀ (n : Nat) (p : List Nat × Int), p ∈ orders n → p.1.length = n
  | 0, p, h => by rw [List.mem_singleton.mp h]; rfl
  | n + 1, p, h => by
    obtain ⟨q, hq, h⟩ := List.mem_flatMap.mp h
    obtain ⟨cut, hc, rfl⟩ := List.mem_map.mp h
    have := orders_len n q hq
    have hc := List.mem_range.mp hc
    rw [ins_len (by omega), this]
theorem orders_lt : ∀ (n : Nat) (p : List Nat × Int), p ∈ orders n → ∀ x ∈ p.1, x < n
  | 0, p, h, x, hx => by rw [List.mem_singleton.mp h] at hx; cases hx
  | n + 1, p, h, x, hx => by
    obtain ⟨q, hq, h⟩ := List.mem_flatMap.mp h
    obtain ⟨cut, hc, rfl⟩ := List.mem_map.mp h
    have := orders_lt n q hq
    unfold ins at hx
    rcases List.mem_append.mp hx with hx | hx
    · rcases List.mem_append.mp hx with hx | hx
      · exact Nat.lt_succ_of_lt (this x (List.mem_of_mem_take hx))
      · rw [List.mem_singleton.mp hx]
        omega
    · exact Nat.lt_succ_of_lt (this x (List.mem_of_mem_drop hx))
theorem orders_sg : ∀ (n : Nat) (p : List Nat × Int), p ∈ orders n → p.2 = 1 ∨ p.2 = -1
  | 0, p, h => by rw [List.mem_singleton.mp h]; exact .inl rfl
  | n + 1, p, h => by
    obtain ⟨q, hq, h⟩ := List.mem_flatMap.mp h
    obtain ⟨cut, hc, rfl⟩ := List.mem_map.mp h
    have s : sg (n - cut) = 1 ∨ sg (n - cut) = -1 := by unfold sg; split <;> simp
    rcases orders_sg n q hq with e | e <;> rcases s with s | s <;> simp [e, s]
theorem ins_get {n cut : Nat} {row : List Nat} (h : cut ≤ row.length) : (ins n cut row).getD cut 0 = n ∧ ∀ r, r < row.length → (ins n cut row).getD (skip cut r) 0 = row.getD r 0 := by
  have lt : (row.take cut).length = cut := by simp; omega
  unfold ins
  refine ⟨?_, fun r hr => ?_⟩
  · rw [List.append_assoc, getD_app, if_neg (by omega), lt, Nat.sub_self]
    rfl
  · rw [List.append_assoc, getD_app, lt]
    by_cases q : r < cut
    · rw [skip_lt q, if_pos q]
      simp [List.getD_eq_getElem?_getD, List.getElem?_take, q]
    · rw [skip_ge (by omega), if_neg (by omega), show r + 1 - cut = (r - cut) + 1 by omega]
      simp only [List.getD_eq_getElem?_getD, List.singleton_append, List.getElem?_cons_succ, List.getElem?_drop, show cut + (r - cut) = r by omega]
theorem leibniz : ∀ (n : Nat) (M : Mx), sumL (orders n) (fun p => p.2 * Pr n fun i => M i (p.1.getD i 0)) = det n M
  | 0, M => rfl
  | n + 1, M => by
    have e1 : sumL (orders (n + 1)) (fun p => p.2 * Pr (n + 1) fun i => M i (p.1.getD i 0)) = sumL (orders n) fun p => S (n + 1) fun cut => (sg (n - cut) * M cut n) * (p.2 * Pr n fun r => M (skip cut r) (p.1.getD r 0)) := by
      show sumL ((orders n).flatMap _) _ = _
      rw [sumL_flat]
      refine sumL_congr fun p hp => ?_
      have lp := orders_len n p hp
      rw [sumL_map, sumL_range]
      refine S_congr fun cut hc => ?_
      obtain ⟨g1, g2⟩ := ins_get (n := n) (cut := cut) (row := p.1) (by omega)
      show p.2 * sg (n - cut) * Pr (n + 1) (fun i => M i ((ins n cut p.1).getD i 0)) = _
      rw [Pr_skip n cut _ (by omega), g1, Pr_congr (g := fun r => M (skip cut r) (p.1.getD r 0)) fun r hr => by rw [g2 r (by omega)]]
      generalize Pr n (fun r => M (skip cut r) (p.1.getD r 0)) = P
      grind
    rw [e1, sumL_S, det_last]
    refine S_congr fun i hi => ?_
    rw [sumL_mul, leibniz n fun r k => M (skip i r) k]
    have : sg (n - i) = sg (n + i) := by unfold sg; split <;> split <;> omega
    rw [this]
/-! ### lists of numbers, their worth -/
def evL (l : List Int) (x : Int) : Int := S l.length fun i => l.getD i 0 * x ^ i
theorem evL_pv (l : List Int) (x : Int) : evL l x = pv l.length (fun i => l.getD i 0) x := rfl
theorem evL_same {l m : List Int} (len : l.length = m.length) (h : ∀ x, evL l x = evL m x) : l = m := by
  have := coefs_same (D := l.length) (c := fun i => l.getD i 0) (d := fun i => m.getD i 0) fun x => by rw [← evL_pv, h x, evL_pv, len]
  refine List.ext_getElem len fun i h1 h2 => ?_
  have := this i h1
  simpa [h1, h2] using this
theorem evL_nil (x : Int) : evL [] x = 0 := rfl
theorem evL_cons (a : Int) (l : List Int) (x : Int) : evL (a :: l) x = a + x * evL l x := by
  rw [evL_pv, List.length_cons, pv_succ]
  rfl
theorem evL_app (l : List Int) (a x : Int) : evL (l ++ [a]) x = evL l x + a * x ^ l.length := by
  unfold evL
  rw [List.length_append, List.length_singleton, S_succ]
  congr 1
  · exact S_congr fun i hi => by rw [getD_app, if_pos hi]
  · rw [getD_app, if_neg (by omega), Nat.sub_self]
    rfl
theorem evL_set {l : List Int} {k : Nat} (h : k < l.length) (c x : Int) : evL (l.set k (l.getD k 0 + c)) x = evL l x + c * x ^ k := by
  unfold evL
  rw [List.length_set]
  have e : (S l.length fun i => (l.set k (l.getD k 0 + c)).getD i 0 * x ^ i) = (S l.length fun i => l.getD i 0 * x ^ i) + S l.length fun i => if i = k then c * x ^ k else 0 := by
    rw [← S_add]
    refine S_congr fun i hi => ?_
    by_cases q : i = k
    · subst q
      rw [if_pos rfl, show (l.set i (l.getD i 0 + c)).getD i 0 = l.getD i 0 + c by simp [hi], Int.add_mul]
    · rw [if_neg q, Int.add_zero, show (l.set k (l.getD k 0 + c)).getD i 0 = l.getD i 0 by simp [List.getD_eq_getElem?_getD, List.getElem?_set, Ne.symm q]]
  rw [e, S_one h fun i _ ne => if_neg ne, if_pos rfl]
theorem evL_zeros (n : Nat) (x : Int) : evL (List.replicate n 0) x = 0 := by
  unfold evL
  refine S_z fun i hi => ?_
  rw [List.length_replicate] at hi
  simp [hi]
def worthL (l : List Int) (x : Int) : Int := l.foldl (fun t a => t * x + a) 0
theorem worth_go (x : Int) : ∀ (l : List Int) (t : Int), l.foldl (fun t a => t * x + a) t = t * x ^ l.length + worthL l x
  | [], t => by
    show t = t * x ^ 0 + 0
    rw [Int.pow_zero]
    omega
  | a :: l, t => by
    have h0 := worth_go x l (0 * x + a)
    have h1 := worth_go x l (t * x + a)
    show l.foldl _ (t * x + a) = t * x ^ (l.length + 1) + l.foldl _ (0 * x + a)
    rw [h0, h1, Int.pow_succ]
    generalize x ^ l.length = y
    grind
theorem worth_rev (l : List Int) (x : Int) : worthL l x = evL l.reverse x := by
  induction l with
  | nil => rfl
  | cons a l ih =>
    rw [List.reverse_cons, evL_app, ← ih, List.length_reverse]
    have := worth_go x l (0 * x + a)
    show l.foldl _ (0 * x + a) = _
    rw [this]
    generalize x ^ l.length = y
    grind
theorem worth_same {l m : List Int} (len : l.length = m.length) (h : ∀ x, worthL l x = worthL m x) : l = m := by
  have := evL_same (l := l.reverse) (m := m.reverse) (by simp [len]) fun x => by rw [← worth_rev, ← worth_rev, h]
  exact List.reverse_inj.mp this
theorem worth_dv {k : Nat} (c : Nat → Int) (x : Int) : worthL ((List.range (k + 1)).map c) x = dv k c x := by
  rw [worth_rev, dv_pv, evL_pv]
  have len : ((List.range (k + 1)).map c).reverse.length = k + 1 := by simp
  rw [len]
  unfold pv
  refine S_congr fun i hi => ?_
  have : ((List.range (k + 1)).map c).reverse.getD i 0 = c (k - i) := by
    rw [List.getD_eq_getElem?_getD, List.getElem?_reverse (by simp; omega)]
    simp only [List.length_map, List.length_range]
    rw [List.getElem?_map, List.getElem?_range (by omega), show k + 1 - 1 - i = k - i by omega]
    rfl
  show ((List.range (k + 1)).map c).reverse.getD i 0 * x ^ i = _
  rw [this]
/-! ### how great -/
theorem S_abs {n : Nat} {f : Nat → Int} {b : Nat} (h : ∀ i, i < n → (f i).natAbs ≤ b) : (S n f).natAbs ≤ n * b := by
  induction n with
  | zero => show (0 : Int).natAbs ≤ _; simp
  | succ n ih =>
    rw [S_succ, Nat.succ_mul]
    have h1 := ih fun i hi => h i (by omega)
    have h2 := h n (by omega)
    omega
theorem sg_abs (n : Nat) : (sg n).natAbs = 1 := by unfold sg; split <;> rfl
theorem det_abs {b : Nat} : ∀ (n : Nat) (A : Mx), n ≤ 32 → (∀ i j, i < n → j < n → (A i j).natAbs ≤ 2 ^ b) → (det n A).natAbs ≤ 2 ^ (n * (b + 5))
  | 0, A, _, _ => by simp [det_zero]
  | n + 1, A, hn, h => by
    rw [det_succ]
    refine Nat.le_trans (S_abs (b := 2 ^ b * 2 ^ (n * (b + 5))) fun j hj => ?_) ?_
    · rw [Int.natAbs_mul, Int.natAbs_mul, sg_abs, Nat.one_mul]
      exact Nat.mul_le_mul (h 0 j (by omega) hj) (det_abs n _ (by omega) fun i k hi hk => h _ _ (by omega) (by have := skip_le j k; omega))
    · have e : 2 ^ ((n + 1) * (b + 5)) = 2 ^ 5 * (2 ^ b * 2 ^ (n * (b + 5))) := by
        rw [← Nat.pow_add, ← Nat.pow_add, Nat.succ_mul]
        congr 1
        omega
      rw [e]
      exact Nat.mul_le_mul_right _ (by omega)
end Dt
namespace Dt
/-! ### the leading to steps -/
structure St (n : Nat) (M : Mx) (k : Nat) (E : Mx) (last turn : Int) (b : Nat) : Prop where
  ex : ∃ P : Mx, det n M = turn * det n P ∧ last = det k P ∧ (∀ i j, k ≤ i → i < n → k ≤ j → j < n → E i j = bd k P i j) ∧ ∀ i j, i < n → j < n → (P i j).natAbs ≤ 2 ^ b
  nz : last ≠ 0
  tn : turn = 1 ∨ turn = -1
theorem St.start {n : Nat} {M : Mx} {b : Nat} (h : ∀ i j, i < n → j < n → (M i j).natAbs ≤ 2 ^ b) : St n M 0 M 1 1 b :=
  ⟨⟨M, by omega, rfl, fun i j _ _ _ _ => (bd_zero M i j).symm, h⟩, by decide, .inl rfl⟩
theorem St.congr {n : Nat} {M : Mx} {k : Nat} {E E' : Mx} {last turn : Int} {b : Nat} (s : St n M k E last turn b) (h : ∀ i j, k ≤ i → i < n → k ≤ j → j < n → E' i j = E i j) : St n M k E' last turn b := by
  obtain ⟨⟨P, h1, h2, h3, h4⟩, h5, h6⟩ := s
  exact ⟨⟨P, h1, h2, fun i j a b c d => (h i j a b c d).trans (h3 i j a b c d), h4⟩, h5, h6⟩
theorem St.none {n : Nat} {M : Mx} {k : Nat} {E : Mx} {last turn : Int} {b : Nat} (s : St n M k E last turn b) (hk : k < n) (z : ∀ i, k ≤ i → i < n → E i k = 0) : det n M = 0 := by
  obtain ⟨⟨P, h1, h2, h3, h4⟩, h5, h6⟩ := s
  obtain ⟨m, rfl⟩ : ∃ m, n = k + (m + 1) := ⟨n - k - 1, by omega⟩
  rw [h1, bd_none (by rw [← h2]; exact h5) fun i a c => by rw [← h3 i k a c (Nat.le_refl _) hk]; exact z i a c, Int.mul_zero]
theorem St.swap {n : Nat} {M : Mx} {k : Nat} {E : Mx} {last turn : Int} {b : Nat} (s : St n M k E last turn b) {i0 : Nat} (hk : k < i0) (hi : i0 < n) : St n M k (fun i j => E (sw k i0 i) j) last (-turn) b := by
  obtain ⟨⟨P, h1, h2, h3, h4⟩, h5, h6⟩ := s
  have low : ∀ r, r < k → sw k i0 r = r := fun r hr => by unfold sw; rw [if_neg (by omega), if_neg (by omega)]
  have lt : ∀ i, i < n → sw k i0 i < n := fun i hi' => by unfold sw; split <;> (try split) <;> omega
  have ge : ∀ i, k ≤ i → k ≤ sw k i0 i := fun i hi' => by unfold sw; split <;> (try split) <;> omega
  refine ⟨⟨fun i j => P (sw k i0 i) j, ?_, ?_, fun i j a c d e => ?_, fun i j a c => h4 _ _ (lt i a) c⟩, h5, ?_⟩
  · rw [det_swrows (by omega) hi (by omega) P, h1]
    grind
  · rw [h2]
    exact det_congr fun i j a _ => by rw [low i a]
  · show E (sw k i0 i) j = _
    rw [h3 _ j (ge i a) (lt i c) d e]
    refine det_congr fun r c' _ _ => ?_
    unfold bdM
    by_cases q : r < k
    · rw [if_pos q, if_pos q]
      show _ = P (sw k i0 r) _
      rw [low r q]
    · rw [if_neg q, if_neg q]
  · rcases h6 with z | z <;> rw [z]
    · exact .inr rfl
    · exact .inl rfl
theorem fdiv_mul (x d : Int) (h : d ≠ 0) : (x * d).fdiv d = x := Int.mul_fdiv_cancel x h
theorem St.elim {n : Nat} {M : Mx} {k : Nat} {E : Mx} {last turn : Int} {b : Nat} (s : St n M k E last turn b) (hk : k + 1 < n) (nz : E k k ≠ 0) : St n M (k + 1) (fun i j => (E i j * E k k - E i k * E k j).fdiv last) (E k k) turn b := by
  obtain ⟨⟨P, h1, h2, h3, h4⟩, h5, h6⟩ := s
  refine ⟨⟨P, h1, ?_, fun i j a c d e => ?_, h4⟩, nz, h6⟩
  · rw [h3 k k (Nat.le_refl _) (by omega) (Nat.le_refl _) (by omega), bd_last]
  · show (E i j * E k k - E i k * E k j).fdiv last = _
    rw [h3 i j (by omega) c (by omega) e, h3 k k (Nat.le_refl _) (by omega) (Nat.le_refl _) (by omega), h3 i k (by omega) c (Nat.le_refl _) (by omega), h3 k j (Nat.le_refl _) (by omega) (by omega) e]
    have st := bd_step (i := i) (j := j) (by rw [← h2]; exact h5 : det k P ≠ 0)
    rw [show bd k P i j * bd k P k k - bd k P i k * bd k P k j = bd (k + 1) P i j * last by rw [h2, st]; grind]
    exact fdiv_mul _ _ h5
theorem St.fin {n : Nat} {M : Mx} {E : Mx} {last turn : Int} {b : Nat} (s : St (n + 1) M n E last turn b) : det (n + 1) M = turn * E n n := by
  obtain ⟨⟨P, h1, h2, h3, h4⟩, h5, h6⟩ := s
  rw [h1, h3 n n (Nat.le_refl _) (by omega) (Nat.le_refl _) (by omega), bd_last]
theorem St.low {n : Nat} {M : Mx} {k : Nat} {E : Mx} {last turn : Int} {b : Nat} (s : St n M k E last turn b) (hn : n ≤ 24) (hk : k < n) : (∀ i j, k ≤ i → i < n → k ≤ j → j < n → (E i j).natAbs ≤ 2 ^ (24 * (b + 5))) ∧ last.natAbs ≤ 2 ^ (24 * (b + 5)) := by
  obtain ⟨⟨P, h1, h2, h3, h4⟩, h5, h6⟩ := s
  refine ⟨fun i j a c d e => ?_, ?_⟩
  · rw [h3 i j a c d e]
    refine Nat.le_trans (det_abs (b := b) (k + 1) _ (by omega) fun r s hr hs => ?_) (Nat.pow_le_pow_right (by decide) (Nat.mul_le_mul_right _ (by omega)))
    unfold bdM
    refine h4 _ _ ?_ ?_
    · split <;> omega
    · split <;> omega
  · rw [h2]
    exact Nat.le_trans (det_abs (b := b) k _ (by omega) fun r s hr hs => h4 _ _ (by omega) (by omega)) (Nat.pow_le_pow_right (by decide) (Nat.mul_le_mul_right _ (by omega)))
end Dt
namespace Dt
/-! ### the numbers read from the other end -/
theorem vec_scale {k : Nat} {A : Mx} {r : Nat → Int} (x : Int) : ∀ s i, vec k (fun i j => x * A i j) (fun i => x * r i) s i = x ^ (s + 1) * vec k A r s i
  | 0, i => by show x * r i = x ^ 1 * r i; rw [Int.pow_succ, Int.pow_zero, Int.one_mul]
  | s + 1, i => by
    show (S k fun j => x * A i j * vec k (fun i j => x * A i j) (fun i => x * r i) s j) = x ^ (s + 1 + 1) * S k fun j => A i j * vec k A r s j
    rw [← S_mul]
    refine S_congr fun j _ => ?_
    rw [vec_scale x s j, Int.pow_succ x (s + 1)]
    generalize x ^ (s + 1) = y
    grind
theorem dot_scale {k : Nat} {A : Mx} {u r : Nat → Int} (x : Int) (s : Nat) : dot k (fun i => x * u i) (vec k (fun i j => x * A i j) (fun i => x * r i) s) = x ^ (s + 2) * dot k u (vec k A r s) := by
  unfold dot
  rw [← S_mul]
  refine S_congr fun i _ => ?_
  rw [vec_scale, Int.pow_succ x (s + 1)]
  generalize x ^ (s + 1) = y
  grind
theorem fac_scale (a x : Int) (d e : Nat → Int) (h : ∀ s, e s = x ^ (s + 2) * d s) : ∀ t, fac (x * a) e t = x ^ t * fac a d t
  | 0 => by show (1 : Int) = x ^ 0 * 1; rw [Int.pow_zero]; rfl
  | 1 => by show -(x * a) = x ^ 1 * -a; rw [Int.pow_succ, Int.pow_zero]; grind
  | t + 2 => by show - e t = x ^ (t + 2) * - d t; rw [h]; grind
theorem cs_scale (B : Mx) (x : Int) : ∀ k i, cs (fun i j => x * B i j) k i = x ^ i * cs B k i
  | 0, i => by
    show (if i = 0 then (1 : Int) else 0) = x ^ i * (if i = 0 then 1 else 0)
    by_cases h : i = 0
    · subst h; rw [if_pos rfl, Int.pow_zero]; rfl
    · rw [if_neg h, Int.mul_zero]
  | k + 1, i => by
    show (if i ≤ k + 1 then nxt (cs (fun i j => x * B i j) k) (fac (x * B k k) _) i else 0) = x ^ i * (if i ≤ k + 1 then nxt (cs B k) (fac (B k k) _) i else 0)
    by_cases h : i ≤ k + 1
    · rw [if_pos h, if_pos h]
      unfold nxt
      rw [← S_mul]
      refine S_congr fun j hj => ?_
      rw [cs_scale B x k j, fac_scale (B k k) x (fun s => dot k (fun j => B k j) (vec k B (fun i => B i k) s)) _ (fun s => dot_scale x s), show x ^ i = x ^ j * x ^ (i - j) by rw [← Int.pow_add, show j + (i - j) = i by omega]]
      generalize x ^ j = y
      generalize x ^ (i - j) = z
      grind
    · rw [if_neg h, if_neg h, Int.mul_zero]
theorem cs_ev (B : Mx) (k : Nat) (x : Int) : evL ((List.range (k + 1)).map (cs B k)) x = det k (lessM (fun i j => x * B i j) 1) := by
  rw [cs_det]
  unfold evL dv
  rw [List.length_map, List.length_range]
  refine S_congr fun i hi => ?_
  rw [cs_scale, Int.one_pow, Int.mul_one, Int.mul_comm]
  congr 1
  simp [hi]
end Dt
/-! Own rules: == and != by an own __eq__, str by an own __str__, a staticmethod of a class. -/
namespace GS
open PySem PySem.Spec PyProof.Rows L2
section
variable {X : Cx}
theorem notImpl_no {v : V} (h : RelV v Value.notImplemented) : False := by
  cases v with
  | non => cases (show Value.notImplemented = Value.none from h)
  | bl b => cases (show Value.notImplemented = Value.bool b from h)
  | int i => obtain ⟨t, q⟩ := (show ∃ t, Value.notImplemented = Value.int i t from h); cases q
  | str i => obtain ⟨t, q⟩ := (show ∃ t, Value.notImplemented = Value.str i t from h); cases q
  | byt i => obtain ⟨t, q⟩ := (show ∃ t, Value.notImplemented = Value.bytes i t from h); cases q
  | flt i => obtain ⟨t, q⟩ := (show ∃ t, Value.notImplemented = Value.float i t from h); cases q
  | ref a => cases (show Value.notImplemented = Value.ref a from h)
  | ty n => cases (show Value.notImplemented = Value.type n from h)
/-- what a call of the def gives, from any place below the body -/
theorem run_at {CX : CXT} {k : Nat} {f : Addr} {fd : FuncData} {ps : List Str} {sp : Sp} {E : XK} {pins : List (Addr × Obj)} {σ : L2.St} {H : Hp} {s : Shared} {Q : VK} {us : List Value} {vs : List V} {A : Around}
    (F : FnOk X.prog X.w X.K X.mg X.base CX k f fd ps sp) (hr : Room k A) (hA : A.frames = X.A.frames) (hb : Binds X.K fd ps []) (hx : Passes CX X E) (I : Inv X pins σ H s) (r : Vals vs us) (hsp : sp vs H Q E) :
    wpAny (model X.prog X.w) A (call (.ref f) us) (EP X pins σ Q) X.xe s := by
  have e0 : Env0 X.prog X.w X.K X.mg X.base A X.stack s H := by
    have e := I.env0
    exact ⟨by rw [hA]; exact e.frames, e.mod, e.bs, e.bsz, e.funs, e.frf, e.hok, e.bare⟩
  have hl := F.len _ _ _ _ hsp
  refine wpAny_call (codeAny_mono (F.run A X.stack s H ⟨us, []⟩ us vs _ E hr e0 (by
    have := hb s us I.kIn (by rw [List.append_nil, ← r.length]; exact hl)
    simpa using this) r hsp) fun r s' hq => ?_)
  cases r with
  | error e => exact hx pins σ H s e s' I hq
  | ok fl =>
    cases fl with
    | ret w => exact I.after hq
    | next => exact False.elim hq
    | brk => exact False.elim hq
    | cont => exact False.elim hq
/-- x == y by the own __eq__ of x's class; y of any kind -/
def rEqOwn (K : PySem.W.Frag) (C : Addr) (sp : Sp) (E : XK) : R2 := fun x y H Q => ∃ a dx fs t, x = .ref a ∧ H a = some (.ins C dx fs) ∧ TyX K H y t ∧ PySem.W.notFirst K C t = true ∧ sp [x, y] H Q E
theorem op_eqOwn {CX : CXT} {k : Nat} {C f : Addr} {fd : FuncData} {ps : List Str} {sp : Sp} {E : XK} (F : FnOk X.prog X.w X.K X.mg X.base CX k f fd ps sp) (hr : Room k X.A)
    (hs : PySem.W.findIn X.K (.ref C) "__eq__" = some (some (.ref f))) (hf : PySem.W.isFn X.K (.ref f) = true) (hb : Binds X.K fd ps []) (hx : Passes CX X E) : OpR X (compareOp .Eq) (rEqOwn X.K C sp E) := by
  intro pins s σ H x y v u Q I rx ry hq
  obtain ⟨a, dx, fs, t, rfl, ha, ty, hn, hsp⟩ := hq
  cases rx
  obtain ⟨mA, J, _⟩ := ins_get I.hok ha
  obtain ⟨od, J, _⟩ := J.look
  obtain ⟨m, hF⟩ := I.fr
  obtain ⟨P, Z, p, _⟩ := kit_of I ry ty
  show wpAny (model X.prog X.w) X.A (richCompare .Eq (.ref a) u) (EP X pins σ Q) X.xe s
  refine PySem.W.cmp_K (op := .Eq) (tb := t) hr.units0 hF I.ok.mod.kin J (Z.ty _ _ I.kIn p) hn hs hf ?_
  refine wpAny_mono (run_at F hr rfl hb hx I (.cons (show L2.RelV (V.ref a) (Value.ref a) from rfl) (.cons ry .nil)) hsp) (fun v s' hv => ?_) fun _ _ z => z
  cases v <;> first | exact hv | (obtain ⟨w, _, _, z, _⟩ := hv; exact (notImpl_no z).elim)
open Builtin in
theorem objNe_K {A : Around} {s : Shared} {a C f : Addr} {ox : Obj} {od : Option Obj} {u : Value} {E : Value → Shared → Prop} {Q : Fin → Shared → Prop} (hu : A.units < cLine) (XI : X.K.In s.heap) (J : PySem.W.InstAt s.heap a ox C od)
    (hs : PySem.W.findIn X.K (.ref C) "__eq__" = some (some (.ref f))) (hf : PySem.W.isFn X.K (.ref f) = true)
    (hcall : wpAny (model X.prog X.w) A (call (.ref f) [.ref a, u]) (fun v s' => ∃ b, v = .bool b ∧ Q (.done (.ret (.bool (!b)))) s') E s) :
    wpAny (model X.prog X.w) A (Builtin.«object.__ne__» ⟨[.ref a, u], []⟩) Q E s := by
  unfold Builtin.«object.__ne__»
  repeat (first
    | with_reducible refine wpAny_cRoomFor hu ?_
    | (refine wpAny_bind (m := callSpecialIfBound? (.ref a) (Str.ofString "__eq__") [u])
        (PySem.W.ifBound_K XI J hs hf (wpAny_mono hcall (fun r s' hr => by
          obtain ⟨b, rfl, hq⟩ := hr
          repeat (first | exact hq | exact wpAny_pure hq | exact wpAny_truthy_bool hq | (refine wpAny_bind (m := truthy (.bool _)) (wpAny_truthy_bool ?_)) | wp_step)) fun _ _ e => e)))
    | wp_step)
/-- x != y, the class says nothing of != -/
def rNeOwn (K : PySem.W.Frag) (C : Addr) (sp : Sp) (E : XK) : R2 := fun x y H Q => ∃ a dx fs t, x = .ref a ∧ H a = some (.ins C dx fs) ∧ TyX K H y t ∧ PySem.W.notFirst K C t = true ∧ sp [x, y] H (fun v H' => ∃ b, v = .bl b ∧ Q (.bl (!b)) H') E

theorem ifBound_B {M : Model} {A : Around} {s : Shared} {a C : Addr} {ox : Obj} {od : Option Obj} {name : Str} {id : String} {args : List Value} {E : Value → Shared → Prop} {Q : Option Value → Shared → Prop} (XI : X.K.In s.heap) (J : PySem.W.InstAt s.heap a ox C od)
    (hs : PySem.W.findIn X.K (.ref C) name = some (some (.builtin id))) (S : Slot "object" name id) (h : wpAny M A (call (.builtin id) (.ref a :: args)) (fun v => Q (some v)) E s) : wpAny M A (callSpecialIfBound? (.ref a) name args) Q E s := by
  have last : wpAny M A (call (.builtin id) ([.ref a] ++ args) >>= fun v => pure (some v)) Q E s := wpAny_bind (wpAny_mono h (fun _ _ z => wpAny_pure z) fun _ _ z => z)
  simp only [callSpecialIfBound?, bindSpecialIfBound?]
  refine wpAny_holding (wpAny_bind (wpAny_bind (wpAny_bind (J.type.here ((PySem.W.looks_findIn XI hs).here ?_)))))
  simp only [S.bind]
  refine wpAny_bind (wpAny_askSetting (wpAny_ite ?_))
  split
  · exact wpAny_bind (wpAny_pure (wpAny_pure last))
  · exact wpAny_tryCatch (wpAny_bind (wpAny_pure (wpAny_pure last)))
theorem op_neOwn {CX : CXT} {k : Nat} {C f : Addr} {fd : FuncData} {ps : List Str} {sp : Sp} {E : XK} (F : FnOk X.prog X.w X.K X.mg X.base CX k f fd ps sp) (hr : Room (k + 2) X.A) (hn0 : PySem.W.findIn X.K (.ref C) "__ne__" = some (some (.builtin "object.__ne__"))) (hm : PySem.W.mroIn X.K C (.type "object") = some true)
    (hs : PySem.W.findIn X.K (.ref C) "__eq__" = some (some (.ref f))) (hf : PySem.W.isFn X.K (.ref f) = true) (hb : Binds X.K fd ps []) (hx : Passes CX X E) : OpR X (compareOp .NotEq) (rNeOwn X.K C sp E) := by
  intro pins s σ H x y v u Q I rx ry hq
  obtain ⟨a, dx, fs, t, rfl, ha, ty, hn, hsp⟩ := hq
  cases rx
  obtain ⟨mA, J, _⟩ := ins_get I.hok ha
  obtain ⟨od, J, _⟩ := J.look
  obtain ⟨P, Z, p, _⟩ := kit_of I ry ty
  have LU := Z.ty (model X.prog X.w) _ I.kIn p
  have sub : PySem.W.Looks (model X.prog X.w) s.heap (isInstance (.ref a) (.type "object")) true := J.type.andThen (PySem.W.looks_mroIn I.kIn hm)
  have try1 : wpAny (model X.prog X.w) X.A (tryCompare (.ref a) "__ne__" u) (fun r s' => ∃ v, r = some v ∧ EP X pins σ Q v s') X.xe s := by
    unfold tryCompare
    refine wpAny_bind (ifBound_B I.kIn J hn0 PySem.F.cmp_object.ne (wpAny_call (codeAny_call_builtin PySem.F.cmp_object.ne.plain PySem.F.cmpEntry_ne
      (PySem.W.check_slot PySem.F.cmpKind_ne PySem.F.cmpSplit_ne sub (PySem.F.cmpArgs_ne _ _) ?_))))
    refine objNe_K (A := X.A.in1) hr.in1.units0 I.kIn J hs hf ?_
    refine wpAny_mono (run_at F (hr.in1.mono (by omega)) rfl hb hx I (.cons (show L2.RelV (V.ref a) (Value.ref a) from rfl) (.cons ry .nil)) hsp) (fun v s' hv => ?_) fun _ _ z => z
    obtain ⟨z, H', I', rz, b, rfl, q⟩ := hv
    have ev : v = .bool b := rz
    have fin : EP X pins σ Q (.bool (!b)) s' := ⟨.bl (!b), H', I', rfl, q⟩
    refine ⟨b, ev, ?_⟩
    first
      | exact wpAny_pure ⟨_, rfl, fin⟩
      | exact ⟨_, wpAny_pure ⟨_, rfl, fin⟩⟩
      | (show _ ∧ _; exact ⟨by simp, wpAny_pure ⟨_, rfl, fin⟩⟩)
  show wpAny (model X.prog X.w) X.A (richCompare .NotEq (.ref a) u) (EP X pins σ Q) X.xe s
  unfold richCompare
  simp only [oneThing_ref]
  refine wpAny_holding (wpAny_bind (wpAny_cRoomFor hr.units0 (wpAny_bind (J.type.here (wpAny_bind (LU.here ?_))))))
  have fin : ∀ r s', (∃ v, r = some v ∧ EP X pins σ Q v s') → wpAny (model X.prog X.w) X.A (match r with | some v => pure v | none => richCompare .NotEq (.ref a) u) (EP X pins σ Q) X.xe s' := fun r s' ⟨v, e, z⟩ => by subst e; exact wpAny_pure z
  split
  · rename_i q
    have e : PySem.W.subIn X.K t (.ref C) = some false := by
      cases Bool.or_eq_true_iff.mp hn with
      | inl e => rw [beq_iff_eq.mp e] at q; simp at q
      | inr e => exact beq_iff_eq.mp e
    refine wpAny_bind ((PySem.W.looks_subIn I.kIn e).here ?_)
    simp only [Bool.false_eq_true, if_false]
    refine wpAny_bind (wpAny_mono try1 (fun r s' ⟨v, e, z⟩ => ?_) fun _ _ z => z)
    subst e
    exact wpAny_pure z
  · refine wpAny_bind (wpAny_pure ?_)
    simp only [Bool.false_eq_true, if_false]
    refine wpAny_bind (wpAny_mono try1 (fun r s' ⟨v, e, z⟩ => ?_) fun _ _ z => z)
    subst e
    exact wpAny_pure z
/-- str(x) by an own __str__ -/
def rStrOwn (C : Addr) (sp : Sp) (E : XK) : List V → Hp → VK → Prop := fun xs H Q => ∃ a dx fs, xs = [.ref a] ∧ H a = some (.ins C dx fs) ∧ sp xs H (fun v H' => (∃ z, v = .str z) ∧ Q v H') E
theorem call_strOwn {CX : CXT} {k : Nat} {C f : Addr} {fd : FuncData} {ps : List Str} {sp : Sp} {E : XK} (F : FnOk X.prog X.w X.K X.mg X.base CX k f fd ps sp) (hr : Room (k + 2) X.A)
    (hs : PySem.W.findIn X.K (.ref C) "__str__" = some (some (.ref f))) (hf : PySem.W.isFn X.K (.ref f) = true) (hb : Binds X.K fd ps []) (hx : Passes CX X E) : CallR X (.type "str") (rStrOwn C sp E) := by
  intro pins s σ H xs us Q I r hq
  obtain ⟨a, dx, fs, rfl, ha, hsp⟩ := hq
  obtain ⟨u, rfl, ru⟩ := vals1 r
  cases ru
  obtain ⟨mA, J, _⟩ := ins_get I.hok ha
  obtain ⟨od, J, _⟩ := J.look
  refine PySem.W.kso_call hr.in1.in1.units0 I.kIn J hs hf ?_
  refine wpAny_mono (run_at F hr.in1.in1 rfl hb hx I r hsp) (fun v s' hv => ?_) fun _ _ z => z
  obtain ⟨w, H', I', rw', ⟨z, rfl⟩, q⟩ := hv
  obtain ⟨tk, e⟩ := rw'
  subst e
  exact ⟨.str z, H', I', ⟨tk, rfl⟩, q⟩
/-! ### a staticmethod of a class -/
structure SMet (K : PySem.W.Frag) (C : Addr) (mc : Value) (m : Str) (p g : Addr) : Prop where
  at_ : PySem.W.findCls K (.ref C) mc m = some (.get (.builtin "staticmethod.__get__") (.ref p) .none (.ref C))
  rc : ∃ rest, PySem.W.recIn K p "staticmethod" = some (.ref g :: rest)
def tSMeth (C : Addr) (sp : Sp) (E : XK) (ta : TE) (t : TA) : TE := fun σ H Q => ta σ H fun x H1 => x = .ref C ∧ t σ H1 fun vs H2 => sp vs H2 Q E
theorem pe_smeth {CX : CXT} {k : Nat} {C p g : Addr} {mc : Value} {fd : FuncData} {ps : List Str} {sp : Sp} {E : XK} {o e : Expr} {es : List Expr} {m : Str} {pos apos : Pos} {ta : TE} {t : TA} {pl : Sem Bool}
    (he : PE X o ta) (r : ClX.CRead X.K C mc) (c : SMet X.K C mc m p g) (F : FnOk X.prog X.w X.K X.mg X.base CX k g fd ps sp) (hk : PySem.W.keepIn X.K (.ref g) = true) (hr : Room k X.A) (hb : Binds X.K fd ps []) (hx : Passes CX X E) (ha : PA X (e :: es) t)
    (hst : starEach (e :: es) X.env = (false, eval e X.env) :: starEach es X.env := by rfl) (hpl : (backTo pos (starEach es X.env)).any (·.1) = false := by rfl)
    (ht : eval (.Call (.Attribute o m apos) (e :: es) [] pos) X.env = (do let ov ← eval o X.env; standAt apos.atName; let (f, first) ← holding [ov] (getMethod ov m pl); callWith pos f first (backTo pos (starEach (e :: es) X.env)) (backToKw pos (keywordEach [] X.env))) := by rfl) :
    PE X (.Call (.Attribute o m apos) (e :: es) [] pos) (tSMeth C sp E ta t) := by
  refine ⟨fun pins s σ H Q I h => PySem.W.methodCall_KW (pl := pl) (thn (he.run pins s σ H _ I h) fun u s1 ⟨x, H1, I1, rx, ex, q⟩ => ?_) ht⟩
  subst ex
  obtain rfl : u = Value.ref C := rx
  obtain ⟨rest, hp⟩ := c.rc
  refine PySem.W.method_cls I1.kIn r.ga (PySem.W.cls_bind I1.kIn r.rd c.at_ (wpAny_call (PySem.W.sm_get (s := { s1 with toks := s1.toks + 1 }) I1.kIn hp (PySem.W.handed_on rfl ?_))))
  have I2 := I1.tok (s1.toks + 1)
  refine PySem.W.callWith_K (h₀ := X.base) I2.ok.mod.kin hk (thn (ha.run pos pins _ σ H1 _ I2 q) fun us s3 ⟨vs, H2, I3, rv, q2⟩ => ⟨I3.kIn, ?_⟩) hst hpl
  exact run_at F hr rfl hb hx I3 rv q2
end
end GS
/-! Own rule: several except clauses, each with or without «as n». -/
namespace GS
open PySem PySem.Spec PyProof.Rows L2
abbrev Cl := Value × Option Nat × (Addr → Value → Option Addr → TS)
/-- the ends and the slots of a suite whose error's name has slot i -/
def asEnds (i : Nat) (D : Ends) : Ends := { nx := fun σ' H' => D.nx (σ'.set i none) H', rt := D.rt, bk := fun σ' H' => D.bk (σ'.set i none) H', ct := fun σ' H' => D.ct (σ'.set i none) H' }
def wCl (D : Ends) (q : Cl) (a : Addr) (cls : Value) (d : Option Addr) (σ : L2.St) (H : Hp) : Prop := match q.2.1 with
  | none => q.2.2 a cls d D σ H
  | some i => q.2.2 a cls d (asEnds i D) (σ.set i (some (.ref a))) H
def wCls (K : PySem.W.Frag) (Wout : WX) (D : Ends) : List Cl → WX
  | [] => Wout
  | q :: r => fun cls d σ H => ∃ b, PySem.W.exmOne K cls q.1 = some b ∧ (b = true → ∀ a, H a = none → wCl D q a cls d σ H) ∧ (b = false → wCls K Wout D r cls d σ H)
/-- one clause is as it is told -/
inductive ClOk (X : Cx) : ExceptHandler → Cl → Prop
  | bare {x : Str} {c : Value} {ts : Addr → Value → Option Addr → TS} {st : Stmt} {sts : List Stmt} {np pos' : Pos} (hc : Names X x c)
      (su : ∀ (a : Addr) (oe : Obj) (cls : Value) (d : Option Addr) (pn : List (Addr × Obj)), Zc cls d oe → (∃ vs, oe.data = .fields vs) → PSs (X.suite a ((a, oe) :: pn)) (st :: sts) (ts a cls d)) :
      ClOk X (.ExceptHandler (some (.Name x np)) none (st :: sts) pos') (c, none, ts)
  | as {x n : Str} {c : Value} {ts : Addr → Value → Option Addr → TS} {st : Stmt} {sts : List Stmt} {np pos' : Pos} {i : Nat} (hc : Names X x c) (hN : X.N.Nodup) (hi : X.N[i]? = some n) (hln : X.env.kindOf n = some .local)
      (su : ∀ (a : Addr) (oe : Obj) (cls : Value) (d : Option Addr) (pn : List (Addr × Obj)), Zc cls d oe → (∃ vs, oe.data = .fields vs) → PSs (X.suite a ((a, oe) :: pn)) (st :: sts) (ts a cls d)) :
      ClOk X (.ExceptHandler (some (.Name x np)) (some n) (st :: sts) pos') (c, some i, ts)
inductive ClsOk (X : Cx) : List ExceptHandler → List Cl → Prop
  | nil : ClsOk X [] []
  | cons {h : ExceptHandler} {q : Cl} {hs : List ExceptHandler} {qs : List Cl} (o : ClOk X h q) (r : ClsOk X hs qs) : ClsOk X (h :: hs) (q :: qs)

/-- the frame holds the error at a; sI: the body's last state -/
structure Caught (X : Cx) (pins : List (Addr × Obj)) (σ : L2.St) (H : Hp) (a : Addr) (B : Heap) (cls : Value) (d : Option Addr) (sI s : Shared) : Prop where
  inv : Inv X pins σ H sI
  nb : ∀ (b : Addr) (o : Obj), sI.heap.get? b = some o → ¬b ∈ frs X.stack → B.get? b = some o
  up : sI.heap.UpToSlots s.heap
  na : H a = none
  os : s.os = sI.os
  ag : AllBare s.gens
  fl : PySem.HandSPX.FlyingZ B (X.env :: X.outer) a (Zc cls d) s.heap
section
variable {X : Cx} {pins : List (Addr × Obj)} {σ : L2.St} {H : Hp} {s sI : Shared} {a : Addr} {B : Heap} {cls : Value} {d : Option Addr} {D : Ends} {Wout : WX}
theorem Caught.here (c : Caught X pins σ H a B cls d sI s) : Inv X pins σ H s := c.inv.landed c.nb c.fl.1 c.up c.os c.ag
theorem Caught.off (c : Caught X pins σ H a B cls d sI s) (hf : X.env.frame = some X.env.locals) : a ≠ X.env.locals ∧ ¬ a ∈ X.fs := by
  obtain ⟨oe, vs, e1, _, e3⟩ := c.fl.there
  have none_of : ∀ b, b ∈ frs (X.env :: X.outer) → b ≠ a := fun b hb z => by
    obtain ⟨_, o, ho, hnf⟩ := c.fl.2.2.1.mem hb
    rw [z, e1] at ho
    exact hnf vs (by rw [← Option.some.inj ho]; exact e3)
  refine ⟨fun z => none_of a ?_ rfl, fun z => none_of a ?_ rfl⟩
  · rw [z]; exact List.mem_filterMap.mpr ⟨X.env, List.mem_cons_self, hf⟩
  · obtain ⟨e, he, q⟩ := List.mem_filterMap.mp z
    exact List.mem_filterMap.mpr ⟨e, List.mem_cons_of_mem _ he, q⟩
/-- it flies again -/
theorem Caught.again {M : Model} {A : Around} {E : Value → Shared → Prop} {Q : Unit → Shared → Prop} (c : Caught X pins σ H a B cls d sI s) (k : ∀ s', Caught X pins σ H a B cls d sI s' → Q () s') : wpAny M A (setFlight (.ref a) none) Q E s :=
  PySem.HandSPX.lands_againZ c.fl fun h' f u => k _ ⟨c.inv, c.nb, c.up.trans u, c.na, c.os, c.ag, f⟩
/-- a suite, from what its reading says, to the ends -/
theorem Caught.suite {M : Model} (c : Caught X pins σ H a B cls d sI s) (hf : X.env.frame = some X.env.locals) : ∃ oe, Zc cls d oe ∧ (∃ vs, oe.data = .fields vs) ∧ Inv (X.suite a ((a, oe) :: (X.pn ++ pins))) [] σ H s := by
  obtain ⟨oe, vs, e1, e2, e3⟩ := c.fl.there
  obtain ⟨n1, n2⟩ := c.off hf
  exact ⟨oe, e2, ⟨vs, e3⟩, c.here.suite e1 e3 c.na n1 n2⟩
/-- the class named in a clause, evaluated -/
theorem names_eval {x : Str} {c0 : Value} {np : Pos} {Q : Value → Shared → Prop} {E : Value → Shared → Prop} (c : Caught X pins σ H a B cls d sI s) (hf : X.env.frame = some X.env.locals) (hc : Names X x c0) (q : Q c0 s) :
    wpAny (model X.prog X.w) (X.A.mark (some (.ref a))) (eval (.Name x np) X.env) Q E s := by
  obtain ⟨oe, _, _, S⟩ := c.suite (M := model X.prog X.w) hf
  obtain ⟨hg, hdb, hh⟩ := hc
  cases hh with
  | inl hm => exact ld_glob (X := X.suite a ((a, oe) :: (X.pn ++ pins))) S hg hm q hdb
  | inr hm => exact ld_blt (X := X.suite a ((a, oe) :: (X.pn ++ pins))) S hg hm.1 hm.2.1 q hm.2.2 hdb
theorem clauses {hs : List ExceptHandler} {qs : List Cl} (k : ClsOk X hs qs) (hst : X.stack = X.env :: X.outer) (hf : X.env.frame = some X.env.locals) (tk : Takes X Wout) :
    ∀ {s : Shared}, Caught X pins σ H a B cls d sI s → wCls X.K Wout D qs cls d σ H → wpAny (model X.prog X.w) X.A (handleBy (.ref a) X.env hs) (SP X pins D) X.xe s := by
  induction k with
  | nil =>
    intro s c w
    refine wpAny_handleBy_nil ?_
    obtain ⟨k1, k2, k3, oe, vs, T, oT, ts', he, hz, hd, h1, hr⟩ := id c.fl
    have out : wpAny (model X.prog X.w) X.A (setFlight (.ref a) X.env.frame) (fun _ s4 => wpAny (model X.prog X.w) X.A (throw (.ref a) : Sem Flow) (SP X pins D) X.xe s4) X.xe s := by
      rw [hf]
      exact PySem.HandSPX.setFlight_upZ c.fl fun h4 hh4 up4 => wpAny_throw (tk _ _ ⟨a, B, sI, pins, σ, H, cls, d, rfl, c.inv, c.nb, c.up.trans up4, .inr (.inr (by rw [hst]; exact hh4)), c.na, c.os, c.ag, w⟩)
    unfold PySem.passOn
    refine wpAny_bind (wpAny_field he hd h1 ?_)
    rw [if_neg (show ¬ ((Value.ref T == Value.none) = true) from by simp)]
    first
      | exact wpAny_bind (wpAny_pure (wpAny_bind out))
      | exact wpAny_bind out
  | @cons h q hs qs o r ih =>
    intro s c w
    obtain ⟨b, hb1, hyes, hno⟩ := w
    obtain ⟨oe0, vs0, e01, e02, e03⟩ := c.fl.there
    have LT : PySem.W.Looks (model X.prog X.w) s.heap (typeOf (.ref a)) cls := fun A Q E s' kk z => wpAny_typeOf_ref (kk _ _ e01) (by rw [e02.1]; exact z)
    have LM := PySem.W.exm_one (M := model X.prog X.w) c.here.kIn LT hb1
    cases o with
    | bare hc su =>
      refine wpAny_handleBy_cons (codeAny_handlers_test ?_) (by intro q; cases q)
      refine names_eval c hf hc (LM.here ?_)
      cases b with
      | false => exact ih c (hno rfl)
      | true =>
        refine codeAny_handlers_suite (c.again fun s4 c4 => ?_)
        obtain ⟨oe, z1, z2, S⟩ := c4.suite (M := model X.prog X.w) hf
        have ok := c4.here.ok
        refine wpAny_mono ((su a oe cls d (X.pn ++ pins) z1 z2).run [] _ _ H _ S (hyes rfl a c.na)) (fun f s6 hsp => ?_) (fun _ _ z => False.elim z)
        cases f with
        | next => exact let ⟨σ6, H6, S6, q6⟩ := hsp; ⟨_, _, S6.unsuite ok, q6⟩
        | brk => exact let ⟨σ6, H6, S6, q6⟩ := hsp; ⟨_, _, S6.unsuite ok, q6⟩
        | cont => exact let ⟨σ6, H6, S6, q6⟩ := hsp; ⟨_, _, S6.unsuite ok, q6⟩
        | ret u => exact let ⟨v6, σ6, H6, S6, r6, q6⟩ := hsp; ⟨_, _, _, S6.unsuite ok, r6, q6⟩
    | @as x n c0 ts st sts np pos' i hc hN hi hln su =>
      refine wpAny_handleBy_cons (codeAny_handlers_test ?_) (by intro q; cases q)
      refine names_eval c hf hc (LM.here ?_)
      cases b with
      | false => exact ih c (hno rfl)
      | true =>
        refine codeAny_handlers_suite_as (c.again fun s4 c4 => ?_)
        obtain ⟨oe, z1, z2, S⟩ := c4.suite (M := model X.prog X.w) hf
        have ok := c4.here.ok
        refine store_ok (X := X.suite a ((a, oe) :: (X.pn ++ pins))) (v := .ref a) S hN hi (.inl hln) rfl (fun s5 S5 => ?_) (.inr hln)
        refine wpAny_mono ((su a oe cls d (X.pn ++ pins) z1 z2).run [] s5 _ H (asEnds i D) S5 (hyes rfl a c.na)) (fun f s6 hsp => ?_) (fun _ _ z => False.elim z)
        cases f with
        | next => exact let ⟨σ6, H6, S6, q6⟩ := hsp; gone_ok (S6.unsuite ok) hN hi hln fun s7 J7 => ⟨_, _, J7, q6⟩
        | brk => exact let ⟨σ6, H6, S6, q6⟩ := hsp; gone_ok (S6.unsuite ok) hN hi hln fun s7 J7 => ⟨_, _, J7, q6⟩
        | cont => exact let ⟨σ6, H6, S6, q6⟩ := hsp; gone_ok (S6.unsuite ok) hN hi hln fun s7 J7 => ⟨_, _, J7, q6⟩
        | ret u => exact let ⟨v6, σ6, H6, S6, r6, q6⟩ := hsp; gone_ok (S6.unsuite ok) hN hi hln fun s7 J7 => ⟨_, _, _, J7, r6, q6⟩
/-- THE RULE: try .. except A as x: .. except B: .. -/
theorem ps_try_cls {body : List Stmt} {h₀ : ExceptHandler} {hds : List ExceptHandler} {qs : List Cl} {pos : Pos} {tb : WX → TS} (hst : X.stack = X.env :: X.outer) (hf : X.env.frame = some X.env.locals) (tk : Takes X Wout)
    (hb : ∀ (W : WX) (pn : List (Addr × Obj)) (xe : Value → Shared → Prop), Takes (X.tr pn xe) W → PassesOwn (model X.prog X.w) X.A X.env xe → PSs (X.tr pn xe) body (tb W)) (hh : ClsOk X (h₀ :: hds) qs) :
    PS X (.Try body (h₀ :: hds) [] [] pos) (fun D σ H => tb (wCls X.K Wout D qs) D σ H) := by
  refine ⟨fun pins s σ H D I h => wpAny_Try_except ?_⟩
  have ok := I.ok
  have fr : X.A.frames = some (X.env :: X.outer) := by rw [ok.frames, hst]
  have B0 := hb (wCls X.K Wout D qs) (X.pn ++ pins) (fun e s₁ => wpAny (model X.prog X.w) X.A (noteFrame e X.env) (fun _ s₂ => wpAny (model X.prog X.w) X.A (setFlight e none) (fun _ s₃ => wpAny (model X.prog X.w) X.A (handleBy e X.env (h₀ :: hds)) (SP X pins D) X.xe s₃) X.xe s₂) X.xe s₁)
    (fun u s' xx => by
      obtain ⟨a, B, sI, pins', σ', H', cls, d, rfl, J', nb, up, sky, na, os, ag, w⟩ := xx
      refine Sky.land Zc.steady fr hf (show Sky B (X.env :: X.outer) a (Zc cls d) X.env.locals s'.heap by rw [← hst]; exact sky) fun h3 fl3 up3 => ?_
      exact clauses hh hst hf tk ⟨J'.ofTry ok, nb, up.trans up3, na, os, ag, fl3⟩ w) PassesOwn.looking
  refine wpAny_mono (B0.run [] s σ H D (I.toTry _) h) (fun f s1 hsp => ?_) (fun _ _ z => z)
  cases f with
  | next => exact let ⟨σ', H', J', q⟩ := hsp; wpAny_execs_nil ⟨σ', H', J'.ofTry ok, q⟩
  | brk => exact let ⟨σ', H', J', q⟩ := hsp; ⟨σ', H', J'.ofTry ok, q⟩
  | cont => exact let ⟨σ', H', J', q⟩ := hsp; ⟨σ', H', J'.ofTry ok, q⟩
  | ret u => exact let ⟨v, σ', H', J', r, q⟩ := hsp; ⟨v, σ', H', J'.ofTry ok, r, q⟩
end
end GS
/-! What the head tells: a list of Bools of the written part, and the defs. -/
namespace GS
open PySem PySem.W PySem.Calls PyProof.Rows He
abbrev Chk := PySem.W.Frag → Bool
def obsM (fa : List He.Fa) (ex : List Chk) (fn : List He5.DefA) (K : PySem.W.Frag) : He.AlD := ((fa.all fun f => f.ok K) && ((ex.all fun f => f K) && fn.all fun d => d.ok K), fn.map fun d => He5.fnA K (d.at_ K))
def SaysM (fa : List He.Fa) (ex : List Chk) (fn : List He5.DefA) (K : PySem.W.Frag) : Prop := obsM fa ex fn K = He5.valA fn
def obsMG (n : Nat) (fa : List He.Fa) (ex : List Chk) (fn : List He5.DefA) (g : Addr → Option Obj) : He.AlD := obsM fa ex fn (frG g (He5.asA g n))
def hookM (n : Nat) (fa : List He.Fa) (ex : List Chk) (fn : List He5.DefA) : PySem.W.Hook where
  α := He.AlD
  obs s := obsMG n fa ex fn s.heap.get?
  val _ := He5.valA fn
  says _ h := ∃ K : PySem.W.Frag, K.In h ∧ SaysM fa ex fn K
  of _ _ e := ⟨_, frG_in, e⟩
  keeps := fun _ _ _ ⟨K, i, c⟩ k => ⟨K, Frag.In.keeps i k, c⟩
theorem obsMG_eq {n : Nat} {fa : List He.Fa} {ex : List Chk} {fn : List He5.DefA} {g : Addr → Option Obj} {s : Shared} (h : ∀ a, g a = s.heap.get? a) : obsMG n fa ex fn g = (hookM n fa ex fn).obs s := by
  obtain rfl : g = s.heap.get? := funext h
  rfl
section
variable {fa : List He.Fa} {ex : List Chk} {fn : List He5.DefA} {K : PySem.W.Frag}
theorem SaysM.fst (c : SaysM fa ex fn K) : (∀ f ∈ fa, f.ok K = true) ∧ (∀ f ∈ ex, f K = true) ∧ ∀ d ∈ fn, d.ok K = true := by
  have e : ((fa.all fun f => f.ok K) && ((ex.all fun f => f K) && fn.all fun d => d.ok K)) = true := congrArg (fun z : He.AlD => z.1) c
  obtain ⟨h1, h2⟩ := ba e
  obtain ⟨h3, h4⟩ := ba h2
  exact ⟨List.all_eq_true.mp h1, List.all_eq_true.mp h3, List.all_eq_true.mp h4⟩
theorem SaysM.fact (c : SaysM fa ex fn K) (i : Nat) {f : He.Fa} (h : fa[i]? = some f := by rfl) : f.ok K = true := c.fst.1 f (List.mem_of_getElem? h)
theorem SaysM.chk (c : SaysM fa ex fn K) (i : Nat) {f : Chk} (h : ex[i]? = some f := by rfl) : f K = true := c.fst.2.1 f (List.mem_of_getElem? h)
theorem SaysM.def_ (c : SaysM fa ex fn K) (i : Nat) {d : He5.DefA} (h : fn[i]? = some d := by rfl) : ∃ fd, L2.FunD K d.name d.qual d.params d.body d.scope (d.dvs K) (d.kws K) (d.at_ K) fd := by
  have e : fn.map (fun d => He5.fnA K (d.at_ K)) = fn.map He5.DefA.val := congrArg (fun z : He.AlD => z.2) c
  have e2 := congrArg (fun l => l[i]?) e
  simp only [List.getElem?_map, h, Option.map_some, Option.some.injEq] at e2
  exact He5.DefA.funD e2 (c.fst.2.2 d (List.mem_of_getElem? h))
end
/-! ### classes of errors -/
def oexB (K : PySem.W.Frag) (C : Addr) : Bool := (match K.lookup C with
    | some ⟨.type t, _, .cls cd, sl⟩ => (match cd.mro, sl.toList with
      | .ref c :: bm, [_, _, _, _, some (.builtin n), _] => decide (t = "type") && (decide (c = C) && (decide (n = "ValueError.__new__") && (!cd.hasDel && (cd.hasDict && PySem.HandSPX.refsVE bm))))
      | _, _ => false)
    | _ => false) && (eqO (findIn K (.ref C) "__setattr__") (some (some (.builtin "object.__setattr__"))) && (decide (subIn K (.ref C) (.type "BaseException") = some true) && (decide (typeIn K (.ref C) = some (.type "type")) && keepIn K (.ref C))))
theorem oexB_ok {K : PySem.W.Frag} {C : Addr} (h : oexB K C = true) : L2.OexC K C := by
  obtain ⟨h0, h⟩ := ba h
  obtain ⟨h1, h⟩ := ba h
  obtain ⟨h2, h⟩ := ba h
  obtain ⟨h3, h4⟩ := ba h
  refine ⟨?_, eqO_ok h1, of_decide_eq_true h2, of_decide_eq_true h3, h4⟩
  clear h1 h2 h3 h4 h
  split at h0
  · rename_i t dd cd sl ho
    split at h0
    · rename_i c bm k0 k1 k2 k3 n k5 hm hs
      obtain ⟨a1, a⟩ := ba h0
      obtain ⟨a2, a⟩ := ba a
      obtain ⟨a3, a⟩ := ba a
      obtain ⟨a4, a⟩ := ba a
      obtain ⟨a5, a6⟩ := ba a
      obtain ⟨nm, bs, mro, ns, qn, hd, sn, sub, ab, col, del⟩ := cd
      obtain ⟨l⟩ := sl
      dsimp only at hm hs a4 a5
      subst hm hs a5
      obtain rfl := of_decide_eq_true a1
      obtain rfl := of_decide_eq_true a2
      obtain rfl := of_decide_eq_true a3
      have a4' : del = false := by simpa using a4
      subst a4'
      exact ⟨nm, qn, ns, bs, bm, sn, sub, ab, col, dd, k0, k1, k2, k3, k5, ho, a6⟩
    · cases h0
  · cases h0
/-- an error class X with the fields fs: made by its own __init__, caught by the classes yes, not by the classes no; its fields are read -/
def errB (x : PySem.Str) (fs : List PySem.Str) (yes no : List PySem.Str) : Chk := fun K => oexB K (ga K x) && (L2.xfB K (ga K x) && ((fs.all fun f => eqO (findIn K (.ref (ga K x)) f) (some none)) &&
  ((yes.all fun y => decide (exmOne K (.ref (ga K x)) (.ref (ga K y)) = some true)) && ((no.all fun y => decide (exmOne K (.ref (ga K x)) (.ref (ga K y)) = some false)) &&
    (eqO (findIn K (.ref (ga K x)) "__init__") (some (some (.ref (ma K (ga K x) "__init__")))) && decide (typeIn K (.ref (ma K (ga K x) "__init__")) = some (.type "function")))))))
structure ErrC (K : PySem.W.Frag) (x : PySem.Str) (fs yes no : List PySem.Str) : Prop where
  o : L2.OexC K (ga K x)
  xf : L2.XfC K (ga K x)
  no_ : ∀ f ∈ fs, findIn K (.ref (ga K x)) f = some none
  y : ∀ c ∈ yes, exmOne K (.ref (ga K x)) (.ref (ga K c)) = some true
  n : ∀ c ∈ no, exmOne K (.ref (ga K x)) (.ref (ga K c)) = some false
  i : findIn K (.ref (ga K x)) "__init__" = some (some (.ref (ma K (ga K x) "__init__")))
  t : typeIn K (.ref (ma K (ga K x) "__init__")) = some (.type "function")
theorem errB_ok {K : PySem.W.Frag} {x : PySem.Str} {fs yes no : List PySem.Str} (h : errB x fs yes no K = true) : ErrC K x fs yes no := by
  obtain ⟨h1, h⟩ := ba h
  obtain ⟨h2, h⟩ := ba h
  obtain ⟨h3, h⟩ := ba h
  obtain ⟨h4, h⟩ := ba h
  obtain ⟨h5, h⟩ := ba h
  obtain ⟨h6, h7⟩ := ba h
  exact ⟨oexB_ok h1, L2.xfB_ok h2, fun f hf => eqO_ok (List.all_eq_true.mp h3 f hf), fun f hf => of_decide_eq_true (List.all_eq_true.mp h4 f hf), fun f hf => of_decide_eq_true (List.all_eq_true.mp h5 f hf), eqO_ok h6, of_decide_eq_true h7⟩
/-! ### own classes -/
/-- a class whose instances are asked by isinstance; values of built-in types are none of it, and it is none of them -/
def clsB (x : PySem.Str) (tys : List String) : Chk := fun K => eqO (findIn K (.ref (ga K x)) "__class__") (some (some (.builtin "object.__class__"))) && (decide (mroIn K (ga K x) (.type "object") = some true) &&
  ((tys.all fun t => decide (kitOne K (.type t) (.ref (ga K x)) = some false) && (decide (kitOne K (.ref (ga K x)) (.type t) = some false) && notFirst K (ga K x) (.type t))) &&
    (decide (kitOne K (.ref (ga K x)) (.ref (ga K x)) = some true) && notFirst K (ga K x) (.ref (ga K x)))))
structure ClsC (K : PySem.W.Frag) (x : PySem.Str) (tys : List String) : Prop where
  ha : findIn K (.ref (ga K x)) "__class__" = some (some (.builtin "object.__class__"))
  hm : mroIn K (ga K x) (.type "object") = some true
  ty : ∀ t ∈ tys, kitOne K (.type t) (.ref (ga K x)) = some false ∧ kitOne K (.ref (ga K x)) (.type t) = some false ∧ notFirst K (ga K x) (.type t) = true
  me : kitOne K (.ref (ga K x)) (.ref (ga K x)) = some true
  nf : notFirst K (ga K x) (.ref (ga K x)) = true
theorem clsB_ok {K : PySem.W.Frag} {x : PySem.Str} {tys : List String} (h : clsB x tys K = true) : ClsC K x tys := by
  obtain ⟨h1, h⟩ := ba h
  obtain ⟨h2, h⟩ := ba h
  obtain ⟨h3, h⟩ := ba h
  obtain ⟨h4, h5⟩ := ba h
  refine ⟨eqO_ok h1, of_decide_eq_true h2, fun t ht => ?_, of_decide_eq_true h4, h5⟩
  obtain ⟨a, b⟩ := ba (List.all_eq_true.mp h3 t ht)
  obtain ⟨b, c⟩ := ba b
  exact ⟨of_decide_eq_true a, of_decide_eq_true b, c⟩
/-- what holds of every program: how __class__ is read -/
def topB : Chk := fun K => eqO (specialIn K (.builtin "object.__class__") "__get__") (some (some (.builtin "getset_descriptor.__get__"))) && decide (takesIn K (.builtin "object.__class__") = some true)
/-- the class says nothing of != -/
def neB (x : PySem.Str) : Chk := fun K => eqO (findIn K (.ref (ga K x)) "__ne__") (some (some (.builtin "object.__ne__")))
/-- a staticmethod -/
def smB (x m : PySem.Str) : Chk := fun K => He5.wrapB K (ga K x) "staticmethod" "staticmethod.__get__" m && (readsIn K (ga K x) (.type "type") && (eqO (specialIn K (.ref (ga K x)) "__getattribute__") (some (some (.builtin "type.__getattribute__"))) && keepIn K (.ref (He5.wf K (ga K x) "staticmethod" m))))
theorem smB_ok {K : PySem.W.Frag} {x m : PySem.Str} (h : smB x m K = true) : SMet K (ga K x) (.type "type") m (ma K (ga K x) m) (He5.wf K (ga K x) "staticmethod" m) ∧ ClX.CRead K (ga K x) (.type "type") ∧ keepIn K (.ref (He5.wf K (ga K x) "staticmethod" m)) = true := by
  obtain ⟨h1, h⟩ := ba h
  obtain ⟨h2, h⟩ := ba h
  obtain ⟨h3, h4⟩ := ba h
  obtain ⟨a, b⟩ := He5.wrapB_ok h1
  exact ⟨⟨a, b⟩, ⟨h2, eqO_ok h3⟩, h4⟩
end GS
/-! Readings, step by step: one lemma a construct, and a step tactic. -/
namespace GS
open PySem PySem.Spec PyProof.Rows L2

/-! ### promises by the number of arguments -/
def sp1 (S : V → Hp → VK → XK → Prop) : Sp := fun vs H Q E => match vs with | [a] => S a H Q E | _ => False
def sp2 (S : V → V → Hp → VK → XK → Prop) : Sp := fun vs H Q E => match vs with | [a, b] => S a b H Q E | _ => False
def sp3 (S : V → V → V → Hp → VK → XK → Prop) : Sp := fun vs H Q E => match vs with | [a, b, c] => S a b c H Q E | _ => False
def sp4 (S : V → V → V → V → Hp → VK → XK → Prop) : Sp := fun vs H Q E => match vs with | [a, b, c, d] => S a b c d H Q E | _ => False
theorem sp1_len {S : V → Hp → VK → XK → Prop} : ∀ vs H Q E, sp1 S vs H Q E → vs.length = 1 := fun vs _ _ _ h => match vs, h with | [_], _ => rfl
theorem sp2_len {S : V → V → Hp → VK → XK → Prop} : ∀ vs H Q E, sp2 S vs H Q E → vs.length = 2 := fun vs _ _ _ h => match vs, h with | [_, _], _ => rfl
theorem sp3_len {S : V → V → V → Hp → VK → XK → Prop} : ∀ vs H Q E, sp3 S vs H Q E → vs.length = 3 := fun vs _ _ _ h => match vs, h with | [_, _, _], _ => rfl
theorem sp4_len {S : V → V → V → V → Hp → VK → XK → Prop} : ∀ vs H Q E, sp4 S vs H Q E → vs.length = 4 := fun vs _ _ _ h => match vs, h with | [_, _, _, _], _ => rfl
theorem sp1_is {S : V → Hp → VK → XK → Prop} {vs H Q E} (h : sp1 S vs H Q E) : ∃ a, vs = [a] ∧ S a H Q E := match vs, h with | [a], h => ⟨a, rfl, h⟩
theorem sp2_is {S : V → V → Hp → VK → XK → Prop} {vs H Q E} (h : sp2 S vs H Q E) : ∃ a b, vs = [a, b] ∧ S a b H Q E := match vs, h with | [a, b], h => ⟨a, b, rfl, h⟩
theorem sp3_is {S : V → V → V → Hp → VK → XK → Prop} {vs H Q E} (h : sp3 S vs H Q E) : ∃ a b c, vs = [a, b, c] ∧ S a b c H Q E := match vs, h with | [a, b, c], h => ⟨a, b, c, rfl, h⟩
theorem sp4_is {S : V → V → V → V → Hp → VK → XK → Prop} {vs H Q E} (h : sp4 S vs H Q E) : ∃ a b c d, vs = [a, b, c, d] ∧ S a b c d H Q E := match vs, h with | [a, b, c, d], h => ⟨a, b, c, d, rfl, h⟩

/-! ### heaps that grow -/
def Ex (H H' : Hp) : Prop := ∀ a o, H a = some o → H' a = some o
theorem Ex.refl (H : Hp) : Ex H H := fun _ _ h => h
theorem Ex.trans {H H1 H2 : Hp} (a : Ex H H1) (b : Ex H1 H2) : Ex H H2 := fun x o h => b x o (a x o h)
theorem Ex.new {H : Hp} {p : Addr} {o : HO} (h : H p = none) : Ex H (upd H p o) := fun a u e => by rw [upd_ne (ne_of_none e h)]; exact e
theorem Ex.get {H H' : Hp} {a : Addr} {o : HO} (e : Ex H H') (h : H a = some o) : H' a = some o := e _ _ h
theorem Ex.free {H H' : Hp} {p : Addr} (e : Ex H H') (h : H' p = none) : H p = none := by
  cases q : H p with
  | none => rfl
  | some o => rw [e _ _ q] at h; cases h
theorem Ex.sql {K : PySem.W.Frag} {H H' : Hp} {a : Addr} {xs : List V} (e : Ex H H') (h : SqL K H a xs) : SqL K H' a xs := Same.seq e h
theorem Ex.sqt {K : PySem.W.Frag} {H H' : Hp} {a : Addr} {xs : List V} (e : Ex H H') (h : SqT K H a xs) : SqT K H' a xs := SqT.ext h e
/-- the heap without what stands at b -/
def wo (H : Hp) (b : Addr) : Hp := fun a => if a = b then none else H a
theorem wo_ex (H : Hp) (b : Addr) : Ex (wo H b) H := fun a o h => by
  unfold wo at h
  split at h
  · cases h
  · exact h
theorem Ex.wo {H H' : Hp} (b : Addr) (e : Ex H H') : Ex (wo H b) (wo H' b) := fun a o h => by
  unfold GS.wo at h ⊢
  split at h
  · cases h
  · rename_i n
    rw [if_neg n]
    exact e _ _ h
theorem wo_at {H : Hp} {a b : Addr} {o u : HO} (h : H a = some o) (hb : H b = some u) (n : o ≠ u) : wo H b a = some o := by
  unfold wo
  rw [if_neg (ne_of h hb n)]
  exact h
theorem wo_upd {H : Hp} {b : Addr} {o : HO} : wo (upd H b o) b = wo H b := by
  funext a
  unfold wo upd
  split <;> rfl

/-- what is wished of a new instance -/
def mkK (C : Addr) (sp : Sp) (E : XK) (Q : VK) : List V → Hp → Prop := fun vs H1 => ∀ x dx, H1 x = none → H1 dx = none → dx ≠ x → sp (.ref x :: (vs ++ [])) (upd (upd H1 dx (.own x)) x (.ins C dx [])) (fun v H2 => v = .non ∧ Q (.ref x) H2) E
/-- what is wished of a new tuple, a new list -/
def newT (Q : VK) : List V → Hp → Prop := fun xs H1 => xs.length ≤ sizeLine ∧ ∀ p, H1 p = none → Q (.ref p) (upd H1 p (.tup xs))
def newL (Q : VK) : List V → Hp → Prop := fun xs H1 => xs.length ≤ sizeLine ∧ ∀ p, H1 p = none → Q (.ref p) (upd H1 p (.lst xs))
theorem r_newT {Q : VK} {xs : List V} {H : Hp} (hz : xs.length ≤ sizeLine) (q : ∀ p H', H p = none → Ex H H' → H' p = some (.tup xs) → Q (.ref p) H') : newT Q xs H := ⟨hz, fun p hp => q p _ hp (Ex.new hp) upd_same⟩
theorem r_newL {Q : VK} {xs : List V} {H : Hp} (hz : xs.length ≤ sizeLine) (q : ∀ p H', H p = none → Ex H H' → H' p = some (.lst xs) → Q (.ref p) H') : newL Q xs H := ⟨hz, fun p hp => q p _ hp (Ex.new hp) upd_same⟩
/-! ### expressions -/
section
variable {K : PySem.W.Frag} {σ : L2.St} {H : Hp} {Q : VK} {ta tb te tc : TE} {t u : TT} {v x y : V} {i j : Int}
theorem r_var {n : Nat} (h : σ[n]? = some (some v)) (q : Q v H) : tVar n σ H Q := ⟨v, h, q⟩
theorem r_var3 {n : Nat} (q : Q v H) (h : σ[n]? = some (some v)) : tVar n σ H Q := ⟨v, h, q⟩
theorem r_c (q : Q v H) : tC v σ H Q := q
theorem r_op {r : R2} (q : ta σ H fun x H1 => tb σ H1 fun y H2 => r x y H2 Q) : tOp r ta tb σ H Q := q
theorem r_un {r : V → Hp → VK → Prop} (q : ta σ H fun x H1 => r x H1 Q) : tUn r ta σ H Q := q
theorem r_I0 {g : Int → Int → V} (q : Q (g i j) H) : rI0 g (.int i) (.int j) H Q := ⟨i, j, rfl, rfl, q⟩
theorem r_I {C : Int → Int → Prop} {g : Int → Int → V} (c : C i j) (q : Q (g i j) H) : rI C g (.int i) (.int j) H Q := ⟨i, j, rfl, rfl, c, q⟩
theorem r_U {g : Int → V} (q : Q (g i) H) : rU g (.int i) H Q := ⟨i, rfl, q⟩
theorem r_eq (h : scal x y = true) (q : Q (.bl (decide (x = y))) H) : rEq x y H Q := ⟨h, q⟩
theorem r_eqI (q : Q (.bl (decide (i = j))) H) : rEq (.int i) (.int j) H Q := ⟨rfl, by rwa [show decide (V.int i = V.int j) = decide (i = j) from by simp]⟩
theorem r_neI (q : Q (.bl (!decide (i = j))) H) : rNe (.int i) (.int j) H Q := ⟨rfl, by rwa [show decide (V.int i = V.int j) = decide (i = j) from by simp]⟩
theorem r_ne (h : scal x y = true) (q : Q (.bl (!decide (x = y))) H) : rNe x y H Q := ⟨h, q⟩
theorem r_test {R : Bool → Hp → Prop} (q : ta σ H fun x H' => ∃ k, x = .bl k ∧ R k H') : tTest ta σ H R := q
theorem r_B {R : Bool → Hp → Prop} (q : ta σ H fun x H' => ∃ k, x = .bl k ∧ R k H') : tB ta σ H R := q
theorem r_k {b : Bool} {R : Bool → Hp → Prop} (q : R b H) : ∃ k, V.bl b = .bl k ∧ R k H := ⟨b, rfl, q⟩
theorem r_and {R : Bool → Hp → Prop} (q : t σ H fun c H1 => if c = true then u σ H1 R else R false H1) : tAnd t u σ H R := q
theorem r_or {R : Bool → Hp → Prop} (q : t σ H fun c H1 => if c = true then R true H1 else u σ H1 R) : tOr t u σ H R := q
theorem r_not {R : Bool → Hp → Prop} (q : t σ H fun c H1 => R (!c) H1) : tNot t σ H R := q
theorem r_andV (q : ta σ H fun x H1 => ∃ c, x = .bl c ∧ if c = true then tb σ H1 Q else Q (.bl false) H1) : tAndV ta tb σ H Q := q
theorem r_orV (q : ta σ H fun x H1 => ∃ c, x = .bl c ∧ if c = true then Q (.bl true) H1 else tb σ H1 Q) : tOrV ta tb σ H Q := q
theorem r_notV (q : ta σ H fun x H1 => ∃ c, x = .bl c ∧ Q (.bl (!c)) H1) : tNotV ta σ H Q := q
theorem r_kV {b : Bool} {R : Bool → Prop} (q : R b) : ∃ c, V.bl b = .bl c ∧ R c := ⟨b, rfl, q⟩
theorem r_if (q : t σ H fun c H1 => if c = true then ta σ H1 Q else tb σ H1 Q) : tIf t ta tb σ H Q := q
theorem r_nil {R : List V → Hp → Prop} (q : R [] H) : tNil σ H R := q
theorem r_cons {tr : TA} {R : List V → Hp → Prop} (q : ta σ H fun x H1 => tr σ H1 fun xs H2 => R (x :: xs) H2) : tCons ta tr σ H R := q
theorem r_cb {r : List V → Hp → VK → Prop} {tr : TA} (q : tr σ H fun vs H1 => r vs H1 Q) : tCB r tr σ H Q := q
theorem r_call {sp : Sp} {E : XK} {tr : TA} (q : tr σ H fun vs H1 => sp (vs ++ []) H1 Q E) : tCall sp [] E tr σ H Q := q
theorem r_make {C : Addr} {sp : Sp} {E : XK} {tr : TA} (q : tr σ H (mkK C sp E Q)) : tMake C sp [] E tr σ H Q := q
theorem r_fld {a C dx : Addr} {fs : List (Str × V)} {f : Str} (h : H a = some (.ins C dx fs)) (c : Cls K C) (n : NoAttr K C f) (l : fs.lookup f = some v) (q : Q v H) : ∃ a' C dx fs v, V.ref a = .ref a' ∧ H a' = some (.ins C dx fs) ∧ Cls K C ∧ NoAttr K C f ∧ fs.lookup f = some v ∧ Q v H :=
  ⟨a, C, dx, fs, v, rfl, h, c, n, l, q⟩
theorem r_tup {tr : TA} (q : tr σ H (newT Q)) : tTup tr σ H Q := q
theorem r_lst {tr : TA} (q : tr σ H (newL Q)) : tLst tr σ H Q := q
/-! ### statements -/
variable {D : Ends} {ts tu : TS}
theorem r_seq (q : ts { D with nx := tu D } σ H) : tSeq ts tu D σ H := q
theorem r_asg {n : Nat} (q : te σ H fun x H1 => D.nx (σ.set n (some x)) H1) : tAsg te (gName n) D σ H := q
theorem r_asgG {g : TG} (q : te σ H fun x H1 => g x σ H1 D.nx) : tAsg te g D σ H := q
theorem r_ret (q : te σ H D.rt) : tRet te D σ H := q
theorem r_drop (q : te σ H fun _ H1 => D.nx σ H1) : tDrop te D σ H := q
theorem r_next (q : D.nx σ H) : tNext D σ H := q
theorem r_ifS (q : t σ H fun b H1 => if b = true then ts D σ H1 else tu D σ H1) : tIfS t ts tu D σ H := q
theorem r_raise {W : WX} {X : L2.St → Hp → XK → Prop} (q : X σ H fun cls d H' => W cls d σ H') : (fun (_ : Ends) σ H => X σ H fun cls d H' => W cls d σ H') D σ H := q
end
theorem ite_t {c : Bool} {A B : Prop} (hc : c = true) (h : A) : if c = true then A else B := by rw [if_pos hc]; exact h
theorem ite_f {c : Bool} {A B : Prop} (hc : c = false) (h : B) : if c = true then A else B := by rw [hc, if_neg Bool.false_ne_true]; exact h
theorem ite_b {c : Bool} {A B : Prop} (h1 : c = true → A) (h2 : c = false → B) : if c = true then A else B := by
  cases c with
  | true => rw [if_pos rfl]; exact h1 rfl
  | false => rw [if_neg Bool.false_ne_true]; exact h2 rfl

/-! ### own rules that the layer lacks -/
section
variable {X : Cx}
theorem pe_gint {x : Str} {pos : Pos} {i : Int} (hg : Gl X x) (h : ∃ t, X.mg x = some (.int i t)) (hd : (x == ("__debug__" : Str)) = false := by decide) : PE X (.Name x pos) (tC (.int i)) := let ⟨t, e⟩ := h; pe_glob hg e ⟨t, rfl⟩ hd
theorem pe_gstr {x : Str} {pos : Pos} {z : Str} (hg : Gl X x) (h : ∃ t, X.mg x = some (.str z t)) (hd : (x == ("__debug__" : Str)) = false := by decide) : PE X (.Name x pos) (tC (.str z)) := let ⟨t, e⟩ := h; pe_glob hg e ⟨t, rfl⟩ hd
def CPowW (i j : Int) : Prop := 0 ≤ j ∧ (Builtin.Int.intBits i : Int) * j ≤ 2 ^ 27
theorem op_powW : OpR X (binaryOp .Pow) (rI CPowW fun i j => .int (i ^ j.toNat)) := opI fun _ _ _ _ _ _ _ hc q => pow_int hc.1 hc.2 q
theorem cpow_of {i : Int} {n k : Nat} (h : i.natAbs < 2 ^ n) (hk : n * k ≤ 2 ^ 27) : CPowW i (k : Int) := by
  refine ⟨by omega, ?_⟩
  have b : Builtin.Int.intBits i ≤ n := by
    unfold Builtin.Int.intBits
    split
    · exact Nat.zero_le _
    · rename_i h0
      have h1 : i ≠ 0 := by simpa using h0
      have : i.natAbs.log2 < n := (Nat.log2_lt (by omega)).mpr h
      omega
  have : Builtin.Int.intBits i * k ≤ 2 ^ 27 := Nat.le_trans (Nat.mul_le_mul_right k b) hk
  exact_mod_cast this
end
end GS
/-! Comprehensions whose turns only let the heap grow; integers as texts. -/
namespace GS
open PySem PySem.Spec PyProof.Rows L2 TL
/-- the body of a comprehension's reading -/
def lcB (J : It) (g : TG) (tt : TT) (te : TE) (vs : List Nat) (σ : L2.St) (Q : VK) : Hp → Prop := fun H1 => ∀ D, H1 D = none → ∃ W : Nat → Nat → Hp → Prop, (∃ m, W 0 m (upd H1 D (.lst []))) ∧ ∀ i m H, W i m H → (J.stop i H ∧ Q (.ref D) H) ∨
  (J.go i H ∧ ∃ Nx : Hp → Prop, (∀ H', Nx H' → ∃ m', m' < m ∧ W (i + 1) m' H') ∧ ∀ x H', J.yld i H x H' → g x (wipe σ vs) H' fun σ2 H2 => wipe σ2 vs = wipe σ vs ∧ tt σ2 H2 fun b H3 => if b = true then te σ2 H3 fun y H4 => ∃ acc, H4 D = some (.lst acc) ∧ acc.length < sizeLine ∧ Nx (upd H4 D (.lst (acc ++ [y]))) else Nx H3)
theorem r_lc {wi : TI} {g : TG} {tt : TT} {te : TE} {vs : List Nat} {σ : L2.St} {H : Hp} {Q : VK} (q : wi σ H fun J H1 => lcB J g tt te vs σ Q H1) : tLc wi g tt te vs σ H Q := q
theorem r_chain {r r' : R2} {ta tb tc : TE} {σ : L2.St} {H : Hp} {Q : VK} (q : ta σ H fun x H1 => tb σ H1 fun y H2 => r x y H2 fun z H3 => ∃ k, z = .bl k ∧ (if k = true then tc σ H3 fun w' H4 => r' y w' H4 Q else Q (.bl false) H3)) : tChain r r' ta tb tc σ H Q := q
theorem all_true {K : PySem.W.Frag} {H : Hp} {p : Addr} {n : Nat} {Q : VK} (h : H p = some (.lst ((List.range n).map fun _ => V.bl true))) (q : Q (.bl true) H) : rAll K [.ref p] H Q := by
  refine ⟨p, (List.range n).map fun _ => true, rfl, SqL.of (by rw [List.map_map]; exact h), ?_⟩
  have e : ((List.range n).map fun _ => true).all id = true := by simp
  rw [e]
  exact q
theorem r_pickS {c : Prop} [Decidable c] {σ : L2.St} {H : Hp} {Q : VK} {ta tb : TE} {i j : Str} (h1 : ∀ Q : VK, Q (.str i) H → ta σ H Q) (h2 : ∀ Q : VK, Q (.str j) H → tb σ H Q) (q : Q (.str (if c then i else j)) H) : if decide c = true then ta σ H Q else tb σ H Q := by
  by_cases h : c
  · rw [if_pos h] at q
    exact ite_t (decide_eq_true h) (h1 Q q)
  · rw [if_neg h] at q
    exact ite_f (decide_eq_false h) (h2 Q q)
theorem r_iT {K : PySem.W.Frag} {tl : TE} {σ : L2.St} {H : Hp} {R : It → Hp → Prop} (q : tl σ H fun x H1 => ∃ a, x = .ref a ∧ (∃ xs, SqT K H1 a xs) ∧ R (Itt K a) H1) : iTup K tl σ H R := q
theorem r_iL {K : PySem.W.Frag} {tl : TE} {σ : L2.St} {H : Hp} {R : It → Hp → Prop} (q : tl σ H fun x H1 => ∃ a, x = .ref a ∧ (∃ xs, SqL K H1 a xs) ∧ R (Itl K a) H1) : iList K tl σ H R := q
theorem r_iR1 {ta : TA} {σ : L2.St} {H : Hp} {R : It → Hp → Prop} (q : ta σ H fun vs H1 => ∃ j : Int, vs = [.int j] ∧ -(2 ^ 62) ≤ j ∧ j < 2 ^ 62 ∧ R (Itr 0 j.toNat) H1) : iRng1 ta σ H R := q
theorem Ex.mut {H H' : Hp} {p : Addr} {o : HO} (e : Ex H H') (h : H p = none) : Ex H (upd H' p o) := fun a u ha => by
  rw [upd_ne (ne_of_none ha h)]
  exact e a u ha
theorem sz_le {n : Nat} (h : n ≤ 100000) : n ≤ sizeLine := Nat.le_trans h (by decide)
theorem sz_lt {n : Nat} (h : n < 100000) : n < sizeLine := Nat.lt_of_lt_of_le h (by decide)
/-- the items that a filtered comprehension gives -/
def given (n : Nat) (t : Nat → Bool) (f : Nat → V) : List V := ((List.range n).filter t).map f
theorem given_len (n : Nat) (t : Nat → Bool) (f : Nat → V) : (given n t f).length ≤ n := by
  unfold given
  rw [List.length_map]
  exact Nat.le_trans (List.length_filter_le _ _) (by rw [List.length_range]; exact Nat.le_refl _)
theorem given_all (n : Nat) (f : Nat → V) : given n (fun _ => true) f = (List.range n).map f := by
  unfold given
  rw [List.filter_eq_self.mpr (fun _ _ => rfl)]
theorem given_succ (n : Nat) (t : Nat → Bool) (f : Nat → V) : given (n + 1) t f = if t n = true then given n t f ++ [f n] else given n t f := by
  unfold given
  rw [List.range_succ, List.filter_append, List.map_append, List.filter_cons]
  split
  · rfl
  · show _ ++ [] = _
    rw [List.append_nil]
/-- one name, k its slot -/
theorem r_lcF {J : It} {n : Nat} {G : Hp → Prop} {Y : Nat → Hp → V → Hp → Prop} {k : Nat} {tt : TT} {te : TE} {σ : L2.St} {H1 : Hp} {Q : VK} (w : Walk J n G Y) (t : Nat → Bool) (f : Nat → V) (hn : n ≤ 50000) (hG : ∀ H' : Hp, Ex H1 H' → G H')
    (hw : ∀ x, wipe ((wipe σ [k]).set k (some x)) [k] = wipe σ [k])
    (hs : ∀ i x H H', i < n → Ex H1 H → Y i H x H' → Ex H H' ∧ ∀ R : Bool → Hp → Prop, (∀ H3, Ex H' H3 → R (t i) H3) → tt ((wipe σ [k]).set k (some x)) H' R)
    (he : ∀ i x H, i < n → t i = true → Ex H1 H → (∃ H0 H2, Y i H0 x H2 ∧ Ex H1 H0 ∧ Ex H0 H2 ∧ Ex H2 H) → ∀ R : VK, (∀ H4, Ex H H4 → R (f i) H4) → te ((wipe σ [k]).set k (some x)) H R)
    (q : ∀ p H', H1 p = none → Ex H1 H' → H' p = some (.lst (given n t f)) → Q (.ref p) H') : lcB J (gName k) tt te [k] σ Q H1 := by
  intro D hD
  refine lc_it w (fun i H => Ex H1 H ∧ H D = some (.lst (given i t f))) ⟨Ex.mut (Ex.refl _) hD, upd_same⟩ (fun i H _ p => hG H p.1) ?_ (fun H p => q D H hD p.1 p.2)
  intro i x H H' hi p y
  obtain ⟨e1, ht⟩ := hs i x H H' hi p.1 y
  refine ⟨hw x, ht _ fun H3 e3 => ?_⟩
  have hD3 : H3 D = some (.lst (given i t f)) := e3 _ _ (e1 _ _ p.2)
  cases c : t i with
  | false =>
    refine ite_f rfl ⟨(p.1.trans e1).trans e3, ?_⟩
    rw [given_succ, c]
    exact hD3
  | true =>
    refine ite_t rfl (he i x H3 hi c ((p.1.trans e1).trans e3) ⟨H, H', y, p.1, e1, e3⟩ _ fun H4 e4 => ?_)
    refine ⟨_, e4 _ _ hD3, sz_lt (by have := given_len i t f; omega), Ex.mut (((p.1.trans e1).trans e3).trans e4) hD, ?_⟩
    rw [given_succ, c]
    exact upd_same
/-- without a test -/
theorem r_lcM {J : It} {n : Nat} {G : Hp → Prop} {Y : Nat → Hp → V → Hp → Prop} {k : Nat} {te : TE} {σ : L2.St} {H1 : Hp} {Q : VK} (w : Walk J n G Y) (f : Nat → V) (hn : n ≤ 50000) (hG : ∀ H' : Hp, Ex H1 H' → G H')
    (hw : ∀ x, wipe ((wipe σ [k]).set k (some x)) [k] = wipe σ [k])
    (he : ∀ i x H H', i < n → Ex H1 H → Y i H x H' → Ex H H' ∧ ∀ H3, Ex H' H3 → ∀ R : VK, (∀ H4, Ex H3 H4 → R (f i) H4) → te ((wipe σ [k]).set k (some x)) H3 R)
    (q : ∀ p H', H1 p = none → Ex H1 H' → H' p = some (.lst ((List.range n).map f)) → Q (.ref p) H') : lcB J (gName k) tYes te [k] σ Q H1 := by
  refine r_lcF w (fun _ => true) f hn hG hw (fun i x H H' hi e y => ⟨(he i x H H' hi e y).1, fun R r => r H' (Ex.refl _)⟩) ?_ (fun p H' h1 h2 h3 => q p H' h1 h2 (by rw [given_all] at h3; exact h3))
  rintro i x H hi - e ⟨H0, H2, y, e0, e1, e2⟩ R r
  exact (he i x H0 H2 hi e0 y).2 H e2 R r
/-! ### integers as texts -/
def nS (i : Int) : Str := Str.ofString (toString i)
def dg (i : Int) : List Nat := numL i.natAbs
theorem tl_nS_nn {i : Int} (h : 0 ≤ i) : tl (nS i) = dg i := by
  obtain ⟨n, rfl⟩ := Int.eq_ofNat_of_zero_le h
  exact tl_num n
theorem tl_nS_neg {i : Int} (h : i < 0) : tl (nS i) = 45 :: dg i := by
  unfold nS dg
  have e : (0 - i) = ((i.natAbs : Nat) : Int) := by omega
  have f := tl_num i.natAbs
  rw [tl_ofString] at f
  rw [toString_neg h, tl_ofString, String.toList_append, List.map_append, e, f]
  rfl
theorem dg_digits (i : Int) : NumText.AllDigits (dg i) := numL_digits _
theorem dg_ne (i : Int) : dg i ≠ [] := numL_ne _
theorem dg_len {i : Int} {k : Nat} (hk : 0 < k) (h : i.natAbs < 10 ^ k) : (dg i).length ≤ k := numL_len hk h
theorem str_ext {a b : Str} (h : tl a = tl b) : a = b := ext_toList h
theorem nS_len {i : Int} {k : Nat} (hk : 0 < k) (h : i.natAbs < 10 ^ k) : (nS i).length ≤ k + 1 := by
  rw [len_tl]
  by_cases c : 0 ≤ i
  · rw [tl_nS_nn c]
    exact Nat.le_trans (dg_len hk h) (Nat.le_succ _)
  · rw [tl_nS_neg (by omega), List.length_cons]
    exact Nat.succ_le_succ (dg_len hk h)
/-- the sign and the digits apart -/
theorem nS_abs (i : Int) : nS i = (if i < 0 then Str.ofString "-" else Str.ofString "") ++ nS i.natAbs := by
  refine str_ext ?_
  have e : tl (nS (i.natAbs : Int)) = dg i := tl_nS_nn (i := (i.natAbs : Int)) (by omega)
  rw [tl_append, e]
  by_cases c : i < 0
  · rw [if_pos c, tl_nS_neg c]
    rfl
  · rw [if_neg c, tl_nS_nn (by omega)]
    rfl
theorem nS_free {i : Int} {s : Nat} (h : s ≠ 45) (h2 : s < 48 ∨ 57 < s) : s ∉ tl (nS i) := by
  by_cases c : 0 ≤ i
  · rw [tl_nS_nn c]
    exact numL_free h2
  · rw [tl_nS_neg (by omega)]
    intro hm
    rcases List.mem_cons.mp hm with e | e
    · exact h e
    · exact numL_free h2 e
theorem nS_int {i : Int} (h : i.natAbs < 10 ^ 600) : intText? (nS i) = some i := by
  have l := nS_len (k := 600) (by decide) h
  have v : ((NumText.digitsVal (dg i) : Nat) : Int) = i.natAbs := by unfold dg; rw [numL_val]
  by_cases c : 0 ≤ i
  · have e : (nS i).cps.toList = dg i := tl_nS_nn c
    rw [intText_digits (by rw [e]; exact dg_digits i) (by rw [e]; exact dg_ne i) (by omega), e, v]
    congr 1
    omega
  · have e : (nS i).cps.toList = 45 :: dg i := tl_nS_neg (by omega)
    rw [intText_neg e (dg_digits i) (dg_ne i) (by omega), v]
    congr 1
    omega
end GS
/-! A law's bag of drawn numbers; more stepping lemmas. -/
namespace GS
open PySem PySem.Spec PyProof.Rows L2 TL
/-! ### * of very great integers -/
def CMulB (i j : Int) : Prop := i.natAbs.log2 + j.natAbs.log2 < 100000000
theorem CMulB.ok {i j : Int} (h : CMulB i j) : IntMulOk i j := by
  have b : ∀ x : Int, Builtin.Int.intBits x ≤ x.natAbs.log2 + 1 := fun x => by
    unfold Builtin.Int.intBits
    split <;> omega
  have h1 := b i
  have h2 := b j
  unfold CMulB at h
  have e : bitsLine = 134217728 := by decide
  unfold IntMulOk
  intro z
  have z2 := (Bool.and_eq_true_iff.mp z).2
  unfold Builtin.Int.intTooBig at z2
  have z3 := of_decide_eq_true z2
  omega
theorem op_mulB {X : Cx} : OpR X (binaryOp .Mult) (rI CMulB fun i j => .int (i * j)) := opI fun _ _ _ _ _ _ _ hc q => mul_int q hc.ok
theorem lg_lt {i : Int} {n : Nat} (h : i.natAbs < 2 ^ n) (hn : 0 < n) : i.natAbs.log2 < n := PySem.Flt.log2_lt_of hn h
theorem mulB_of {i j : Int} {a b : Nat} (ha : i.natAbs < 2 ^ a) (hb : j.natAbs < 2 ^ b) (h0 : 0 < a) (h1 : 0 < b) (h : a + b ≤ 100000000) : CMulB i j := by
  have x := lg_lt ha h0
  have y := lg_lt hb h1
  unfold CMulB
  omega
/-! ### steps -/
section
variable {K : PySem.W.Frag} {σ : L2.St} {H : Hp} {Q : VK} {i j : Int} {b : Bool} {p : Addr} {xs : List V} {v : V}
theorem r_ixL (h : H p = some (.lst xs)) (e : atI xs i = some v) (q : Q v H) : rIxL K (.ref p) (.int i) H Q := ⟨_, _, _, _, rfl, rfl, SqL.of h, e, q⟩
theorem r_ixT (h : H p = some (.tup xs)) (e : atI xs i = some v) (q : Q v H) : rIxT K (.ref p) (.int i) H Q := ⟨_, _, _, _, rfl, rfl, SqT.of h, e, q⟩
theorem r_gSub {to ti : TE} {t : TSet} {N : L2.St → Hp → Prop} (q : to σ H fun o H1 => ti σ H1 fun i H2 => t o i v H2 fun H3 => N σ H3) : gSub to ti t v σ H N := q
theorem r_setL {k : Int} {n : Nat} {N : Hp → Prop} (h : H p = some (.lst xs)) (e : ixN xs.length k = some n) (q : N (upd H p (.lst (xs.set n v)))) : rSetL (.ref p) (.int k) v H N := ⟨p, xs, k, n, rfl, rfl, h, e, q⟩
theorem r_pow {v k : Int} (c : CPowW i k) (e : i ^ k.toNat = v) (q : Q (.int v) H) : rI CPowW (fun i j => .int (i ^ j.toNat)) (.int i) (.int k) H Q := r_I c (by rw [e]; exact q)
/-- what is wished behind int(..), abs(..), len(..) -/
def intK (Q : VK) : List V → Hp → Prop := fun xs H => (∃ i, xs = [V.int i] ∧ Q (.int i) H) ∨ ∃ k, xs = [V.bl k] ∧ Q (.int (if k = true then 1 else 0)) H
def absK (Q : VK) : List V → Hp → Prop := fun xs H => ∃ i, xs = [V.int i] ∧ Q (.int (if i < 0 then -i else i)) H
def lenK (K : PySem.W.Frag) (Q : VK) : List V → Hp → Prop := fun xs H => ∃ p ys, xs = [V.ref p] ∧ (SqL K H p ys ∨ SqT K H p ys) ∧ Q (.int ys.length) H
theorem r_cbInt {tr : TA} (q : tr σ H (intK Q)) : tCB (fun xs H Q => (∃ i, xs = [V.int i] ∧ Q (V.int i) H) ∨ ∃ k, xs = [V.bl k] ∧ Q (V.int (if k = true then 1 else 0)) H) tr σ H Q := q
theorem r_cbAbs {tr : TA} (q : tr σ H (absK Q)) : tCB (fun xs H Q => ∃ i, xs = [V.int i] ∧ Q (V.int (if i < 0 then -i else i)) H) tr σ H Q := q
theorem r_cbLen {tr : TA} (q : tr σ H (lenK K Q)) : tCB (fun xs H Q => ∃ p ys, xs = [V.ref p] ∧ (SqL K H p ys ∨ SqT K H p ys) ∧ Q (V.int ys.length) H) tr σ H Q := q
theorem r_intI (q : Q (.int j) H) : intK Q [.int j] H := .inl ⟨_, rfl, q⟩
theorem r_intB (q : Q (.int (if b = true then 1 else 0)) H) : intK Q [.bl b] H := .inr ⟨_, rfl, q⟩
theorem r_absI (q : Q (.int (if j < 0 then -j else j)) H) : absK Q [.int j] H := ⟨_, rfl, q⟩
theorem r_lenL (h : H p = some (.lst xs)) (q : Q (.int xs.length) H) : lenK K Q [.ref p] H := ⟨_, _, rfl, .inl (SqL.of h), q⟩
end
/-- a place where ways join -/
theorem r_seqJ {D : Ends} {ts tu : TS} {σ : L2.St} {H : Hp} (P : L2.St → Hp → Prop) (h : ∀ N : L2.St → Hp → Prop, (∀ σ' H', P σ' H' → N σ' H') → ts { D with nx := N } σ H) (h2 : ∀ σ' H', P σ' H' → tu D σ' H') : tSeq ts tu D σ H := h (tu D) h2
/-! ### lists of integers against one another -/
theorem dp_ints {K : PySem.W.Frag} {H : Hp} : ∀ xs : List Int, DpAll K H (xs.map V.int) (xs.map PyData.int)
  | [] => .nil
  | x :: xs => .cons (.int x) (dp_ints xs)
theorem can_ints : ∀ xs : List Int, PyData.canLayAll0 (xs.map PyData.int) = true
  | [] => rfl
  | x :: xs => by
    rw [List.map_cons]
    show (PyData.canLay0 (.int x) && PyData.canLayAll0 (xs.map PyData.int)) = true
    rw [can_ints xs]
    rfl
theorem depth_ints : ∀ xs : List Int, PyData.depthAll (xs.map PyData.int) = 0
  | [] => rfl
  | x :: xs => by
    rw [List.map_cons]
    show max (PyData.depth (.int x)) (PyData.depthAll (xs.map PyData.int)) = 0
    rw [depth_ints xs]
    rfl
theorem shaped_ints (xs : List Int) : SeqAt.shaped (.list (xs.map PyData.int)) = true ∧ SeqAt.shaped (.tuple (xs.map PyData.int)) = true := by
  have h1 := can_ints xs
  have h2 := depth_ints xs
  constructor
  · show (PyData.canLayAll0 (xs.map PyData.int) && decide (PyData.depthAll (xs.map PyData.int) + 1 ≤ 64)) = true
    rw [h1, h2]
    rfl
  · show (PyData.canLayAll0 (xs.map PyData.int) && decide (PyData.depthAll (xs.map PyData.int) + 1 ≤ 64)) = true
    rw [h1, h2]
    rfl
theorem eqv_ints : ∀ xs ys : List Int, PyData.eqvAll (xs.map PyData.int) (ys.map PyData.int) = decide (xs = ys)
  | [], [] => rfl
  | [], y :: ys => rfl
  | x :: xs, [] => rfl
  | x :: xs, y :: ys => by
    rw [List.map_cons, List.map_cons]
    show ((x == y) && PyData.eqvAll (xs.map PyData.int) (ys.map PyData.int)) = _
    rw [eqv_ints xs ys]
    by_cases c : x = y <;> simp [c]
/-- xs != ys, lists of integers -/
theorem r_neInts {K : PySem.W.Frag} {H : Hp} {Q : VK} {p q : Addr} {xs ys : List Int} (h1 : H p = some (.lst (xs.map V.int))) (h2 : H q = some (.lst (ys.map V.int))) (k : Q (.bl (!decide (xs = ys))) H) : rNeD K (.ref p) (.ref q) H Q := by
  refine ⟨_, _, .lst (SqL.of h1) (dp_ints xs), .lst (SqL.of h2) (dp_ints ys), (shaped_ints xs).1, (shaped_ints ys).1, ?_⟩
  show Q (.bl (!PyData.eqvAll (xs.map PyData.int) (ys.map PyData.int))) H
  rw [eqv_ints]
  exact k
theorem r_eqInts {K : PySem.W.Frag} {H : Hp} {Q : VK} {p q : Addr} {xs ys : List Int} (h1 : H p = some (.tup (xs.map V.int))) (h2 : H q = some (.tup (ys.map V.int))) (k : Q (.bl (decide (xs = ys))) H) : rEqD K (.ref p) (.ref q) H Q := by
  refine ⟨_, _, .tup (SqT.of h1) (dp_ints xs), .tup (SqT.of h2) (dp_ints ys), (shaped_ints xs).2, (shaped_ints ys).2, ?_⟩
  show Q (.bl (PyData.eqvAll (xs.map PyData.int) (ys.map PyData.int))) H
  rw [eqv_ints]
  exact k
/-! ### all but p is kept -/
def Bu (p : Addr) (H H' : Hp) : Prop := ∀ b o, b ≠ p → H b = some o → H' b = some o
theorem Bu.refl (p : Addr) (H : Hp) : Bu p H H := fun _ _ _ h => h
theorem Bu.trans {p : Addr} {H H1 H2 : Hp} (a : Bu p H H1) (b : Bu p H1 H2) : Bu p H H2 := fun c o n h => b c o n (a c o n h)
theorem Bu.upd {p : Addr} {H : Hp} {o : HO} : Bu p H (upd H p o) := fun b u n h => by rw [upd_ne n]; exact h
theorem Bu.of {p : Addr} {H H' : Hp} (e : Ex H H') : Bu p H H' := fun b o _ h => e b o h
/-- sizes -/
def Z (n : Nat) (i : Int) : Prop := i.natAbs < 2 ^ n
theorem Z.mono {n m : Nat} {i : Int} (h : Z n i) (l : n ≤ m) : Z m i := Nat.lt_of_lt_of_le h (Nat.pow_le_pow_right (by omega) l)
theorem Z.mul {n m : Nat} {i j : Int} (a : Z n i) (b : Z m j) : Z (n + m) (i * j) := wide_lt a b
theorem Z.add {n : Nat} {i j : Int} (a : Z n i) (b : Z n j) : Z (n + 1) (i + j) := by
  unfold Z at *
  have : (2 : Nat) ^ (n + 1) = 2 ^ n + 2 ^ n := by rw [Nat.pow_succ]; omega
  omega
theorem Z.sub {n : Nat} {i j : Int} (a : Z n i) (b : Z n j) : Z (n + 1) (i - j) := by
  unfold Z at *
  have : (2 : Nat) ^ (n + 1) = 2 ^ n + 2 ^ n := by rw [Nat.pow_succ]; omega
  omega
theorem Z.sq {n : Nat} {i : Int} (a : Z n i) : Z (n + n) (i ^ 2) := by rw [int_pow_two]; exact a.mul a
theorem mulOk {n m : Nat} {i j : Int} (a : Z n i) (b : Z m j) (hn : 0 < n) (hm : 0 < m) (h : n + m ≤ 1000000) : CMulW i j := wide_mul a b hn hm h
/-! ### the bag -/
structure Bag (H : Hp) (b : Addr) (n : Int) : Prop where
  is : ∃ (L : Addr) (xs : List Int) (at_ left : Int), H b = some (.lst [.ref L, .int at_, .int left]) ∧ H L = some (.lst (xs.map V.int)) ∧ L ≠ b ∧ 0 ≤ at_ ∧ at_ ≤ n ∧ 0 ≤ left ∧ xs.length ≤ 64 ∧ ∀ x ∈ xs, Z 2000000 x
theorem Bag.ex {H H' : Hp} {b : Addr} {n : Int} (h : Bag H b n) (e : Ex H H') : Bag H' b n := by
  obtain ⟨L, xs, a, l, h1, h2, h3⟩ := h.is
  exact ⟨L, xs, a, l, e _ _ h1, e _ _ h2, h3⟩
theorem Bag.le {H : Hp} {b : Addr} {n m : Int} (h : Bag H b n) (e : n ≤ m) : Bag H b m := by
  obtain ⟨L, xs, a, l, h1, h2, h3, h4, h5, h6⟩ := h.is
  exact ⟨L, xs, a, l, h1, h2, h3, h4, Int.le_trans h5 e, h6⟩
theorem Bag.ne {H : Hp} {b a : Addr} {n : Int} {o : HO} (h : Bag H b n) (ha : H a = some o) (ho : ∀ L x y, o ≠ .lst [.ref L, .int x, .int y]) : a ≠ b := by
  obtain ⟨L, xs, x, y, h1, _⟩ := h.is
  rintro rfl
  rw [ha] at h1
  exact ho _ _ _ (Option.some.inj h1)
/-- what a draw promises -/
def spDraw : Sp := sp2 fun b m H Q _ => ∃ p m' n, b = .ref p ∧ m = .int m' ∧ 0 < m' ∧ Z 1000 m' ∧ n ≤ 100000 ∧ Bag H p n ∧ ∀ r H', 0 ≤ r → r < m' → Bu p H H' → Bag H' p (n + 1) → Q (.int r) H'
theorem r_Draw {H : Hp} {Q : VK} {E : XK} {p : Addr} {m n : Int} (hb : Bag H p n) (hn : n ≤ 100000) (h0 : 0 < m) (hm : Z 1000 m) (k : ∀ r H', 0 ≤ r → r < m → Bu p H H' → Bag H' p (n + 1) → Q (.int r) H') : spDraw ([.ref p, .int m] ++ []) H Q E :=
  ⟨p, m, n, rfl, rfl, h0, hm, hn, hb, k⟩
end GS
/-! Calls by keywords alone; making an instance inside try. -/
namespace GS
open PySem PySem.Spec PyProof.Rows L2 TL
/-- the arguments in the parameters' order -/
def pm (ix : List Nat) {α : Type} (us ws : List α) : List α := ix.filterMap fun i => (us ++ ws)[i]?
theorem pm_vals (ix : List Nat) {vs zs : List V} {us ws : List Value} (a : Vals vs us) (b : Vals zs ws) : Vals (pm ix vs zs) (pm ix us ws) := by
  have c := a.append b
  unfold pm
  generalize vs ++ zs = l at c
  generalize us ++ ws = m at c
  induction ix with
  | nil => exact .nil
  | cons i ix ih =>
    cases h : l[i]? with
    | none =>
      rw [List.filterMap_cons_none h, List.filterMap_cons_none (c.none_of h)]
      exact ih
    | some x =>
      obtain ⟨u, hu, r⟩ := c.get h
      rw [List.filterMap_cons_some h, List.filterMap_cons_some hu]
      exact .cons r ih
theorem kb_of {K : PySem.W.Frag} {x qual : Str} {params : Arguments} {body : List Stmt} {scope : Scope} {kws : List (Str × V)} {f : Addr} {fd : FuncData} {ps : List Str} (F : FunD K x qual params body scope [] kws f fd) (n : Nat) (ks : List Str) (ix : List Nat)
    (h : ∀ (kV doc pmv : Value) (an : Option Addr) (cdv ct : Value) (us ws : List Value), us.length = n → ws.length = ks.length → bindArgs (PySem.W.fnOf x qual params body scope .none kV doc pmv an cdv ct) ⟨us, ks.zip ws⟩ = pure (ps.zip (pm ix us ws))) : KBn K fd ps n ks (pm ix) (pm ix) := by
  obtain ⟨oc, od, dV, kV, doc, pmv, an, cdv, ct, osl, rfl, lk, hcd, hD, hK⟩ := F.ex
  rcases hD with ⟨-, rfl⟩ | ⟨no, -⟩
  · exact ⟨fun s us ws _ l1 l2 => .of_eq (h kV doc pmv an cdv ct us ws l1 l2), pm_vals ix⟩
  · exact absurd rfl no
section
variable {X : Cx} {CX : CXT} {k : Nat} {f C : Addr} {fd : FuncData} {ps ks : List Str} {sp : Sp} {x : Str} {p pos : Pos} {g : List Value → List Value → List Value} {gV : List V → List V → List V}
/-- f(k = v, ..) -/
theorem pe_callK0 {E : XK} {kws : List Keyword} {tk : TA} (F : FnOk X.prog X.w X.K X.mg X.base CX k f fd ps sp) (hr : Room k X.A) (hg : Gl X x) (hm : X.mg x = some (.ref f)) (keep : PySem.W.keepIn X.K (.ref f) = true) (kb : KBn X.K fd ps 0 ks g gV) (hx : Passes CX X E) (hw : PK X kws tk)
    (named : (backToKw pos (keywordEach kws X.env)).all (·.1.isSome) = true := by rfl) (names : (backToKw pos (keywordEach kws X.env)).filterMap (·.1) = ks := by rfl) (nodb : (x == ("__debug__" : Str)) = false := by decide)
    (plain : ((backTo pos (starEach [] X.env)).any (·.1) || (backToKw pos (keywordEach kws X.env)).any (·.1.isNone)) = false := by rfl) : PE X (.Call (.Name x p) [] kws pos) (tCallN 0 ks.length sp gV E tNil tk) := by
  refine ⟨fun pins s σ H Q I h => wpAny_Call_Name_kw (ld_glob I hg hm ?_ nodb)⟩
  refine PySem.W.callWith_KW0 (h₀ := X.base) I.ok.mod.kin keep named (thn (hw.run pos pins s σ H _ I h) fun ws s2 ⟨zs, H2, I2, rz, m1, m2, q⟩ => ⟨I2.kIn, ?_⟩) plain
  rw [names]
  exact run_fnN F hr kb hx I2 .nil rz m1 m2 q
/-- C(e, ..) inside try: what passes may lean on the slots -/
def tMakeS (C : Addr) (sp : Sp) (E : L2.St → XK) (t : TA) : TE := fun σ H Q => t σ H (mkK C sp (E σ) Q)
theorem pe_makeS {E : L2.St → XK} {e : Expr} {es : List Expr} {t : TA} (M : Mk X.K C f) (F : FnOk X.prog X.w X.K X.mg X.base CX k f fd ps sp) (hr : Room (k + 1) X.A) (hg : Gl X x) (hm : X.mg x = some (.ref C)) (hb : Binds X.K fd ps []) (hx : ∀ σ, PassesAt CX X σ (E σ)) (ha : PA X (e :: es) t)
    (nodb : (x == ("__debug__" : Str)) = false := by decide) (st : starEach (e :: es) X.env = (false, eval e X.env) :: starEach es X.env := by rfl) (plain : (backTo pos (starEach es X.env)).any (·.1) = false := by rfl) :
    PE X (.Call (.Name x p) (e :: es) [] pos) (tMakeS C sp E t) := by
  refine ⟨fun pins s σ H Q I h => wpAny_Call_Name_kw (ld_glob I hg hm ?_ nodb)⟩
  refine PySem.W.callWith_K (h₀ := X.base) I.ok.mod.kin M.kp (thn (ha.run pos pins s σ H _ I h) fun us s1 ⟨vs, H1, I1, r, q⟩ => ⟨I1.kIn, ?_⟩) st plain
  have n0 := I1.hok.fresh (Nat.le_refl s1.heap.objs.size)
  have n1 := I1.hok.fresh (Nat.le_succ s1.heap.objs.size)
  have w1 := q _ _ n1 n0 (Nat.ne_of_lt (Nat.lt_succ_self _))
  have J := Inv.made (C := C) I1
  have rs : Vals (V.ref (s1.heap.objs.size + 1) :: (vs ++ [])) (Value.ref (s1.heap.objs.size + 1) :: us) := by
    rw [List.append_nil]
    exact .cons rfl r
  have many : (Value.ref (s1.heap.objs.size + 1) :: us).length = ps.length := rs.length.symm.trans (F.len _ _ _ _ w1)
  have bound := hb _ (Value.ref (s1.heap.objs.size + 1) :: us) J.kIn (by rw [List.append_nil]; exact many)
  rw [List.append_nil] at bound
  refine wpAny_call (make_map (f := f) I1.kIn M.makes M.init (beq_iff_eq.mp M.fn) (codeAny_mono (F.run _ X.stack _ _ ⟨_ :: us, []⟩ _ _ _ (E σ) (hr.make C us []) (J.env0.make C us []) bound rs w1) fun out s' got => ?_))
  match out, got with
  | .error y, got => exact hx σ pins _ _ y s' J got
  | .ok (.ret u), got =>
    obtain ⟨v, H3, J3, rv, ⟨nv, fine⟩⟩ := J.after got
    rw [nv] at rv
    exact ⟨rv, V.ref (s1.heap.objs.size + 1), H3, J3, rfl, fine⟩
/-! steps -/
variable {σ : L2.St} {H : Hp} {Q : VK} {E : XK} {m : Nat} {t tk : TA}
def clKN (m : Nat) (sp : Sp) (gV : List V → List V → List V) (E : XK) (Q : VK) : List V → Hp → Prop := fun zs H2 => ([] : List V).length = 0 ∧ zs.length = m ∧ sp (gV [] zs) H2 Q E
theorem r_callN0 (q : tk σ H (clKN m sp gV E Q)) : tCallN 0 m sp gV E tNil tk σ H Q := q
theorem r_clKN {zs vs : List V} (l : zs.length = m) (e : gV [] zs = vs) (q : sp (vs ++ []) H Q E) : clKN m sp gV E Q zs H := ⟨rfl, l, by rw [e]; rwa [List.append_nil] at q⟩
def mkKN (m : Nat) (C : Addr) (sp : Sp) (gV : List V → List V → List V) (E : XK) (Q : VK) : List V → Hp → Prop := fun zs H2 => ([] : List V).length = 0 ∧ zs.length = m ∧ ∀ x dx, H2 x = none → H2 dx = none → dx ≠ x → sp (gV [.ref x] zs) (upd (upd H2 dx (.own x)) x (.ins C dx [])) (fun v H3 => v = .non ∧ Q (.ref x) H3) E
theorem r_makeK0 (q : tk σ H (mkKN m C sp gV E Q)) : tMakeK C 0 m sp gV E tNil tk σ H Q := q
theorem r_mkKN {zs vs : List V} (l : zs.length = m) (e : ∀ x, gV [.ref x] zs = .ref x :: (vs ++ [])) (q : mkK C sp E Q vs H) : mkKN m C sp gV E Q zs H := ⟨rfl, l, fun x dx h1 h2 h3 => by rw [e]; exact q x dx h1 h2 h3⟩
theorem r_makeS {E : L2.St → XK} (q : t σ H (mkK C sp (E σ) Q)) : tMakeS C sp E t σ H Q := q
theorem r_callS {E : L2.St → XK} (q : t σ H fun vs H1 => sp vs H1 Q (E σ)) : tCallS sp E t σ H Q := q
end
theorem r_gCons {g : TG} {gs : TGs} {x : V} {xs : List V} {σ : L2.St} {H : Hp} {N : L2.St → Hp → Prop} (q : g x σ H fun σ' H' => gs xs σ' H' N) : gCons g gs (x :: xs) σ H N := ⟨x, xs, rfl, q⟩
theorem r_gNil {σ : L2.St} {H : Hp} {N : L2.St → Hp → Prop} (q : N σ H) : gNil [] σ H N := ⟨rfl, q⟩
theorem r_gName {n : Nat} {x : V} {σ : L2.St} {H : Hp} {N : L2.St → Hp → Prop} (q : N (σ.set n (some x)) H) : gName n x σ H N := q
theorem r_gTup {K : PySem.W.Frag} {n : Nat} {gs : TGs} {p : Addr} {xs : List V} {σ : L2.St} {H : Hp} {N : L2.St → Hp → Prop} (h : H p = some (.tup xs)) (l : xs.length = n) (q : gs xs σ H N) : gTup K n gs (.ref p) σ H N := ⟨p, xs, rfl, SqT.of h, l, q⟩
/-- a, b = c, d -/
def parK (i j : Nat) (σ : L2.St) (N : L2.St → Hp → Prop) : List V → Hp → Prop := fun vs H1 => ∃ v w, vs = [v, w] ∧ N ((σ.set i (some v)).set j (some w)) H1
theorem r_par {i j : Nat} {ta : TA} {D : Ends} {σ : L2.St} {H : Hp} (q : ta σ H (parK i j σ D.nx)) : tPar i j ta D σ H := q
theorem r_parK {i j : Nat} {N : L2.St → Hp → Prop} {σ : L2.St} {H : Hp} {v w : V} (q : N ((σ.set i (some v)).set j (some w)) H) : parK i j σ N [v, w] H := ⟨v, w, rfl, q⟩
/-! clauses -/
theorem r_wAs {D : Ends} {c : Value} {i : Nat} {ts : Addr → Value → Option Addr → TS} {a : Addr} {cls : Value} {d : Option Addr} {σ : L2.St} {H : Hp} (q : ts a cls d (asEnds i D) (σ.set i (some (.ref a))) H) : wCl D (c, some i, ts) a cls d σ H := q
theorem r_cl1 {K : PySem.W.Frag} {Wout : WX} {D : Ends} {c : Value} {o : Option Nat} {ts : Addr → Value → Option Addr → TS} {r : List Cl} {cls : Value} {d : Option Addr} {σ : L2.St} {H : Hp} (y : PySem.W.exmOne K cls c = some true) (q : ∀ a, H a = none → wCl D (c, o, ts) a cls d σ H) : wCls K Wout D ((c, o, ts) :: r) cls d σ H := ⟨true, y, fun _ => q, fun z => by cases z⟩
theorem r_cl0 {K : PySem.W.Frag} {Wout : WX} {D : Ends} {c : Value} {o : Option Nat} {ts : Addr → Value → Option Addr → TS} {r : List Cl} {cls : Value} {d : Option Addr} {σ : L2.St} {H : Hp} (n : PySem.W.exmOne K cls c = some false) (q : wCls K Wout D r cls d σ H) : wCls K Wout D ((c, o, ts) :: r) cls d σ H := ⟨false, n, fun z => (by cases z), fun _ => q⟩
theorem r_xf {a C dd : Addr} {f : Str} {te : TE} {σ : L2.St} {H : Hp} {Q : VK} {fs : List (Str × V)} {v : V} (h : H dd = some (.xd fs)) (l : fs.lookup f = some v) (s : te σ H (fun x H1 => x = .ref a ∧ H1 = H)) (m : ∀ {P P' : VK}, te σ H P → (∀ x H1, P x H1 → P' x H1) → te σ H P') (q : Q v H) : tXf a (.ref C) (some dd) C f te σ H Q :=
  m s fun x H1 e => ⟨e.1, rfl, dd, fs, v, rfl, by rw [e.2]; exact h, l, by rw [e.2]; exact q⟩
theorem r_smeth {C : Addr} {sp : Sp} {E : XK} {t : TA} {σ : L2.St} {H : Hp} {Q : VK} (q : t σ H fun vs H2 => sp vs H2 Q E) : tSMeth C sp E (tC (.ref C)) t σ H Q := ⟨rfl, q⟩
theorem r_yes {σ : L2.St} {H : Hp} {R : Bool → Hp → Prop} (q : R true H) : tYes σ H R := q
/-- each turn gives a new tuple of the same items -/
theorem r_lcT {J : It} {n : Nat} {G : Hp → Prop} {Y : Nat → Hp → V → Hp → Prop} {k : Nat} {te : TE} {σ : L2.St} {H1 : Hp} {Q : VK} (w : Walk J n G Y) (o : List V) (hn : n ≤ 50000) (hG : ∀ H' : Hp, Ex H1 H' → G H')
    (hw : ∀ x, wipe ((wipe σ [k]).set k (some x)) [k] = wipe σ [k])
    (he : ∀ i x H H', i < n → Ex H1 H → Y i H x H' → Ex H H' ∧ ∀ R : VK, (∀ t H4, Ex H' H4 → H4 t = some (.tup o) → R (.ref t) H4) → te ((wipe σ [k]).set k (some x)) H' R)
    (q : ∀ p ys H', H1 p = none → Ex H1 H' → H' p = some (.lst ys) → ys.length = n → (∀ y ∈ ys, ∃ t, y = .ref t ∧ H' t = some (.tup o)) → Q (.ref p) H') : lcB J (gName k) tYes te [k] σ Q H1 := by
  intro D hD
  refine lc_it w (fun i H => Ex H1 H ∧ ∃ ys, H D = some (.lst ys) ∧ ys.length = i ∧ ∀ y ∈ ys, ∃ t, y = .ref t ∧ H t = some (.tup o)) ⟨Ex.mut (Ex.refl _) hD, [], upd_same, rfl, fun _ z => by cases z⟩ (fun i H _ p => hG H p.1) ?_ (fun H p => let ⟨ys, h1, h2, h3⟩ := p.2; q D ys H hD p.1 h1 h2 h3)
  intro i x H H' hi p y
  obtain ⟨p1, ys, p2, p3, p4⟩ := p
  obtain ⟨e1, hte⟩ := he i x H H' hi p1 y
  refine ⟨hw x, ?_⟩
  refine r_yes ?_
  rw [if_pos rfl]
  refine hte _ fun t H4 e4 h4 => ⟨ys, e4 _ _ (e1 _ _ p2), sz_lt (by omega), Ex.mut ((p1.trans e1).trans e4) hD, ys ++ [.ref t], upd_same, (by rw [List.length_append, p3]; rfl), fun z hz => ?_⟩
  have keep' : ∀ {t : Addr} (l : List V), H4 t = some (.tup o) → upd H4 D (.lst l) t = some (.tup o) := fun {t} l ht => by
    rw [upd_ne (fun e => ?_)]
    · exact ht
    · rw [e, e4 _ _ (e1 _ _ p2)] at ht
      cases ht
  rcases List.mem_append.mp hz with hz | hz
  · obtain ⟨t', rfl, ht'⟩ := p4 z hz
    exact ⟨t', rfl, keep' _ (e4 _ _ (e1 _ _ ht'))⟩
  · obtain rfl := List.mem_singleton.mp hz
    exact ⟨t, rfl, keep' _ h4⟩
/-- the same, the items told by the turn -/
theorem r_lcI {J : It} {n : Nat} {G : Hp → Prop} {Y : Nat → Hp → V → Hp → Prop} {k : Nat} {te : TE} {σ : L2.St} {H1 : Hp} {Q : VK} (w : Walk J n G Y) (o : Nat → List V) (hn : n ≤ 50000) (hG : ∀ H' : Hp, Ex H1 H' → G H')
    (hw : ∀ x, wipe ((wipe σ [k]).set k (some x)) [k] = wipe σ [k])
    (he : ∀ i x H H', i < n → Ex H1 H → Y i H x H' → Ex H H' ∧ ∀ R : VK, (∀ t H4, Ex H' H4 → H4 t = some (.tup (o i)) → R (.ref t) H4) → te ((wipe σ [k]).set k (some x)) H' R)
    (q : ∀ p ys H', H1 p = none → Ex H1 H' → H' p = some (.lst ys) → ys.length = n → (∀ i y, ys[i]? = some y → ∃ t, y = .ref t ∧ H' t = some (.tup (o i))) → Q (.ref p) H') : lcB J (gName k) tYes te [k] σ Q H1 := by
  intro D hD
  refine lc_it w (fun i H => Ex H1 H ∧ ∃ ys, H D = some (.lst ys) ∧ ys.length = i ∧ ∀ j y, ys[j]? = some y → ∃ t, y = .ref t ∧ H t = some (.tup (o j))) ⟨Ex.mut (Ex.refl _) hD, [], upd_same, rfl, fun j y z => by simp at z⟩ (fun i H _ p => hG H p.1) ?_ (fun H p => let ⟨ys, h1, h2, h3⟩ := p.2; q D ys H hD p.1 h1 h2 h3)
  intro i x H H' hi p y
  obtain ⟨p1, ys, p2, p3, p4⟩ := p
  obtain ⟨e1, hte⟩ := he i x H H' hi p1 y
  refine ⟨hw x, ?_⟩
  refine r_yes ?_
  rw [if_pos rfl]
  refine hte _ fun t H4 e4 h4 => ⟨ys, e4 _ _ (e1 _ _ p2), sz_lt (by omega), Ex.mut ((p1.trans e1).trans e4) hD, ys ++ [.ref t], upd_same, (by rw [List.length_append, p3]; rfl), fun j z hz => ?_⟩
  have keep' : ∀ {t : Addr} {u : List V} (l : List V), H4 t = some (.tup u) → upd H4 D (.lst l) t = some (.tup u) := fun {t u} l ht => by
    rw [upd_ne (fun e => ?_)]
    · exact ht
    · rw [e, e4 _ _ (e1 _ _ p2)] at ht
      cases ht
  by_cases hj : j < ys.length
  · rw [List.getElem?_append_left hj] at hz
    obtain ⟨t', rfl, ht'⟩ := p4 j z hz
    exact ⟨t', rfl, keep' _ (e4 _ _ (e1 _ _ ht'))⟩
  · rw [List.getElem?_append_right (by omega)] at hz
    have : j - ys.length = 0 := by
      have := (List.getElem?_eq_some_iff.mp hz).1
      simp at this
      omega
    rw [this] at hz
    have hz' : V.ref t = z := Option.some.inj hz
    have : j = i := by omega
    subst this
    exact ⟨t, hz'.symm, keep' _ h4⟩
/-- the body of a for's reading -/
def forB (J : It) (g : TG) (tb : TS) (D : Ends) (σ : L2.St) (H1 : Hp) : Prop := ∃ W : Nat → Nat → L2.St → Hp → Prop, (∃ m, W 0 m σ H1) ∧ ∀ i m σ H, W i m σ H →
  (J.stop i H ∧ D.nx σ H) ∨ (J.go i H ∧ ∃ N : L2.St → Hp → Prop, (∀ σ' H', N σ' H' → ∃ m', m' < m ∧ W (i + 1) m' σ' H') ∧ ∀ x H', J.yld i H x H' → g x σ H' fun σ2 H2 => tb { D with nx := N, ct := N, bk := D.nx } σ2 H2)
theorem r_for {wi : TI} {g : TG} {tb : TS} {D : Ends} {σ : L2.St} {H : Hp} (q : wi σ H fun J H1 => forB J g tb D σ H1) : tFor wi g tb D σ H := q
theorem for_of {J : It} {n : Nat} {G : Hp → Prop} {Y : Nat → Hp → V → Hp → Prop} (w : Walk J n G Y) {g : TG} {tb : TS} {D : Ends} {σ : L2.St} {H : Hp} (Pv : Nat → L2.St → Hp → Prop) (h0 : Pv 0 σ H) (hG : ∀ i σ H, i ≤ n → Pv i σ H → G H)
    (hs : ∀ i x σ H H', i < n → Pv i σ H → Y i H x H' → g x σ H' fun σ2 H2 => tb { D with nx := Pv (i + 1), ct := Pv (i + 1), bk := D.nx } σ2 H2) (hd : ∀ σ H, Pv n σ H → D.nx σ H) : forB J g tb D σ H := for_it w Pv h0 hG hs hd
theorem cr_isi {X : Cx} {K : PySem.W.Frag} (h : X.K = K) : CallR X (.builtin "isinstance") (rIsi K) := by
  subst h
  exact call_isi
end GS
/-! any(..) of integers. -/
namespace GS
open PySem PySem.Spec PyProof.Rows L2 TL
theorem truthOf_ints {prog : Program} {w : World} {A : Around} {ns : List Int} {its : List Value} (r : Vals (ns.map V.int) its) : TruthOf prog w A (fun i v => its.toArray[i]? = some v) (fun i => ns.getD i 0 != 0) := fun i v s Q E hv hq => by
  have there : its[i]? = some v := by simpa using hv
  have hl := r.length
  rw [List.length_map] at hl
  have hi : i < ns.length := by have := (List.getElem?_eq_some_iff.mp there).1; omega
  obtain ⟨u, hu, t, e⟩ := r.get (i := i) (x := V.int ns[i]) (by simp [hi])
  rw [there] at hu
  cases hu
  rw [e]
  have g : ns.getD i 0 = ns[i] := by simp [hi]
  simp only [g] at hq
  exact truthy_int hq
theorem any_getD (ns : List Int) : ((List.range ns.length).any fun i => ns.getD i 0 != 0) = ns.any (· != 0) := by
  induction ns with
  | nil => rfl
  | cons n ns ih =>
    rw [List.length_cons, List.range_succ_eq_map, List.any_cons, List.any_map, List.any_cons, ← ih]
    rfl
def rAnyI (K : PySem.W.Frag) : List V → Hp → VK → Prop := fun vs H Q => ∃ (a : Addr) (ns : List Int), vs = [V.ref a] ∧ (SqL K H a (ns.map V.int) ∨ SqT K H a (ns.map V.int)) ∧ Q (.bl (ns.any (· != 0))) H
theorem cr_anyI {X : Cx} {K : PySem.W.Frag} (hk : X.K = K) (calm : X.calm = true) : CallR X (.builtin "any") (rAnyI K) := by
  subst hk
  intro pins s σ H vs us Q I r got
  obtain ⟨a, ns, rfl, hs, q⟩ := got
  rw [Vals.ref1 r]
  have close : ∀ {its : List Value}, Vals (ns.map V.int) its → ∀ (n : Addr) {ob : Obj} (h' : Heap) (tk : Tok), n = s.heap.objs.size → (∀ b o, b ∉ [n] → (s.heap.push ob).get? b = some o → h'.get? b = some o) →
      EP X pins σ Q (.bool ((List.range its.toArray.size).any fun i => ns.getD i 0 != 0)) { s with heap := h', toks := tk } := by
    intro its rv n ob h' tk en kept
    have sz : its.toArray.size = ns.length := by rw [List.size_toArray, ← rv.length, List.length_map]
    rw [sz, any_getD]
    refine ⟨.bl _, H, I.kept fun b o eo => kept b o (fun hm => ?_) (Heap.get?_push_of_some _ eo), rfl, q⟩
    rw [List.mem_singleton.mp hm, en] at eo
    exact absurd (Heap.lt_size eo) (Nat.lt_irrefl _)
  rcases hs with hs | hs
  · obtain ⟨its, rv, hl, _⟩ := I.list hs
    refine call_any_walk (iter_any hl.isList fun s₂ e2 st ne => ?_)
    rw [e2] at st ⊢
    exact ⟨_, _, _, _, _, _, _, rfl, Walks.list (A := X.A.in1) (I.ok.hd calm) _ a ne its.toArray, st, truthOf_ints rv, fun h' tk hk => close rv _ h' tk rfl hk⟩
  · obtain ⟨its, rv, ht, _⟩ := I.tuple hs
    refine call_any_walk (iter_tuple ht ?_)
    exact ⟨_, _, _, _, _, _, _, rfl, Walks.tuple (A := X.A.in1) (I.ok.hd calm) _ a (Nat.ne_of_lt ht.lt) its.toArray, ⟨⟨_, Heap.get?_push_size _ rfl, rfl, rfl⟩, ht.push _⟩, truthOf_ints rv, fun h' tk hk => close rv _ h' tk rfl hk⟩
end GS
/-! enumerate(tuple). -/
namespace GS
open PySem PySem.Spec PyProof.Rows L2 TL
/-- the tuple at a, each item with its place in a new pair -/
def IteT (K : PySem.W.Frag) (a : Addr) : It where
  go := fun i H => ∃ (xs : List V) (x : V), SqT K H a xs ∧ xs[i]? = some x
  yld := fun i H v H' => ∃ T x, v = .ref T ∧ H T = none ∧ H' = upd H T (.tup [.int (i : Nat), x]) ∧ ∀ xs, SqT K H a xs → xs[i]? = some x
  stop := fun i H => ∃ xs : List V, SqT K H a xs ∧ xs.length ≤ i
/-- a tuple's iterator that is at its end -/
theorem draws_end {prog : Program} {w : World} {A : Around} (hh : A.handled = none) (it t : Addr) (items : Array Value) (n : Nat) (hn : items[n]? = none) (ne : t ≠ it) :
    Draws prog w A it [it, t] n (fun _ _ => False) (fun j h => j = n ∧ h.IsTupleIter it t n ∧ h.IsTuple t items) where
  live := fun _ _ st => let ⟨o, ho, _⟩ := st.2.1; ⟨o, ho⟩
  frame := fun _ _ _ st kept => ⟨st.1, st.2.1.at fun o q => kept it (by simp) o q, st.2.2.at fun o q => kept t (by simp) o q⟩
  item := fun i s Q E hi st _ => absurd st.1 (Nat.ne_of_lt hi)
  done := fun s Q E st out => wpAny_nextOf_tuple_end hh st.2.1 st.2.2 hn out
theorem turn_enumT {P : Program} {w : World} {K : PySem.W.Frag} {elts : List Expr} {kk : Nat} {tpos : Pos} (a e it : Addr) :
    Turn P w K (.Tuple elts kk tpos) (IteT K a) [e, it] e (fun i h => (∃ old, IsEnum h e it ((i : Nat) : Int) old) ∧ h.IsTupleIter it a i ∧ e ≠ it ∧ a ≠ it ∧ a ≠ e) where
  mem := by simp
  obj := by
    intro i h st b hb
    obtain ⟨⟨old, he⟩, ⟨o, ho, hc, hd⟩, -, -, -⟩ := st
    rcases List.mem_cons.mp hb with rfl | hb
    · exact ⟨_, he, fun v q => nomatch q⟩
    · rw [List.mem_singleton.mp hb]
      exact ⟨o, ho, fun v q => by rw [hd] at q; cases q⟩
  keep := by
    intro i h h' st k
    obtain ⟨⟨old, he⟩, hi, ns⟩ := st
    exact ⟨⟨old, k e (by simp) _ he⟩, hi.at fun o q => k it (by simp) o q, ns⟩
  item := by
    intro X hP hw hK hc i pins s σ H E I hf st hg
    subst hP hw hK
    obtain ⟨⟨old, he⟩, hit, hne, ha1, ha2⟩ := st
    obtain ⟨xs, x, hq, hx⟩ := hg
    obtain ⟨its, rv, tp, hz⟩ := I.tuple hq
    obtain ⟨u, hu, ru⟩ := rv.get hx
    have hlt : i < its.toArray.size := by
      have := (List.getElem?_eq_some_iff.mp hu).1
      simpa using this
    have elt := Heap.lt_size he
    have ilt : it < s.heap.objs.size := by
      obtain ⟨_, q, _⟩ := hit
      exact Heap.lt_size q
    refine wpAny_pyNext_enum_itemD (Draws.tuple (A := X.A.in1) (I.ok.hd hc) it a ha1 its.toArray) he ⟨hit, tp⟩ hlt hne (by simp [hne, Ne.symm ha2]) fun x' h' tk hp ho st' hT hsz hk => ?_
    have : x' = u := by
      have hp' : its[i]? = some x' := by simpa using hp
      rw [hu] at hp'
      exact (Option.some.inj hp').symm
    subst this
    refine ⟨_, rfl, wpAny_letOwnedTupleGo_enum (s := { s with heap := h', toks := tk + 1 }) ho fun h2 he2 sb => ?_⟩
    have hT2 : h2.get? s.heap.objs.size = some { cls := .type "tuple", data := .seq #[.int i tk, x'] } := (sb.2 _ (Nat.ne_of_gt elt)).trans hT
    have pair : ObjOk X.prog X.w (upd H s.heap.objs.size (.tup [.int (i : Nat), x])) h2 s.heap.objs.size (.tup [.int (i : Nat), x]) := by
      refine ⟨?_, [.int i tk, x'], .cons ⟨_, rfl⟩ (.cons ru .nil), ⟨_, hT2, rfl, _, rfl⟩⟩
      show 2 ≤ sizeLine
      decide
    have J : Inv X pins σ (upd H s.heap.objs.size (.tup [.int (i : Nat), x])) { s with heap := h2, toks := tk + 1 } := by
      refine I.turnedNew (ch := [e, it]) (fun b ob hb q => ?_) hf (Nat.le_refl _) pair
      have n1 : b ≠ e := fun z => hb (by simp [z])
      have n2 : b ≠ it := fun z => hb (by simp [z])
      exact (sb.2 b n1).trans (hk b ob n1 n2 q)
    refine ⟨.ref s.heap.objs.size, _, J, rfl, ⟨_, x, rfl, I.hok.fresh (Nat.le_refl _), rfl, fun ys hy => by rw [I.tuple_inj hy hq]; exact hx⟩, ⟨⟨x', ?_⟩, st'.1.at fun o q => (sb.2 it (Ne.symm hne)).trans q, hne, ha1, ha2⟩, fun b hb => ?_⟩
    · rw [show ((i + 1 : Nat) : Int) = (i : Int) + 1 by omega]
      exact he2
    · have below : b < s.heap.objs.size := by
        rcases List.mem_cons.mp hb with rfl | hb
        · exact elt
        · rw [List.mem_singleton.mp hb]
          exact ilt
      rw [upd_ne (Nat.ne_of_lt below)]
      exact (hf b hb).1
  done := by
    intro X hP hw hK hc i pins s σ H E I hf st hg
    subst hP hw hK
    obtain ⟨⟨old, he⟩, hit, hne, ha1, ha2⟩ := st
    obtain ⟨xs, hq, hx⟩ := hg
    obtain ⟨its, rv, tp, hz⟩ := I.tuple hq
    obtain ⟨f0, f1, f2, f3, f4, f5⟩ := hf it (by simp)
    have hl := rv.length
    have off : its.toArray[i]? = none := by
      rw [List.getElem?_toArray]
      exact List.getElem?_eq_none (by omega)
    refine wpAny_pyNext_enum_endD (draws_end (A := X.A.in1) (I.ok.hd hc) it a its.toArray i off ha1) he ⟨rfl, hit, tp⟩ fun h' eb => ⟨rfl, ?_⟩
    exact I.turned (t' := s.toks) (fun b o hb q => eb b o hb q) f0 f1 f3 f4 f5
  self := fun A i s Q E st h => let ⟨⟨_, he⟩, _⟩ := st; wpAny_pyIter_enum he h
set_option maxHeartbeats 4000000 in
theorem meets_enum1 {v : Value} {o : Obj} {Hp' : Heap → Prop} (B : Begins v o Hp') :
    Meets (Builtin.«enumerate.__new__» ⟨[.type "enumerate", v], []⟩) (fun _ R s => Hp' s.heap ∧
      R (.ok (.ret (.ref (s.heap.push o).objs.size))) { s with heap := (s.heap.push o).push { cls := .type "enumerate", data := .fields #[.none, .bool false, .ref s.heap.objs.size, rawInt 0, .none, .none] } }) :=
  .of_wp fun prog w A R s both => by
    obtain ⟨hp, g, d, tk, os⟩ := s
    obtain ⟨begun, fin⟩ := both
    have sub := sub_enumerate
    have step : ∀ {A' : Around} {E : Value → Shared → Prop} {Q : Value → Shared → Prop}, Q (.ref hp.objs.size) ⟨hp.push o, g, d, tk, os⟩ → wpAny (model prog w) A' (pyIter v) Q E ⟨hp, g, d, tk, os⟩ := fun q => B.iter prog w _ _ ⟨hp, g, d, tk, os⟩ _ begun q
    wp_walk using step
    refine wpAny_stack_any fun st => wpAny_pure ?_
    split
    · rename_i c _ _ _ _ _
      cases (c == Value.type "enumerate") <;> (wp_walk using step; exact ⟨_, rfl, fin⟩)
    · wp_walk using step
      exact ⟨_, rfl, fin⟩
/-- enumerate(v): its two new cells -/
theorem enum1_begins {prog : Program} {w : World} {A : Around} {E : Value → Shared → Prop} {s : Shared} {v : Value} {o : Obj} {Hp' : Heap → Prop} {Q : Value → Shared → Prop} (B : Begins v o Hp') (begun : Hp' s.heap)
    (q : ∀ h', IsEnum h' (s.heap.objs.size + 1) s.heap.objs.size 0 .none → h'.get? s.heap.objs.size = some o → (∀ b o, s.heap.get? b = some o → h'.get? b = some o) → Q (.ref (s.heap.objs.size + 1)) { s with heap := h' }) :
    wpAny (model prog w) A (call (.type "enumerate") [v]) Q E s := by
  refine callType_new F.called_enumerate (by decide) (F.typeCall_enumerate_1 _) (F.newCall_enumerate_1 _) (fun obj => F.args_object_init_2 obj _) F.entry_enumerate_new (meets_enum1 B) ⟨begun, ?_⟩
  have sz : (s.heap.push o).objs.size = s.heap.objs.size + 1 := Heap.size_push ..
  have new := Heap.get?_push_size (s.heap.push o) (o := { cls := .type "enumerate", data := .fields #[.none, .bool false, .ref s.heap.objs.size, rawInt 0, .none, .none] }) rfl
  show _ ∧ _
  rw [sz] at new ⊢
  refine ⟨⟨_, new, rfl⟩, q _ new ?_ fun b o x => ?_⟩
  · exact Heap.get?_push_of_some _ (Heap.get?_push_size _ B.free)
  · exact Heap.get?_push_of_some _ (Heap.get?_push_of_some _ x)
def iEnumT (K : PySem.W.Frag) (ta : TA) : TI := fun σ H R => ta σ H fun vs H1 => ∃ a xs, vs = [.ref a] ∧ SqT K H1 a xs ∧ R (IteT K a) H1
theorem pi_enumT {X : Cx} {e : Expr} {ta : TA} {p pos tpos : Pos} {elts : List Expr} {kk : Nat} (free : Gl X "enumerate") (none : X.mg "enumerate" = none) (ha : PA X [e] ta) (st : starEach [e] X.env = [(false, eval e X.env)] := by rfl) :
    PI X (.Tuple elts kk tpos) (.Call (.Name "enumerate" p) [e] [] pos) (iEnumT X.K ta) := by
  refine ⟨fun pins s σ H R I h => Call_ (ld_blt I free none boot_enumerate (PyProof.Rows.callWith_type1 (thn (ha.run pos pins s σ H _ I h) fun us s1 ⟨vs, H1, I1, r1, q1⟩ => ?_) st rfl))⟩
  obtain ⟨a, xs, rfl, hq, q⟩ := q1
  rw [Vals.ref1 r1]
  obtain ⟨its, rv, tp, hz⟩ := I1.tuple hq
  refine enum1_begins (begins_tuple a its.toArray) tp fun h' he hit hk => wpAny_pyIter_enum he ?_
  have J : Inv X pins σ H1 { s1 with heap := h' } := I1.kept (t' := s1.toks) hk
  have lt := tp.lt
  refine ⟨s1.heap.objs.size + 1, [s1.heap.objs.size + 1, s1.heap.objs.size], _, _, H1, rfl, J, turn_enumT a (s1.heap.objs.size + 1) s1.heap.objs.size, ⟨⟨.none, he⟩, ⟨_, hit, rfl, rfl⟩, Nat.succ_ne_self _, Nat.ne_of_lt lt, Nat.ne_of_lt (Nat.lt_succ_of_lt lt)⟩, fun b hb => ?_, q⟩
  have above : s1.heap.objs.size ≤ b := by
    rcases List.mem_cons.mp hb with rfl | hb
    · exact Nat.le_succ _
    · rw [List.mem_singleton.mp hb]
      exact Nat.le_refl _
  exact I1.fpOk above (I1.hok.fresh above)
theorem walk_enumT {K : PySem.W.Frag} {a : Addr} {xs : List V} : Walk (IteT K a) xs.length (fun H => SqT K H a xs) (YPair (fun i => some (.int (i : Nat))) (fun i => xs[i]?)) :=
  ⟨fun i _ hi q => ⟨xs, xs[i], q, by simp [hi]⟩, fun _ q => ⟨xs, q, Nat.le_refl _⟩, fun i H v H' hi q y => let ⟨T, x, e1, e2, e3, e4⟩ := y; ⟨T, _, x, e1, e2, e3, rfl, e4 xs q⟩⟩
end GS
/-! Several except clauses, each of one class or of a tuple of classes, with or without «as n». -/
namespace GS
open PySem PySem.Spec PyProof.Rows L2 TL
abbrev MCl := List Value × Option Nat × (Addr → Value → Option Addr → TS)
def wMCl (D : Ends) (q : MCl) (a : Addr) (cls : Value) (d : Option Addr) (σ : L2.St) (H : Hp) : Prop := match q.2.1 with
  | none => q.2.2 a cls d D σ H
  | some i => q.2.2 a cls d (asEnds i D) (σ.set i (some (.ref a))) H
def wMCls (K : PySem.W.Frag) (Wout : WX) (D : Ends) : List MCl → WX
  | [] => Wout
  | q :: r => fun cls d σ H => ∃ b, PySem.W.exmAny K cls q.1 = some b ∧ (b = true → ∀ a, H a = none → wMCl D q a cls d σ H) ∧ (b = false → wMCls K Wout D r cls d σ H)
/-- what stands behind except -/
inductive MTest (X : Cx) : Expr → List Value → Prop
  | name {x : Str} {c : Value} {p : Pos} (h : Names X x c) : MTest X (.Name x p) [c]
  | two {x y : Str} {c d : Value} {p1 p2 p : Pos} {k : Nat} (h1 : Names X x c) (h2 : Names X y d) : MTest X (.Tuple [.Name x p1, .Name y p2] k p) [c, d]
  | three {x y z : Str} {c d e : Value} {p1 p2 p3 p : Pos} {k : Nat} (h1 : Names X x c) (h2 : Names X y d) (h3 : Names X z e) : MTest X (.Tuple [.Name x p1, .Name y p2, .Name z p3] k p) [c, d, e]
  | four {x y z u : Str} {c d e f : Value} {p1 p2 p3 p4 p : Pos} {k : Nat} (h1 : Names X x c) (h2 : Names X y d) (h3 : Names X z e) (h4 : Names X u f) : MTest X (.Tuple [.Name x p1, .Name y p2, .Name z p3, .Name u p4] k p) [c, d, e, f]
inductive MClOk (X : Cx) : ExceptHandler → MCl → Prop
  | bare {t : Expr} {cs : List Value} {ts : Addr → Value → Option Addr → TS} {st : Stmt} {sts : List Stmt} {pos' : Pos} (hc : MTest X t cs)
      (su : ∀ (a : Addr) (oe : Obj) (cls : Value) (d : Option Addr) (pn : List (Addr × Obj)), Zc cls d oe → (∃ vs, oe.data = .fields vs) → PSs (X.suite a ((a, oe) :: pn)) (st :: sts) (ts a cls d)) :
      MClOk X (.ExceptHandler (some t) none (st :: sts) pos') (cs, none, ts)
  | as {t : Expr} {n : Str} {cs : List Value} {ts : Addr → Value → Option Addr → TS} {st : Stmt} {sts : List Stmt} {pos' : Pos} {i : Nat} (hc : MTest X t cs) (hN : X.N.Nodup) (hi : X.N[i]? = some n) (hln : X.env.kindOf n = some .local)
      (su : ∀ (a : Addr) (oe : Obj) (cls : Value) (d : Option Addr) (pn : List (Addr × Obj)), Zc cls d oe → (∃ vs, oe.data = .fields vs) → PSs (X.suite a ((a, oe) :: pn)) (st :: sts) (ts a cls d)) :
      MClOk X (.ExceptHandler (some t) (some n) (st :: sts) pos') (cs, some i, ts)
inductive MClsOk (X : Cx) : List ExceptHandler → List MCl → Prop
  | nil : MClsOk X [] []
  | cons {h : ExceptHandler} {q : MCl} {hs : List ExceptHandler} {qs : List MCl} (o : MClOk X h q) (r : MClsOk X hs qs) : MClsOk X (h :: hs) (q :: qs)
theorem flying_keeps {base h h' : Heap} {l : List Env} {e : Addr} {Z : Obj → Prop} (f : PySem.HandSPX.FlyingZ base l e Z h) (k : ∀ b o, h.get? b = some o → h'.get? b = some o) : PySem.HandSPX.FlyingZ base l e Z h' := by
  obtain ⟨f1, f2, f3, oe, vs, T, oT, ts, t1, t2, t3, t4, t5, t6, t7, t8⟩ := f
  exact ⟨fun b o q => k _ _ (f1 b o q), f2, Heap.FunFrames.of_keeps (fun b o q _ => ⟨o, k _ _ q, rfl⟩) f3, oe, vs, T, oT, ts, k _ _ t1, t2, t3, t4, t5, t6, k _ _ t7, t8⟩
section
variable {X : Cx} {pins : List (Addr × Obj)} {σ : L2.St} {H : Hp} {s sI : Shared} {a : Addr} {B : Heap} {cls : Value} {d : Option Addr} {D : Ends} {Wout : WX}
theorem Caught.grown (c : Caught X pins σ H a B cls d sI s) {h' : Heap} (k : ∀ b o, s.heap.get? b = some o → h'.get? b = some o) : Caught X pins σ H a B cls d sI { s with heap := h' } :=
  ⟨c.inv, c.nb, c.up.trans (Heap.UpToSlots.of_keeps k), c.na, c.os, c.ag, flying_keeps c.fl k⟩
theorem Caught.looks (c : Caught X pins σ H a B cls d sI s) : PySem.W.Looks (model X.prog X.w) s.heap (typeOf (.ref a)) cls := by
  obtain ⟨oe0, vs0, e01, e02, e03⟩ := c.fl.there
  exact fun A Q E s' kk z => wpAny_typeOf_ref (kk _ _ e01) (by rw [e02.1]; exact z)
/-- a tuple of classes, new -/
theorem mtup {t : Expr} {cs : List Value} {b : Bool} {Q : Bool → Shared → Prop} {E : Value → Shared → Prop} (c : Caught X pins σ H a B cls d sI s) (lcs : cs.length ≤ 10)
    (ev : ∀ Q' : Value → Shared → Prop, Q' (.ref s.heap.objs.size) { s with heap := s.heap.push { cls := .type "tuple", data := .seq cs.toArray } } → wpAny (model X.prog X.w) (X.A.mark (some (.ref a))) (eval t X.env) Q' E s)
    (lk : ∀ h : Heap, X.K.In h → PySem.W.Looks (model X.prog X.w) h (typeOf (.ref a)) cls → h.get? s.heap.objs.size = some { cls := .type "tuple", data := .seq cs.toArray } → PySem.W.Looks (model X.prog X.w) h (excMatches (.ref a) (.ref s.heap.objs.size)) b)
    (q : ∀ s', Caught X pins σ H a B cls d sI s' → Q b s') : wpAny (model X.prog X.w) (X.A.mark (some (.ref a))) (eval t X.env) (fun v s₁ => wpAny (model X.prog X.w) (X.A.mark (some (.ref a))) (excMatches (.ref a) v) Q E s₁) E s := by
  have c2 := c.grown (h' := s.heap.push { cls := .type "tuple", data := .seq cs.toArray }) fun b o e => Heap.get?_push_of_some _ e
  exact ev _ ((lk _ c2.here.kIn c2.looks (Heap.get?_push_size _ rfl)).here (q _ c2))
theorem mtest {t : Expr} {cs : List Value} {b : Bool} {Q : Bool → Shared → Prop} {E : Value → Shared → Prop} (c : Caught X pins σ H a B cls d sI s) (hf : X.env.frame = some X.env.locals) (m : MTest X t cs) (hb : PySem.W.exmAny X.K cls cs = some b)
    (q : ∀ s', Caught X pins σ H a B cls d sI s' → Q b s') : wpAny (model X.prog X.w) (X.A.mark (some (.ref a))) (eval t X.env) (fun v s₁ => wpAny (model X.prog X.w) (X.A.mark (some (.ref a))) (excMatches (.ref a) v) Q E s₁) E s := by
  have small : ∀ n : Nat, n ≤ 10 → n ≤ sizeLine := fun n hn => Nat.le_trans hn (by decide)
  cases m with
  | name h =>
    obtain ⟨b1, d1, x1, y1, z1⟩ := PySem.W.exmAny_cons hb
    have : d1 = false := (Option.some.inj y1).symm
    subst this
    rw [Bool.or_false] at z1
    subst z1
    exact names_eval c hf h ((PySem.W.exm_one (M := model X.prog X.w) c.here.kIn c.looks x1).here (q s c))
  | two h1 h2 =>
    exact mtup c (by simp) (fun Q' q' => wpAny_Tuple_spliced (Calls.spliced_cons (names_eval c hf h1 (Calls.spliced_cons (names_eval c hf h2 (Calls.spliced_nil ⟨small _ (by simp), q'⟩)))))) (fun h K1 L1 there => PySem.W.exm_tup2 K1 L1 there hb) q
  | three h1 h2 h3 =>
    exact mtup c (by simp) (fun Q' q' => wpAny_Tuple_spliced (Calls.spliced_cons (names_eval c hf h1 (Calls.spliced_cons (names_eval c hf h2 (Calls.spliced_cons (names_eval c hf h3 (Calls.spliced_nil ⟨small _ (by simp), q'⟩)))))))) (fun h K1 L1 there => PySem.W.exm_tup3 K1 L1 there hb) q
  | four h1 h2 h3 h4 =>
    exact mtup c (by simp) (fun Q' q' => wpAny_Tuple_spliced (Calls.spliced_cons (names_eval c hf h1 (Calls.spliced_cons (names_eval c hf h2 (Calls.spliced_cons (names_eval c hf h3 (Calls.spliced_cons (names_eval c hf h4 (Calls.spliced_nil ⟨small _ (by simp), q'⟩)))))))))) (fun h K1 L1 there => PySem.W.exm_tup4 K1 L1 there hb) q
theorem mclauses {hs : List ExceptHandler} {qs : List MCl} (k : MClsOk X hs qs) (hst : X.stack = X.env :: X.outer) (hf : X.env.frame = some X.env.locals) (tk : Takes X Wout) :
    ∀ {s : Shared}, Caught X pins σ H a B cls d sI s → wMCls X.K Wout D qs cls d σ H → wpAny (model X.prog X.w) X.A (handleBy (.ref a) X.env hs) (SP X pins D) X.xe s := by
  induction k with
  | nil =>
    intro s c w
    refine wpAny_handleBy_nil ?_
    obtain ⟨k1, k2, k3, oe, vs, T, oT, ts', he, hz, hd, h1, hr⟩ := id c.fl
    have out : wpAny (model X.prog X.w) X.A (setFlight (.ref a) X.env.frame) (fun _ s4 => wpAny (model X.prog X.w) X.A (throw (.ref a) : Sem Flow) (SP X pins D) X.xe s4) X.xe s := by
      rw [hf]
      exact PySem.HandSPX.setFlight_upZ c.fl fun h4 hh4 up4 => wpAny_throw (tk _ _ ⟨a, B, sI, pins, σ, H, cls, d, rfl, c.inv, c.nb, c.up.trans up4, .inr (.inr (by rw [hst]; exact hh4)), c.na, c.os, c.ag, w⟩)
    unfold PySem.passOn
    refine wpAny_bind (wpAny_field he hd h1 ?_)
    rw [if_neg (show ¬ ((Value.ref T == Value.none) = true) from by simp)]
    first
      | exact wpAny_bind (wpAny_pure (wpAny_bind out))
      | exact wpAny_bind out
  | @cons h q hs qs o r ih =>
    intro s c w
    obtain ⟨b, hb1, hyes, hno⟩ := w
    cases o with
    | bare hc su =>
      refine wpAny_handleBy_cons (codeAny_handlers_test ?_) (by intro q; cases q)
      refine mtest c hf hc hb1 fun s c => ?_
      cases b with
      | false => exact ih c (hno rfl)
      | true =>
        refine codeAny_handlers_suite (c.again fun s4 c4 => ?_)
        obtain ⟨oe, z1, z2, S⟩ := c4.suite (M := model X.prog X.w) hf
        have ok := c4.here.ok
        refine wpAny_mono ((su a oe cls d (X.pn ++ pins) z1 z2).run [] _ _ H _ S (hyes rfl a c.na)) (fun f s6 hsp => ?_) (fun _ _ z => False.elim z)
        cases f with
        | next => exact let ⟨σ6, H6, S6, q6⟩ := hsp; ⟨_, _, S6.unsuite ok, q6⟩
        | brk => exact let ⟨σ6, H6, S6, q6⟩ := hsp; ⟨_, _, S6.unsuite ok, q6⟩
        | cont => exact let ⟨σ6, H6, S6, q6⟩ := hsp; ⟨_, _, S6.unsuite ok, q6⟩
        | ret u => exact let ⟨v6, σ6, H6, S6, r6, q6⟩ := hsp; ⟨_, _, _, S6.unsuite ok, r6, q6⟩
    | @as t n cs ts st sts pos' i hc hN hi hln su =>
      refine wpAny_handleBy_cons (codeAny_handlers_test ?_) (by intro q; cases q)
      refine mtest c hf hc hb1 fun s c => ?_
      cases b with
      | false => exact ih c (hno rfl)
      | true =>
        refine codeAny_handlers_suite_as (c.again fun s4 c4 => ?_)
        obtain ⟨oe, z1, z2, S⟩ := c4.suite (M := model X.prog X.w) hf
        have ok := c4.here.ok
        refine store_ok (X := X.suite a ((a, oe) :: (X.pn ++ pins))) (v := .ref a) S hN hi (.inl hln) rfl (fun s5 S5 => ?_) (.inr hln)
        refine wpAny_mono ((su a oe cls d (X.pn ++ pins) z1 z2).run [] s5 _ H (asEnds i D) S5 (hyes rfl a c.na)) (fun f s6 hsp => ?_) (fun _ _ z => False.elim z)
        cases f with
        | next => exact let ⟨σ6, H6, S6, q6⟩ := hsp; gone_ok (S6.unsuite ok) hN hi hln fun s7 J7 => ⟨_, _, J7, q6⟩
        | brk => exact let ⟨σ6, H6, S6, q6⟩ := hsp; gone_ok (S6.unsuite ok) hN hi hln fun s7 J7 => ⟨_, _, J7, q6⟩
        | cont => exact let ⟨σ6, H6, S6, q6⟩ := hsp; gone_ok (S6.unsuite ok) hN hi hln fun s7 J7 => ⟨_, _, J7, q6⟩
        | ret u => exact let ⟨v6, σ6, H6, S6, r6, q6⟩ := hsp; gone_ok (S6.unsuite ok) hN hi hln fun s7 J7 => ⟨_, _, _, J7, r6, q6⟩
/-- THE RULE -/
theorem ps_try_m {body : List Stmt} {h₀ : ExceptHandler} {hds : List ExceptHandler} {qs : List MCl} {pos : Pos} {tb : WX → TS} (hst : X.stack = X.env :: X.outer) (hf : X.env.frame = some X.env.locals) (tk : Takes X Wout)
    (hb : ∀ (W : WX) (pn : List (Addr × Obj)) (xe : Value → Shared → Prop), Takes (X.tr pn xe) W → PassesOwn (model X.prog X.w) X.A X.env xe → PSs (X.tr pn xe) body (tb W)) (hh : MClsOk X (h₀ :: hds) qs) :
    PS X (.Try body (h₀ :: hds) [] [] pos) (fun D σ H => tb (wMCls X.K Wout D qs) D σ H) := by
  refine ⟨fun pins s σ H D I h => wpAny_Try_except ?_⟩
  have ok := I.ok
  have fr : X.A.frames = some (X.env :: X.outer) := by rw [ok.frames, hst]
  have B0 := hb (wMCls X.K Wout D qs) (X.pn ++ pins) (fun e s₁ => wpAny (model X.prog X.w) X.A (noteFrame e X.env) (fun _ s₂ => wpAny (model X.prog X.w) X.A (setFlight e none) (fun _ s₃ => wpAny (model X.prog X.w) X.A (handleBy e X.env (h₀ :: hds)) (SP X pins D) X.xe s₃) X.xe s₂) X.xe s₁)
    (fun u s' xx => by
      obtain ⟨a, B, sI, pins', σ', H', cls, d, rfl, J', nb, up, sky, na, os, ag, w⟩ := xx
      refine Sky.land Zc.steady fr hf (show Sky B (X.env :: X.outer) a (Zc cls d) X.env.locals s'.heap by rw [← hst]; exact sky) fun h3 fl3 up3 => ?_
      exact mclauses hh hst hf tk ⟨J'.ofTry ok, nb, up.trans up3, na, os, ag, fl3⟩ w) PassesOwn.looking
  refine wpAny_mono (B0.run [] s σ H D (I.toTry _) h) (fun f s1 hsp => ?_) (fun _ _ z => z)
  cases f with
  | next => exact let ⟨σ', H', J', q⟩ := hsp; wpAny_execs_nil ⟨σ', H', J'.ofTry ok, q⟩
  | brk => exact let ⟨σ', H', J', q⟩ := hsp; ⟨σ', H', J'.ofTry ok, q⟩
  | cont => exact let ⟨σ', H', J', q⟩ := hsp; ⟨σ', H', J'.ofTry ok, q⟩
  | ret u => exact let ⟨v, σ', H', J', r, q⟩ := hsp; ⟨v, σ', H', J'.ofTry ok, r, q⟩
end
end GS
/-! isinstance(error, C) within a suite, of an error with a dict of its own. -/
namespace GS
open PySem PySem.W PySem.Spec PySem.Calls PyProof.Rows L2
section
variable {K : Frag} {x D : Addr} {ox : Obj} {od : Option Obj}
theorem data_found {attr get : Value} {C : Addr} {n : PySem.Str} (there : (clsIn K C).isSome = true) (f : findIn K (.ref C) n = some (some attr)) (g : specialIn K attr "__get__" = some (some get)) (t : takesIn K attr = some true) : findObj K C od n = some (.bind get attr) := by
  obtain ⟨cd, e⟩ := Option.isSome_iff_exists.mp there
  unfold findObj
  rw [e]
  rw [Option.bind_some, f]
  rw [Option.bind_some]
  simp [g, t]
theorem own_class {prog : Program} {w : World} {A : Around} {E : Value → Shared → Prop} {s : Shared} {Q : Option Value → Shared → Prop} (c : ExcC K D) (kin : K.In s.heap) (i : InstAt s.heap x ox D od) (q : Q (some (.ref D)) { s with toks := s.toks + 1 }) :
    wpAny (model prog w) A (getAttr? (.ref x) "__class__") Q E s := by
  have found : findObj K D od "__class__" = some (.bind (.builtin "getset_descriptor.__get__") (.builtin "object.__class__")) := by
    refine data_found ?_ c.ha c.hn c.ht
    obtain ⟨cd, e, _⟩ := any_some c.hd
    rw [e]
    rfl
  obtain ⟨heap, g, d, t, os⟩ := s
  have ty := i.type (M := model prog w)
  have own := looks_findIn (M := model prog w) kin c.hg
  have hook := looks_findIn (M := model prog w) kin c.hk
  have look := looks_find (M := model prog w) kin i found
  have isExc : Looks (model prog w) heap (isInstance (.ref x) (.type "BaseException")) true := ty.andThen (looks_subIn kin c.hs)
  have no2 : (Value.builtin "BaseException.__getattribute__" == Value.builtin "object.__getattribute__") = false := by decide +kernel
  have no1 : (onTheHeap (Value.ref D) && Value.builtin "BaseException.__getattribute__" == Value.builtin "object.__getattribute__") = false := by
    rw [no2]
    rfl
  unfold getAttr? getAttrBy? getAttrBy
  refine wpAny_bind (wpAny_mkText (wpAny_bind (wpAny_attempt (wpAny_holding (wpAny_bind (ty.at (wpAny_bind (own.at ?_))))))))
  show wpAny _ _ (if (onTheHeap (Value.ref D) && Value.builtin "BaseException.__getattribute__" == Value.builtin "object.__getattribute__") = true then _ else _) _ _ _
  rw [no1, if_neg Bool.false_ne_true]
  unfold getAttrByItsOwn hookBefore
  refine wpAny_bind ?_
  rw [if_pos (show onTheHeap (Value.ref D) = true from rfl)]
  refine hook.at (wpAny_bind (wpAny_attempt (wpAny_holding ?_)))
  unfold callGetattribute
  rw [show (false && onTheHeap (Value.builtin "BaseException.__getattribute__")) = false from rfl, if_neg Bool.false_ne_true]
  unfold boundAndCalled
  rw [PySem.F.excAttr_ValueError.ga.bind (.ref x)]
  refine wpAny_bind (wpAny_pure ?_)
  show wpAny _ _ (call (.builtin "BaseException.__getattribute__") [.ref x, .str "__class__" t]) _ _ _
  refine wpAny_call (codeAny_call_builtin PySem.F.excAttr_ValueError.ga.plain PySem.F.entry_bexc_ga ?_)
  refine @check_slot (model prog w) _ _ ⟨heap, g, d, t + 1, os⟩ "BaseException.__getattribute__" "BaseException" "__getattribute__" (.ref x) [.str "__class__" t] [] _
    (by decide +kernel) (by decide +kernel) isExc (PySem.F.args_bexc_ga (.ref x) (.str "__class__" t)) ?_
  unfold Builtin.«object.__getattribute__»
  refine wpAny_bind (wpAny_of_eq (a := ((Value.ref x : Value), [Value.str "__class__" t])) (by first | rfl | (simp only [slotArgs]; rfl)) ?_)
  refine wpAny_bind (wpAny_pure (wpAny_bind (ty.at (wpAny_bind (look.at ?_)))))
  show wpAny _ _ (holding [Value.builtin "object.__class__"] (call (.builtin "getset_descriptor.__get__") [.builtin "object.__class__", .ref x, .ref D]) >>= ret) _ _ _
  refine wpAny_bind (wpAny_holding (wpAny_call (class_get (s := ⟨heap, g, d, t + 1, os⟩) kin i c.hm (wpAny_pure ?_))))
  show wpAny _ _ (handedOut (.ref D)) _ _ _
  rw [handedOut_of (v := .ref D) rfl]
  first | exact wpAny_pure (wpAny_pure q) | exact wpAny_pure q | exact wpAny_pure (wpAny_bind (wpAny_pure (wpAny_pure q)))
theorem kit_err (c : ExcC K D) : KitX K (.ref x) (.ref D) (fun h => InstAt h x ox D od) where
  ty := fun _ _ _ i => i.type
  it := fun _ _ kin _ => by
    obtain ⟨cd, e, _⟩ := any_some c.hd
    unfold clsIn at e
    split at e
    · rename_i ho
      intro A' Q' E' s' kept q
      unfold isType loadHead
      exact wpAny_bind (wpAny_loadPart (kept _ _ (kin _ _ ho)) (wpAny_pure q))
    · cases e
  ne := fun h tp dd its n sl kin there => by
    obtain ⟨cd, e, _⟩ := any_some c.hd
    refine Bool.eq_false_iff.mpr fun q => ?_
    have same : D = tp := Value.ref.inj (beq_iff_eq.mp q)
    unfold clsIn at e
    split at e
    · rename_i ho
      rw [same] at ho
      cases (kin _ _ ho).symm.trans there
    · cases e
  ca := fun kin i q => own_class c kin i q
end
/-- isinstance(e, c), e the error that the suite holds, of whichever class -/
def rIsX (K : Frag) (a : Addr) (cls : Value) (d : Option Addr) : List V → Hp → VK → Prop := fun xs H Q => ∃ (c : V) (cv : Value) (b : Bool) (C dd : Addr) (fs : List (PySem.Str × V)), xs = [.ref a, c] ∧ (∀ u, RelV c u → u = cv) ∧ cls = .ref C ∧ ExcC K C ∧ kitOne K (.ref C) cv = some b ∧ d = some dd ∧ H dd = some (.xd fs) ∧ Q (.bl b) H
section
variable {X : Cx} {a : Addr} {oe : Obj} {cls : Value} {d : Option Addr} {pn : List (Addr × Obj)}
/-- the error as an instance -/
theorem inst_err {pins : List (Addr × Obj)} {σ : L2.St} {H : Hp} {s : Shared} {C dd : Addr} {fs : List (PySem.Str × V)} (hz : Zc (.ref C) (some dd) oe) (hf : ∃ vs, oe.data = .fields vs) (I : Inv (X.suite a ((a, oe) :: pn)) pins σ H s) (there : H dd = some (.xd fs)) :
    ∃ od, InstAt s.heap a oe C (some od) ∧ ∀ n v, fs.lookup n = some v → ∃ u, RelV v u ∧ lookIn n od = some (some u) := by
  obtain ⟨mA, hns, hr⟩ := (show ObjOk X.prog X.w H s.heap dd (.xd fs) from I.hok dd _ there)
  obtain ⟨od, ho, hl⟩ := lookIn_ns hns
  obtain ⟨ha, _⟩ := I.pin (a, oe) (List.mem_append_left _ List.mem_cons_self)
  obtain ⟨vs, hd⟩ := hf
  have plain : notCls oe := by
    unfold notCls
    rw [hd]
  refine ⟨od, ⟨ha, hz.1, plain, by rw [hz.2]; exact ho⟩, fun n v hv => ?_⟩
  obtain ⟨u, hu, ru⟩ := RelO.some_of (v := v) (o := mA n) (by rw [← hv]; exact hr n)
  exact ⟨u, ru, by rw [hl, hu]⟩
theorem cr_isX {K : Frag} (hk : X.K = K) (hz : Zc cls d oe) (hf : ∃ vs, oe.data = .fields vs) : CallR (X.suite a ((a, oe) :: pn)) (.builtin "isinstance") (rIsX K a cls d) := by
  subst hk
  intro pins s σ H xs us Q I r got
  obtain ⟨c, cv, b, C, dd, fs, rfl, only, rfl, ec, e, rfl, there, q⟩ := got
  obtain ⟨u1, u2, rfl, r1, r2⟩ := vals2 r
  cases r1
  rw [only _ r2]
  obtain ⟨od, i, _⟩ := inst_err hz hf I there
  exact kia_one (kit_err ec) I.kIn i e (fun z => nomatch z) fun tk => ⟨.bl b, H, I.kept (t' := tk) fun _ _ z => z, rfl, q⟩
/-- e.f, e the error that the suite holds, of whichever class -/
def tXfA (K : Frag) (a : Addr) (cls : Value) (d : Option Addr) (n : PySem.Str) (te : TE) : TE := fun σ H Q => te σ H fun x H1 => x = .ref a ∧ ∃ (C dd : Addr) (fs : List (PySem.Str × V)) (v : V), cls = .ref C ∧ XfC K C ∧ findIn K (.ref C) n = some none ∧ d = some dd ∧ H1 dd = some (.xd fs) ∧ fs.lookup n = some v ∧ Q v H1
theorem pe_xfA {K : Frag} {e : Expr} {te : TE} {pos : Pos} {n : PySem.Str} (hk : X.K = K) (hz : Zc cls d oe) (hf : ∃ vs, oe.data = .fields vs) (he : PE (X.suite a ((a, oe) :: pn)) e te) (plain : attributeBase e n X.env (eval e X.env) = eval e X.env := by rfl) : PE (X.suite a ((a, oe) :: pn)) (.Attribute e n pos) (tXfA K a cls d n te) := by
  subst hk
  refine ⟨fun pins s σ H Q I h => attr_of plain (thn (he.run pins s σ H _ I h) fun u s1 got => ?_)⟩
  obtain ⟨x, H1, I1, rx, rfl, C, dd, fs, v, rfl, T, no_, rfl, there, l, q⟩ := got
  obtain rfl : u = Value.ref a := rx
  obtain ⟨od, i, fields⟩ := inst_err hz hf I1 there
  obtain ⟨u, ru, hu⟩ := fields n v l
  exact HandSPX.exc_get I1.kIn i T.ga T.gg T.exC (findObj_own T.hdC no_ rfl hu) (handed_of ru) ⟨v, H1, I1.tok _, ru, q⟩
end
end GS
/-! A list or a tuple walked; o.m(k = v). -/
namespace GS
open PySem PySem.Spec PyProof.Rows L2
def iSeq (K : PySem.W.Frag) (tl : TE) : TI := fun σ H R => tl σ H fun x H1 => ∃ a, x = .ref a ∧ (((∃ xs, SqL K H1 a xs) ∧ R (Itl K a) H1) ∨ ((∃ xs, SqT K H1 a xs) ∧ R (Itt K a) H1))
theorem pi_seq {X : Cx} {tg l : Expr} {tl : TE} (hl : PE X l tl) : PI X tg l (iSeq X.K tl) := by
  refine ⟨fun pins s σ H R I h => thn (hl.run pins s σ H _ I h) fun v s1 ⟨x, H1, I1, r1, a, ex, q⟩ => ?_⟩
  subst ex
  obtain rfl : v = Value.ref a := r1
  have grown : ∀ (o : Obj), Inv X pins σ H1 { s1 with heap := s1.heap.push o } := fun o => I1.kept (t' := s1.toks) fun b u e => Heap.get?_push_of_some _ e
  have fresh := I1.fpOk (Nat.le_refl _) (I1.hok.fresh (Nat.le_refl s1.heap.objs.size))
  rcases q with ⟨⟨xs, hq⟩, q⟩ | ⟨⟨xs, hq⟩, q⟩
  · obtain ⟨its, rv, p, hz⟩ := I1.list hq
    refine wpAny_pyIter_list p.isList ⟨s1.heap.objs.size, [s1.heap.objs.size], _, _, H1, rfl, grown _, turn_list a _, ⟨_, Heap.get?_push_size _ rfl, rfl, rfl⟩, fun b hb => ?_, q⟩
    rw [List.mem_singleton.mp hb]
    exact fresh
  · obtain ⟨its, rv, p, hz⟩ := I1.tuple hq
    refine wpAny_pyIter_tuple (show s1.heap.IsTuple a its.toArray from p) ⟨s1.heap.objs.size, [s1.heap.objs.size], _, _, H1, rfl, grown _, turn_tuple a _, ⟨_, Heap.get?_push_size _ rfl, rfl, rfl⟩, fun b hb => ?_, q⟩
    rw [List.mem_singleton.mp hb]
    exact fresh
theorem r_iSeqL {K : PySem.W.Frag} {a : Addr} {H : Hp} {xs : List V} {R : It → Hp → Prop} (h : SqL K H a xs) (q : R (Itl K a) H) : ∃ b, V.ref a = .ref b ∧ (((∃ xs, SqL K H b xs) ∧ R (Itl K b) H) ∨ ((∃ xs, SqT K H b xs) ∧ R (Itt K b) H)) := ⟨a, rfl, .inl ⟨⟨xs, h⟩, q⟩⟩
theorem r_iSeqT {K : PySem.W.Frag} {a : Addr} {H : Hp} {xs : List V} {R : It → Hp → Prop} (h : SqT K H a xs) (q : R (Itt K a) H) : ∃ b, V.ref a = .ref b ∧ (((∃ xs, SqL K H b xs) ∧ R (Itl K b) H) ∨ ((∃ xs, SqT K H b xs) ∧ R (Itt K b) H)) := ⟨a, rfl, .inr ⟨⟨xs, h⟩, q⟩⟩
/-- o.m(k = v, ..) -/
def tMethN (C : Addr) (m : PySem.Str) (nk : Nat) (sp : Sp) (gV : List V → List V → List V) (E : XK) (ta : TE) (tk : TA) : TE := fun σ H Q => ta σ H fun x H1 => ∃ a dx fs, x = .ref a ∧ H1 a = some (.ins C dx fs) ∧ fs.lookup m = none ∧ tk σ H1 fun zs H2 => zs.length = nk ∧ sp (gV [x] zs) H2 Q E
theorem pe_methK0 {X : Cx} {CX : CXT} {k : Nat} {f C : Addr} {fd : FuncData} {ps ks : List PySem.Str} {sp : Sp} {E : XK} {o : Expr} {m : PySem.Str} {pos apos : Pos} {ta : TE} {tk : TA} {kws : List Keyword} {g : List Value → List Value → List Value} {gV : List V → List V → List V} {pl : Sem Bool}
    (he : PE X o ta) (c : Cls X.K C) (hm : Meth X.K C m f) (F : FnOk X.prog X.w X.K X.mg X.base CX k f fd ps sp) (hr : Room k X.A) (kb : KBn X.K fd ps 1 ks g gV) (hx : Passes CX X E) (hw : PK X kws tk)
    (named : (backToKw pos (keywordEach kws X.env)).all (·.1.isSome) = true := by rfl) (names : (backToKw pos (keywordEach kws X.env)).filterMap (·.1) = ks := by rfl)
    (plain : ((backTo pos (starEach [] X.env)).any (·.1) || (backToKw pos (keywordEach kws X.env)).any (·.1.isNone)) = false := by rfl)
    (ht : eval (.Call (.Attribute o m apos) [] kws pos) X.env = (do let ov ← eval o X.env; standAt apos.atName; let (f, first) ← holding [ov] (getMethod ov m pl); callWith pos f first (backTo pos (starEach [] X.env)) (backToKw pos (keywordEach kws X.env))) := by rfl) :
    PE X (.Call (.Attribute o m apos) [] kws pos) (tMethN C m ks.length sp gV E ta tk) := by
  refine ⟨fun pins s σ H Q I h => PySem.W.methodCall_KW (pl := pl) (thn (he.run pins s σ H _ I h) fun u s1 ⟨x, H1, I1, rx, a, dx, fs, ex, ea, l, q⟩ => ?_) ht⟩
  subst ex
  obtain rfl : u = Value.ref a := rx
  refine getmeth_ok I1 ea c hm l ?_
  refine PySem.W.callWith_KW0 (first := [.ref a]) (h₀ := X.base) I.ok.mod.kin hm.kp named (thn (hw.run pos pins s1 σ H1 _ I1 q) fun ws s2 ⟨zs, H2, I2, rz, m2, q2⟩ => ⟨I2.kIn, ?_⟩) plain
  rw [names]
  exact run_fnN (us := [.ref a]) (vs := [.ref a]) F hr kb hx I2 (.cons rfl .nil) rz rfl m2 q2
/-- o.m(e, ..) inside try -/
def tMethE (C : Addr) (m : PySem.Str) (sp : Sp) (E : L2.St → XK) (ta : TE) (t : TA) : TE := fun σ H Q => ta σ H fun x H1 => ∃ a dx fs, x = .ref a ∧ H1 a = some (.ins C dx fs) ∧ fs.lookup m = none ∧ t σ H1 fun vs H2 => sp (x :: vs) H2 Q (E σ)
theorem pe_methE {X : Cx} {CX : CXT} {k : Nat} {f C : Addr} {fd : FuncData} {ps : List PySem.Str} {sp : Sp} {E : L2.St → XK} {o e : Expr} {es : List Expr} {m : PySem.Str} {pos apos : Pos} {ta : TE} {t : TA} {pl : Sem Bool}
    (he : PE X o ta) (c : Cls X.K C) (hm : Meth X.K C m f) (F : FnOk X.prog X.w X.K X.mg X.base CX k f fd ps sp) (hr : Room k X.A) (hb : Binds X.K fd ps []) (hx : ∀ σ, PassesAt CX X σ (E σ)) (ha : PA X (e :: es) t)
    (st : starEach (e :: es) X.env = (false, eval e X.env) :: starEach es X.env := by rfl) (plain : (backTo pos (starEach es X.env)).any (·.1) = false := by rfl)
    (ht : eval (.Call (.Attribute o m apos) (e :: es) [] pos) X.env = (do let ov ← eval o X.env; standAt apos.atName; let (f, first) ← holding [ov] (getMethod ov m pl); callWith pos f first (backTo pos (starEach (e :: es) X.env)) (backToKw pos (keywordEach [] X.env))) := by rfl) :
    PE X (.Call (.Attribute o m apos) (e :: es) [] pos) (tMethE C m sp E ta t) := by
  refine ⟨fun pins s σ H Q I h => PySem.W.methodCall_KW (pl := pl) (thn (he.run pins s σ H _ I h) fun u s1 ⟨x, H1, I1, rx, a, dx, fs, ex, ea, l, q⟩ => ?_) ht⟩
  subst ex
  obtain rfl : u = Value.ref a := rx
  refine getmeth_ok I1 ea c hm l ?_
  refine PySem.W.callWith_K (first := [.ref a]) (h₀ := X.base) I.ok.mod.kin hm.kp (thn (ha.run pos pins s1 σ H1 _ I1 q) fun us s2 ⟨vs, H2, I2, r, q2⟩ => ⟨I2.kIn, ?_⟩) st plain
  exact run_fnS (us := .ref a :: us) (vs := .ref a :: vs) F hr hb (hx σ) I2 (.cons rfl r) q2
/-- l[j] for l[j] op= e, from 0 on -/
def rGetL (K : PySem.W.Frag) : V → V → Hp → VK → Prop := fun x y H Q => ∃ p xs j v, x = .ref p ∧ y = .int (j : Nat) ∧ SqL K H p xs ∧ xs[j]? = some v ∧ Q v H
theorem pget_list {X : Cx} : PGet X (rGetL X.K) := by
  intro pins s σ H o i ov iv Q I ro ri got
  obtain ⟨p, xs, j, v, rfl, rfl, hq, e, q⟩ := got
  obtain rfl : ov = Value.ref p := ro
  obtain ⟨t, rfl⟩ := ri
  obtain ⟨its, r, pl, hz⟩ := I.list hq
  obtain ⟨u, hu, ru⟩ := r.get e
  have lt := (List.getElem?_eq_some_iff.mp e).1
  have n := line63
  refine wpAny_getItem_list (x := u) pl.isList (Int.natCast_nonneg j) ?_ ?_ ⟨v, H, I, ru, q⟩
  · omega
  · rw [Int.toNat_natCast]
    simpa using hu
/-! the same rules where X's K is only told by an equation (within comprehensions) -/
theorem kx_ixl {X : Cx} {K : PySem.W.Frag} (h : X.K = K) : IxR X (rIxL K) := by subst h; exact ix_list
theorem kx_ixt {X : Cx} {K : PySem.W.Frag} (h : X.K = K) : IxR X (rIxT K) := by subst h; exact ix_tup
theorem kx_lens {X : Cx} {K : PySem.W.Frag} (h : X.K = K) : CallR X (.builtin "len") (fun xs H Q => ∃ p ys, xs = [.ref p] ∧ (SqL K H p ys ∨ SqT K H p ys) ∧ Q (.int ys.length) H) := by subst h; exact call_len_seq
theorem kx_fld {X : Cx} {K : PySem.W.Frag} {e : Expr} {te : TE} {f : PySem.Str} {pos : Pos} (h : X.K = K) (he : PE X e te) (hb : attributeBase e f X.env (eval e X.env) = eval e X.env) : PE X (.Attribute e f pos) (tFld K te f) := by subst h; exact pe_fld he hb
/-! facts of the head -/
def bnB (x : PySem.Str) (id : String) : Chk := fun K => He.eqO (PySem.W.nsIn K mainGlobals x) (some (some (.builtin id)))
theorem bnB_ok {K : PySem.W.Frag} {mg : PySem.Str → Option Value} {h : Heap} (X : K.In h) (G : h.Ns mainGlobals mg) {x : PySem.Str} {id : String} (c : bnB x id K = true) : mg x = some (.builtin id) := PySem.W.mg_of X G (He.eqO_ok c)
def excB (x : PySem.Str) : Chk := fun K => He.eqO (PySem.W.findIn K (.ref (He.ga K x)) "__class__") (some (some (.builtin "object.__class__"))) && decide (PySem.W.mroIn K (He.ga K x) (.type "object") = some true)
theorem excB_ok {K : PySem.W.Frag} {x : PySem.Str} (top : topB K = true) (f : XfC K (He.ga K x)) (c : excB x K = true) : ExcC K (He.ga K x) := by
  obtain ⟨t1, t2⟩ := Bool.and_eq_true_iff.mp top
  obtain ⟨c1, c2⟩ := Bool.and_eq_true_iff.mp c
  exact ⟨f.ga, f.gg, f.exC, f.hdC, He.eqO_ok c1, He.eqO_ok t1, of_decide_eq_true t2, of_decide_eq_true c2⟩
/-- an instance of D is none of C -/
def otB (D C : PySem.Str) : Chk := fun K => decide (PySem.W.kitOne K (.ref (He.ga K D)) (.ref (He.ga K C)) = some false) && PySem.W.notFirst K (He.ga K C) (.ref (He.ga K D))
theorem otB_ok {K : PySem.W.Frag} {D C : PySem.Str} (c : otB D C K = true) : PySem.W.kitOne K (.ref (He.ga K D)) (.ref (He.ga K C)) = some false ∧ PySem.W.notFirst K (He.ga K C) (.ref (He.ga K D)) = true := by
  obtain ⟨c1, c2⟩ := Bool.and_eq_true_iff.mp c
  exact ⟨of_decide_eq_true c1, c2⟩
end GS
/-! Comprehensions of any target; zip of tuples; loops. -/
namespace GS
open PySem PySem.Spec PyProof.Rows L2 TL
theorem walk_zipT {K : PySem.W.Frag} {a b : Addr} {xs ys : List V} {n : Nat} (hn : n = min xs.length ys.length) : Walk (RZ.ItzT K a b) n (fun H => SqT K H a xs ∧ SqT K H b ys) (YPair (fun i => xs[i]?) (fun i => ys[i]?)) := by
  subst hn
  refine ⟨fun i _ hi q => ?_, fun _ q => ⟨xs, ys, q.1, q.2, by omega⟩, fun i H v H' _ q y => ?_⟩
  · have h1 : i < xs.length := by omega
    have h2 : i < ys.length := by omega
    exact ⟨xs, ys, xs[i], ys[i], q.1, q.2, by simp [h1], by simp [h2]⟩
  · obtain ⟨T, x, z, h1, h2, h3, h4, h5⟩ := y
    exact ⟨T, x, z, h1, h2, h3, h4 xs q.1, h5 ys q.2⟩
theorem r_zipA {K : PySem.W.Frag} {ta : TA} {σ : L2.St} {H : Hp} {R : It → Hp → Prop} (q : ta σ H fun vs H1 => ∃ a b xs ys, vs = [.ref a, .ref b] ∧ ((SqL K H1 a xs ∧ SqL K H1 b ys ∧ R (Itz K a b) H1) ∨ (SqT K H1 a xs ∧ SqT K H1 b ys ∧ R (RZ.ItzT K a b) H1))) : RZ.iZipA K ta σ H R := q
theorem walk_enumT' {K : PySem.W.Frag} {a : Addr} {xs : List V} {n : Nat} (h : xs.length = n) : Walk (IteT K a) n (fun H => SqT K H a xs) (YPair (fun i => some (.int (i : Nat))) (fun i => xs[i]?)) := by subst h; exact walk_enumT
/-- what is wished behind list(..), tuple(..) -/
def listK (K : PySem.W.Frag) (Q : VK) : List V → Hp → Prop := fun xs H => ∃ p ys, xs = [V.ref p] ∧ (SqL K H p ys ∨ SqT K H p ys) ∧ ∀ (l : Addr), H l = none → Q (.ref l) (upd H l (.lst ys))
theorem r_cbList {K : PySem.W.Frag} {tr : TA} {σ : L2.St} {H : Hp} {Q : VK} (q : tr σ H (listK K Q)) : tCB (fun xs H Q => ∃ p ys, xs = [V.ref p] ∧ (SqL K H p ys ∨ SqT K H p ys) ∧ ∀ (l : Addr), H l = none → Q (.ref l) (upd H l (.lst ys))) tr σ H Q := q
theorem r_list {K : PySem.W.Frag} {Q : VK} {H : Hp} {a : Addr} {xs : List V} (h : SqL K H a xs ∨ SqT K H a xs) (q : ∀ l H', H l = none → Ex H H' → H' l = some (.lst xs) → Q (.ref l) H') : listK K Q [.ref a] H :=
  ⟨a, xs, rfl, h, fun l hl => q l _ hl (Ex.new hl) upd_same⟩
def tupK (K : PySem.W.Frag) (Q : VK) : List V → Hp → Prop := fun xs H => ∃ p ys, xs = [V.ref p] ∧ ((SqL K H p ys ∧ ∀ (l : Addr), H l = none → Q (.ref l) (upd H l (.tup ys))) ∨ SqT K H p ys ∧ Q (.ref p) H)
theorem r_cbTup {K : PySem.W.Frag} {tr : TA} {σ : L2.St} {H : Hp} {Q : VK} (q : tr σ H (tupK K Q)) : tCB (fun xs H Q => ∃ p ys, xs = [V.ref p] ∧ ((SqL K H p ys ∧ ∀ (l : Addr), H l = none → Q (.ref l) (upd H l (.tup ys))) ∨ SqT K H p ys ∧ Q (.ref p) H)) tr σ H Q := q
theorem r_tupL {K : PySem.W.Frag} {Q : VK} {H : Hp} {a : Addr} {xs : List V} (h : SqL K H a xs) (q : ∀ l H', H l = none → Ex H H' → H' l = some (.tup xs) → Q (.ref l) H') : tupK K Q [.ref a] H :=
  ⟨a, xs, rfl, .inl ⟨h, fun l hl => q l _ hl (Ex.new hl) upd_same⟩⟩
theorem r_sl {r : V → Option Int → Option Int → Hp → VK → Prop} {te : TE} {tl th : TO} {σ : L2.St} {H : Hp} {Q : VK} (q : te σ H fun x H1 => tl σ H1 fun l H2 => th σ H2 fun u H3 => r x l u H3 Q) : tSl r te tl th σ H Q := q
theorem r_noPart {σ : L2.St} {H : Hp} {R : Option Int → Hp → Prop} (q : R none H) : tNoPart σ H R := q
theorem r_part {te : TE} {σ : L2.St} {H : Hp} {R : Option Int → Hp → Prop} (q : te σ H fun x H1 => ∃ i, x = .int i ∧ R (some i) H1) : tPart te σ H R := q
theorem r_iR2 {ta : TA} {σ : L2.St} {H : Hp} {R : It → Hp → Prop} (q : ta σ H fun vs H1 => ∃ i j : Int, vs = [.int i, .int j] ∧ (-(2 ^ 62) ≤ i ∧ i < 2 ^ 62 ∧ -(2 ^ 62) ≤ j ∧ j < 2 ^ 62) ∧ R (Itr i (j - i).toNat) H1) : iRng2 ta σ H R := q
theorem r_iR3 {ta : TA} {σ : L2.St} {H : Hp} {R : It → Hp → Prop} (q : ta σ H fun vs H1 => ∃ (i j c : Int) (n : Nat), vs = [.int i, .int j, .int c] ∧ RgC i j c n ∧ R (Itc i c n) H1) : iRng3 ta σ H R := q
/-- any target, no test; what is known of the items by the turn -/
theorem r_lcP {J : It} {n : Nat} {G : Hp → Prop} {Y : Nat → Hp → V → Hp → Prop} {g : TG} {vs : List Nat} {te : TE} {σ : L2.St} {H1 : Hp} {Q : VK} (w : Walk J n G Y) (P : Addr → Nat → List V → Hp → Prop) (hn : n ≤ 50000) (hG : ∀ H' : Hp, Ex H1 H' → G H')
    (h0 : ∀ D H, Ex H1 H → P D 0 [] H) (mono : ∀ D i ys H H', P D i ys H → Bu D H H' → P D i ys H')
    (step : ∀ D i x ys H H', i < n → H1 D = none → Ex H1 H → H D = some (.lst ys) → P D i ys H → Y i H x H' → ∀ N : VK, (∀ y H4, Ex H H4 → P D (i + 1) (ys ++ [y]) H4 → N y H4) → g x (wipe σ vs) H' fun σ2 H2 => wipe σ2 vs = wipe σ vs ∧ te σ2 H2 N)
    (q : ∀ D ys H', H1 D = none → Ex H1 H' → H' D = some (.lst ys) → ys.length = n → P D n ys H' → Q (.ref D) H') : lcB J g tYes te vs σ Q H1 := by
  intro D hD
  refine lc_it w (fun i H => Ex H1 H ∧ ∃ ys, H D = some (.lst ys) ∧ ys.length = i ∧ P D i ys H) ⟨Ex.mut (Ex.refl _) hD, [], upd_same, rfl, h0 D _ (Ex.mut (Ex.refl _) hD)⟩ (fun i H _ p => hG H p.1) ?_ (fun H p => let ⟨ys, h1, h2, h3⟩ := p.2; q D ys H hD p.1 h1 h2 h3)
  intro i x H H' hi p y
  obtain ⟨p1, ys, p2, p3, p4⟩ := p
  refine step D i x ys H H' hi hD p1 p2 p4 y _ fun z H4 e4 hp4 => ⟨ys, e4 _ _ p2, sz_lt (by omega), Ex.mut (p1.trans e4) hD, ys ++ [z], upd_same, (by rw [List.length_append, p3]; rfl), mono D _ _ _ _ hp4 Bu.upd⟩
/-- the items are integers -/
theorem r_lcZ {J : It} {n : Nat} {G : Hp → Prop} {Y : Nat → Hp → V → Hp → Prop} {g : TG} {vs : List Nat} {te : TE} {σ : L2.St} {H1 : Hp} {Q : VK} (w : Walk J n G Y) (r : List Int) (hr : r.length = n) (hn : n ≤ 50000) (hG : ∀ H' : Hp, Ex H1 H' → G H')
    (step : ∀ i x H H', i < n → Ex H1 H → Y i H x H' → ∀ N : VK, (∀ H4, Ex H H4 → N (.int (r.getD i 0)) H4) → g x (wipe σ vs) H' fun σ2 H2 => wipe σ2 vs = wipe σ vs ∧ te σ2 H2 N)
    (q : ∀ D H', H1 D = none → Ex H1 H' → H' D = some (.lst (r.map V.int)) → Q (.ref D) H') : lcB J g tYes te vs σ Q H1 := by
  refine r_lcP w (fun _ i ys _ => ys = (r.take i).map V.int) hn hG (fun _ _ _ => rfl) (fun _ _ _ _ _ h _ => h) ?_ (fun D ys H' h1 h2 h3 h4 h5 => q D H' h1 h2 ?_)
  · intro D i x ys H H' hi hD e hd hp y N hN
    refine step i x H H' hi e y N fun H4 e4 => hN _ H4 e4 ?_
    have : i < r.length := by omega
    rw [hp, List.take_add_one, List.getElem?_eq_getElem this, List.map_append]
    congr 1
    simp [this]
  · rw [h3, h5, ← hr, List.take_length]
/-- any target, no test; the heap may change as it likes -/
theorem r_lcG {J : It} {n : Nat} {G : Hp → Prop} {Y : Nat → Hp → V → Hp → Prop} {g : TG} {vs : List Nat} {te : TE} {σ : L2.St} {H1 : Hp} {Q : VK} (w : Walk J n G Y) (P : Addr → Nat → List V → Hp → Prop) (hn : n ≤ 50000) (hG : ∀ D i ys H, P D i ys H → G H)
    (h0 : ∀ D, H1 D = none → P D 0 [] (upd H1 D (.lst []))) (mono : ∀ D i ys H o, H1 D = none → P D i ys H → P D i ys (upd H D o))
    (step : ∀ D i x ys H H', i < n → H1 D = none → H D = some (.lst ys) → ys.length = i → P D i ys H → Y i H x H' → ∀ N : VK, (∀ y H4, H4 D = some (.lst ys) → P D (i + 1) (ys ++ [y]) H4 → N y H4) → g x (wipe σ vs) H' fun σ2 H2 => wipe σ2 vs = wipe σ vs ∧ te σ2 H2 N)
    (q : ∀ D ys H', H1 D = none → H' D = some (.lst ys) → ys.length = n → P D n ys H' → Q (.ref D) H') : lcB J g tYes te vs σ Q H1 := by
  intro D hD
  refine lc_it w (fun i H => ∃ ys, H D = some (.lst ys) ∧ ys.length = i ∧ P D i ys H) ⟨[], upd_same, rfl, h0 D hD⟩ (fun i H _ p => let ⟨ys, _, _, h⟩ := p; hG D i ys H h) ?_ (fun H p => let ⟨ys, h1, h2, h3⟩ := p; q D ys H hD h1 h2 h3)
  intro i x H H' hi p y
  obtain ⟨ys, p2, p3, p4⟩ := p
  refine step D i x ys H H' hi hD p2 p3 p4 y _ fun z H4 h4 hp4 => ⟨ys, h4, sz_lt (by omega), ys ++ [z], upd_same, (by rw [List.length_append, p3]; rfl), mono D _ _ _ _ hD hp4⟩
/-! ### the bag's own list stays -/
def Bg (p : Addr) (H H' : Hp) : Prop := Bu p H H' ∧ ∀ L x y, H p = some (.lst [.ref L, x, y]) → ∃ x' y', H' p = some (.lst [.ref L, x', y'])
theorem Bg.refl (p : Addr) (H : Hp) : Bg p H H := ⟨Bu.refl p H, fun _ x y h => ⟨x, y, h⟩⟩
theorem Bg.trans {p : Addr} {H H1 H2 : Hp} (a : Bg p H H1) (b : Bg p H1 H2) : Bg p H H2 := ⟨a.1.trans b.1, fun L x y h => let ⟨x', y', h'⟩ := a.2 L x y h; b.2 L x' y' h'⟩
theorem Bg.of {p : Addr} {H H' : Hp} (e : Ex H H') : Bg p H H' := ⟨Bu.of e, fun _ x y h => ⟨x, y, e _ _ h⟩⟩
theorem Bg.at_ {p b : Addr} {H H' : Hp} {o : HO} (e : Bg p H H') (n : b ≠ p) (h : H b = some o) : H' b = some o := e.1 b o n h
theorem Bg.updD {p D : Addr} {H1 H : Hp} {o : HO} {n0 : Int} (e : Bg p H1 H) (hb : Bag H1 p n0) (hD : H1 D = none) : Bg p H1 (upd H D o) := by
  obtain ⟨L, xs, a, l, h1, _⟩ := hb.is
  have np : p ≠ D := by rintro rfl; rw [hD] at h1; cases h1
  refine ⟨fun b u n hb => ?_, fun L x y h => ?_⟩
  · rw [upd_ne (by rintro rfl; rw [hD] at hb; cases hb)]
    exact e.1 b u n hb
  · rw [upd_ne np]
    exact e.2 L x y h
theorem Bag.updD {p D : Addr} {H1 H : Hp} {o : HO} {n0 n : Int} (hb : Bag H p n) (hb1 : Bag H1 p n0) (e : Bg p H1 H) (hD : H1 D = none) : Bag (upd H D o) p n := by
  obtain ⟨L1, xs1, a1, l1, h1, hL1, ne1, _⟩ := hb1.is
  obtain ⟨L, xs, a, l, h, hL, ne, r⟩ := hb.is
  obtain ⟨x', y', h'⟩ := e.2 L1 _ _ h1
  rw [h] at h'
  cases h'
  have np : p ≠ D := by rintro rfl; rw [hD] at h1; cases h1
  have nL : L1 ≠ D := by rintro rfl; rw [hD] at hL1; cases hL1
  exact ⟨L1, xs, a, l, by rw [upd_ne np]; exact h, by rw [upd_ne nL]; exact hL, ne, r⟩
/-- what a draw promises -/
def spDrawG : Sp := sp2 fun b m H Q _ => ∃ p m' n, b = .ref p ∧ m = .int m' ∧ 0 < m' ∧ Z 1000 m' ∧ n ≤ 100000 ∧ Bag H p n ∧ ∀ r H', 0 ≤ r → r < m' → Bg p H H' → Bag H' p (n + 1) → Q (.int r) H'
theorem r_DrawG {H : Hp} {Q : VK} {E : XK} {p : Addr} {m n : Int} (hb : Bag H p n) (hn : n ≤ 100000) (h0 : 0 < m) (hm : Z 1000 m) (k : ∀ r H', 0 ≤ r → r < m → Bg p H H' → Bag H' p (n + 1) → Q (.int r) H') : spDrawG ([.ref p, .int m] ++ []) H Q E :=
  ⟨p, m, n, rfl, rfl, h0, hm, hn, hb, k⟩
end GS
/-! x == y, x of a built-in kind, y an instance with an own __eq__. -/
namespace GS
open PySem PySem.Spec PyProof.Rows L2 TL
section
variable {prog : Program} {w : World} {A : Around} {E : Value → Shared → Prop} {s : Shared} {p C dx : Addr} {Q : Value → Shared → Prop}
theorem dec_int {i : Int} {t : Tok} (h : s.heap.get? p = some (PySem.W.instObj C dx)) (q : Q .notImplemented s) : wpAny (model prog w) A (call (.builtin "int.__eq__") [.int i t, .ref p]) Q E s := by
  refine GQ.call_here F.slot_int_eq (typeIs_int s i t) F.entry_int_eq (F.args_int_eq_2 _ _) ?_
  obtain ⟨hp, g, d, tk, os⟩ := s
  wp_walk using AutoSeq1.wpAny_loadPart' h
  exact q
theorem dec_str {i : Str} {t : Tok} (h : s.heap.get? p = some (PySem.W.instObj C dx)) (q : Q .notImplemented s) : wpAny (model prog w) A (call (.builtin "str.__eq__") [.str i t, .ref p]) Q E s := by
  refine GQ.call_here F.slot_str_eq (typeIs_str s i t) F.entry_str_eq (F.args_str_eq_2 _ _) ?_
  obtain ⟨hp, g, d, tk, os⟩ := s
  wp_walk using AutoSeq1.wpAny_loadPart' h
  exact q
theorem dec_none (q : Q .notImplemented s) : wpAny (model prog w) A (call (.builtin "NoneType.__eq__") [.none, .ref p]) Q E s := by
  refine GQ.call_here F.slot_NoneType_eq (show s.TypeIs .none "NoneType" from rfl) F.entry_NoneType_eq (F.args_NoneType_eq_2 _ _) ?_
  obtain ⟨hp, g, d, tk, os⟩ := s
  wp_walk
  exact q
theorem dec_list {l : Addr} (h : s.heap.get? p = some (PySem.W.instObj C dx)) (hl : ∃ o, s.heap.get? l = some o ∧ o.cls = .type "list") (hs : PySem.W.Looks (model prog w) s.heap (isSubtype (.ref C) (.type "list")) false) (q : Q .notImplemented s) : wpAny (model prog w) A (call (.builtin "list.__eq__") [.ref l, .ref p]) Q E s := by
  refine GQ.call_here F.slot_list_eq hl F.entry_list_eq (F.args_list_eq_2 _ _) ?_
  obtain ⟨hp, g, d, tk, os⟩ := s
  have sub : ∀ {A' : Around} {E' : Value → Shared → Prop} {Q' : Bool → Shared → Prop}, Q' false ⟨hp, g, d, tk, os⟩ → wpAny (model prog w) A' (isSubtype (.ref C) (.type "list")) Q' E' ⟨hp, g, d, tk, os⟩ := fun q => hs.here q
  wp_walk using AutoSeq1.wpAny_loadPart' h, sub
  exact q
theorem dec_tuple {l : Addr} (h : s.heap.get? p = some (PySem.W.instObj C dx)) (hl : ∃ o, s.heap.get? l = some o ∧ o.cls = .type "tuple") (hs : PySem.W.Looks (model prog w) s.heap (isSubtype (.ref C) (.type "tuple")) false) (q : Q .notImplemented s) : wpAny (model prog w) A (call (.builtin "tuple.__eq__") [.ref l, .ref p]) Q E s := by
  refine GQ.call_here F.slot_tuple_eq hl F.entry_tuple_eq (F.args_tuple_eq_2 _ _) ?_
  obtain ⟨hp, g, d, tk, os⟩ := s
  have sub : ∀ {A' : Around} {E' : Value → Shared → Prop} {Q' : Bool → Shared → Prop}, Q' false ⟨hp, g, d, tk, os⟩ → wpAny (model prog w) A' (isSubtype (.ref C) (.type "tuple")) Q' E' ⟨hp, g, d, tk, os⟩ := fun q => hs.here q
  wp_walk using AutoSeq1.wpAny_loadPart' h, sub
  exact q
/-- the left side declines, the right one has an own __eq__ -/
theorem cmp_refl {K : PySem.W.Frag} {h₀ : Heap} {L f : Addr} {m : Str → Option Value} {od : Option Obj} {ox : Obj} {a : Value} {Ta id : String} (hu : A.units < cLine) (F : Fr h₀ L s.heap m) (X₀ : K.In h₀) (I : PySem.W.InstAt s.heap p ox C od)
    (ha : s.TypeIs a Ta) (slot : Slot Ta (cmpInfo .Eq).2.1 id) (hsub : PySem.W.Looks (model prog w) s.heap (isSubtype (.ref C) (.type Ta)) false) (hs : PySem.W.findIn K (.ref C) (cmpInfo .Eq).2.2 = some (some (.ref f))) (hf : PySem.W.isFn K (.ref f) = true)
    (dec : wpAny (model prog w) A (call (.builtin id) [a, .ref p]) (fun v s' => v = .notImplemented ∧ s' = s) E s)
    (h : wpAny (model prog w) A (call (.ref f) [.ref p, a]) (PySem.W.CmpBack Q) E s) : wpAny (model prog w) A (richCompare .Eq a (.ref p)) Q E s := by
  have X := X₀.keeps F.keep
  have one : wpAny (model prog w) A (tryCompare (.ref p) (cmpInfo .Eq).2.2 a) (fun r s' => ∃ v, r = some v ∧ Q v s') E s := by
    unfold tryCompare
    refine wpAny_bind (PySem.W.ifBound_K X I hs hf (wpAny_mono h (fun v s' hv => ?_) fun _ _ e => e))
    cases v <;> first | exact hv.elim | exact wpAny_pure ⟨_, rfl, hv⟩
  unfold richCompare
  simp only [ha.oneThing_none]
  refine wpAny_holding (wpAny_bind (wpAny_cRoomFor hu ?_))
  refine wpAny_bind (wpAny_typeOf ha (wpAny_bind (I.type.here ?_)))
  rw [if_pos (show (Value.type Ta != Value.ref C) = true from rfl)]
  refine wpAny_bind (hsub.here ?_)
  simp only [Bool.false_eq_true, if_false, Bool.not_false, if_true]
  refine wpAny_bind (m := tryCompare a _ (.ref p)) (wpAny_tryCompare_declines ha slot (wpAny_mono dec (fun v s' z => ?_) fun _ _ e => e))
  obtain ⟨rfl, rfl⟩ := z
  refine ⟨rfl, ?_⟩
  refine wpAny_bind (wpAny_mono one (fun r s' z => ?_) fun _ _ e => e)
  obtain ⟨v, rfl, hq⟩ := z
  exact wpAny_pure hq
end
/-- a value of a built-in kind that declines -/
inductive LeftV (H : Hp) : V → Prop
  | non : LeftV H .non
  | int (i : Int) : LeftV H (.int i)
  | str (z : Str) : LeftV H (.str z)
  | lst {a : Addr} {xs : List V} (h : H a = some (.lst xs)) : LeftV H (.ref a)
  | tup {a : Addr} {xs : List V} (h : H a = some (.tup xs)) : LeftV H (.ref a)
section
variable {X : Cx}
def rEqR (C : Addr) (sp : Sp) (E : XK) : R2 := fun x y H Q => ∃ a dx fs, y = .ref a ∧ H a = some (.ins C dx fs) ∧ LeftV H x ∧ sp [y, x] H Q E
theorem op_eqR {CX : CXT} {k : Nat} {C f : Addr} {fd : FuncData} {ps : List Str} {sp : Sp} {E : XK} (Fn : FnOk X.prog X.w X.K X.mg X.base CX k f fd ps sp) (hr : Room k X.A)
    (no : ∀ T ∈ ["int", "str", "NoneType", "list", "tuple"], PySem.W.kitOne X.K (.ref C) (.type T) = some false)
    (hs : PySem.W.findIn X.K (.ref C) "__eq__" = some (some (.ref f))) (hf : PySem.W.isFn X.K (.ref f) = true) (hb : Binds X.K fd ps []) (hx : Passes CX X E) : OpR X (compareOp .Eq) (rEqR C sp E) := by
  intro pins s σ H x y v u Q I rx ry hq
  obtain ⟨a, dx, fs, rfl, ha, lv, hsp⟩ := hq
  cases ry
  obtain ⟨mA, O, _⟩ := ins_get I.hok ha
  obtain ⟨od, J, _⟩ := O.look
  obtain ⟨m, hF⟩ := I.fr
  show wpAny (model X.prog X.w) X.A (richCompare .Eq v (.ref a)) (EP X pins σ Q) X.xe s
  have sub : ∀ T ∈ ["int", "str", "NoneType", "list", "tuple"], PySem.W.Looks (model X.prog X.w) s.heap (isSubtype (.ref C) (.type T)) false := fun T hT => by
    have e := no T hT
    unfold PySem.W.kitOne at e
    have ne : (Value.ref C == Value.type T) = false := by rfl
    rw [ne, if_neg Bool.false_ne_true] at e
    exact (PySem.W.kit_cls I.kIn e).2.2
  have fin : wpAny (model X.prog X.w) X.A (call (.ref f) [.ref a, v]) (PySem.W.CmpBack (EP X pins σ Q)) X.xe s := by
    refine wpAny_mono (run_at Fn hr rfl hb hx I (.cons (show L2.RelV (V.ref a) (Value.ref a) from rfl) (.cons rx .nil)) hsp) (fun v s' hv => ?_) fun _ _ z => z
    cases v <;> first | exact hv | (obtain ⟨w, _, _, z, _⟩ := hv; exact (notImpl_no z).elim)
  have O' : s.heap.get? a = some (PySem.W.instObj C dx) := O.1
  cases lv with
  | non =>
    cases (show v = Value.none from rx)
    exact cmp_refl hr.units0 hF I.ok.mod.kin J (show s.TypeIs .none "NoneType" from rfl) F.slot_NoneType_eq (sub _ (by decide)) hs hf (dec_none ⟨rfl, rfl⟩) fin
  | int i =>
    obtain ⟨t, e⟩ := (show ∃ t, v = Value.int i t from rx)
    subst e
    exact cmp_refl hr.units0 hF I.ok.mod.kin J (typeIs_int s i t) F.slot_int_eq (sub _ (by decide)) hs hf (dec_int O' ⟨rfl, rfl⟩) fin
  | str i =>
    obtain ⟨t, e⟩ := (show ∃ t, v = Value.str i t from rx)
    subst e
    exact cmp_refl hr.units0 hF I.ok.mod.kin J (typeIs_str s i t) F.slot_str_eq (sub _ (by decide)) hs hf (dec_str O' ⟨rfl, rfl⟩) fin
  | @lst b xs h =>
    cases (show v = Value.ref b from rx)
    obtain ⟨its, r, hl, _⟩ := I.list (show SqL X.K H b xs from SqL.of h)
    obtain ⟨o, ho, hc, _⟩ := hl.isList
    have tl : ∃ o, s.heap.get? b = some o ∧ o.cls = .type "list" := ⟨_, ho, hc⟩
    exact cmp_refl hr.units0 hF I.ok.mod.kin J tl F.slot_list_eq (sub _ (by decide)) hs hf (dec_list O' tl (sub _ (by decide)) ⟨rfl, rfl⟩) fin
  | @tup b xs h =>
    cases (show v = Value.ref b from rx)
    obtain ⟨its, r, hl, _⟩ := I.tuple (show SqT X.K H b xs from SqT.of h)
    obtain ⟨o, ho, hc, _⟩ := hl
    have tl : ∃ o, s.heap.get? b = some o ∧ o.cls = .type "tuple" := ⟨_, ho, hc⟩
    exact cmp_refl hr.units0 hF I.ok.mod.kin J tl F.slot_tuple_eq (sub _ (by decide)) hs hf (dec_tuple O' tl (sub _ (by decide)) ⟨rfl, rfl⟩) fin
theorem op_or {op : Value → Value → Sem Value} {r1 r2 : R2} (h1 : OpR X op r1) (h2 : OpR X op r2) : OpR X op fun x y H Q => r1 x y H Q ∨ r2 x y H Q := fun pins s σ H x y v u Q I rx ry h => h.elim (h1 pins s σ H x y v u Q I rx ry) (h2 pins s σ H x y v u Q I rx ry)
theorem kx_eqOwn {K : PySem.W.Frag} (h : X.K = K) {CX : CXT} {k : Nat} {C f : Addr} {fd : FuncData} {ps : List Str} {sp : Sp} {E : XK} (F : FnOk X.prog X.w X.K X.mg X.base CX k f fd ps sp) (hr : Room k X.A)
    (hs : PySem.W.findIn X.K (.ref C) "__eq__" = some (some (.ref f))) (hf : PySem.W.isFn X.K (.ref f) = true) (hb : Binds X.K fd ps []) (hx : Passes CX X E) : OpR X (compareOp .Eq) (rEqOwn K C sp E) := by
  subst h
  exact op_eqOwn F hr hs hf hb hx
theorem kx_catT {K : PySem.W.Frag} (h : X.K = K) : OpR X (binaryOp .Add) (rCatT K) := by subst h; exact op_catT
end
end GS
/-! Texts of data where nothing is being shown (the guards are told); whole roots. -/
namespace GS
open PySem PySem.Spec PyProof.Rows L2
/-! ### whole roots -/
def rRoot : List V → Hp → VK → Prop := fun vs H Q => ∃ i : Int, vs = [.int i] ∧ 0 ≤ i ∧ i.toNat.log2 < 13000 ∧ ∀ r : Nat, r * r ≤ i.toNat → i.toNat < (r + 1) * (r + 1) → Q (.int (r : Int)) H
theorem cr_root {X : Cx} : CallR X (.builtin "math.isqrt") rRoot := by
  intro pins s σ H vs us Q I r h
  obtain ⟨i, rfl, h0, hz, q⟩ := h
  obtain ⟨u, rfl, t, rfl⟩ := vals1 r
  have sp := Float64.isqrt_spec i.toNat
  exact call_function_meets PySem.W.MGF.kind_isqrt PySem.W.MGF.plain_isqrt PySem.W.MGF.entry_isqrt (PySem.W.MGF.args_isqrt _) (PySem.W.mg_run_isqrt i t (by omega) (by omega) (by omega)).meets ⟨.int _, H, I.tok _, ⟨_, rfl⟩, q _ sp.1 sp.2⟩
/-! ### data -/
mutual
inductive Dat (K : PySem.W.Frag) (H : Hp) : V → PyData → Prop
  | non : Dat K H .non .none
  | bl (b : Bool) : Dat K H (.bl b) (.bool b)
  | int (i : Int) : Dat K H (.int i) (.int i)
  | str (x : Str) : Dat K H (.str x) (.str x)
  | lst {a : Addr} {xs : List V} {ds : List PyData} : SqL K H a xs → Dats K H xs ds → Dat K H (.ref a) (.list ds)
  | tup {a : Addr} {xs : List V} {ds : List PyData} : SqT K H a xs → Dats K H xs ds → Dat K H (.ref a) (.tuple ds)
inductive Dats (K : PySem.W.Frag) (H : Hp) : List V → List PyData → Prop
  | nil : Dats K H [] []
  | cons {x : V} {xs : List V} {d : PyData} {ds : List PyData} : Dat K H x d → Dats K H xs ds → Dats K H (x :: xs) (d :: ds)
end
section
variable {X : Cx} {pins : List (Addr × Obj)} {σ : L2.St} {H : Hp} {s : Shared}
mutual
theorem Dat.reads (I : Inv X pins σ H s) : ∀ {x : V} {d : PyData}, Dat X.K H x d → ∀ {v : Value}, RelV x v → ∃ as, Reads s.heap v d as
  | _, _, .non, v, r => ⟨[], by cases (show v = Value.none from r); exact .none⟩
  | _, _, .bl b, v, r => ⟨[], by cases (show v = Value.bool b from r); exact .bool b⟩
  | _, _, .int i, v, r => ⟨[], by obtain ⟨t, e⟩ := (show ∃ t, v = Value.int i t from r); cases e; exact .int i t⟩
  | _, _, .str x, v, r => ⟨[], by obtain ⟨t, e⟩ := (show ∃ t, v = Value.str x t from r); cases e; exact .str x t⟩
  | _, _, .lst (a := a) hs hd, v, r => by
    cases (show v = Value.ref a from r)
    obtain ⟨its, rv, ⟨o, n, e, hc, _, ho⟩, _⟩ := I.list hs
    obtain ⟨as, ra⟩ := Dats.reads I hd rv
    exact ⟨_, .list e hc ho ra⟩
  | _, _, .tup (a := a) hs hd, v, r => by
    cases (show v = Value.ref a from r)
    obtain ⟨its, rv, ⟨o, e, hc, n, ho⟩, _⟩ := I.tuple hs
    obtain ⟨as, ra⟩ := Dats.reads I hd rv
    exact ⟨_, .tuple e hc ho ra⟩
theorem Dats.reads (I : Inv X pins σ H s) : ∀ {xs : List V} {ds : List PyData}, Dats X.K H xs ds → ∀ {us : List Value}, Vals xs us → ∃ as, ReadsAll s.heap us ds as
  | _, _, .nil, us, r => by cases r; exact ⟨_, .nil⟩
  | _, _, .cons hx ht, us, r => by
    cases r with
    | cons r1 r2 =>
      obtain ⟨a1, k1⟩ := Dat.reads I hx r1
      obtain ⟨a2, k2⟩ := Dats.reads I ht r2
      exact ⟨_, .cons k1 k2⟩
end
end
theorem Dats.ints {K : PySem.W.Frag} {H : Hp} : ∀ ns : List Int, Dats K H (ns.map V.int) (ns.map PyData.int)
  | [] => .nil
  | n :: ns => .cons (.int n) (Dats.ints ns)
theorem Dats.bools {K : PySem.W.Frag} {H : Hp} : ∀ ns : List Bool, Dats K H (ns.map V.bl) (ns.map PyData.bool)
  | [] => .nil
  | n :: ns => .cons (.bl n) (Dats.bools ns)
/-- repr(x), x any list or tuple of data -/
def rShow (K : PySem.W.Frag) : List V → Hp → VK → Prop := fun vs H Q => ∃ (a : Addr) (d : PyData), vs = [.ref a] ∧ Dat K H (.ref a) d ∧ d.showable = true ∧ d.hasDict = false ∧ d.shown.length ≤ sizeLine ∧ d.depth ≤ 60 ∧ Q (.str d.shown) H
theorem cr_show {X : Cx} (hg : X.A.guards = some []) (hu : X.A.units + 64 < cLine) : CallR X (.builtin "repr") (rShow X.K) := by
  intro pins s σ H vs us Q I r h
  obtain ⟨a, d, rfl, hd, h1, h2, h3, h4, q⟩ := h
  obtain ⟨u, rfl, rv⟩ := vals1 r
  cases (show u = Value.ref a from rv)
  obtain ⟨as, rd⟩ := hd.reads I (v := .ref a) rfl
  exact repr_of_reads' rd h1 (fun z => by rw [h2] at z; cases z) hg (by omega) (fun _ _ e => e) (fun h' u tk k => ⟨.str d.shown, H, I.kept k, ⟨u, rfl⟩, q⟩) h3
/-- two texts of data are alike where the data are -/
theorem show_eq {d e : PyData} (h : d = e) : d.shown = e.shown := by rw [h]
end GS
/-! Defs that are called where nothing is being shown. -/
namespace GS
open PySem PySem.Spec PyProof.Rows L2
/-- what a def keeps to, where nothing is being shown -/
structure FnG (P : Program) (w : World) (K : PySem.W.Frag) (mg : PySem.Str → Option Value) (base : Heap) (CX : CXT) (k : Nat) (f : Addr) (fd : FuncData) (ps : List PySem.Str) (sp : Sp) : Prop where
  wide : ∀ vs H Q E, sp vs H Q E → vs.length = ps.length
  goes : ∀ (A : Around), A.guards = some [] → Room k A → ∀ (outer : List Env) (s : Shared) (H : Hp) (args : Args) (us : List Value) (vs : List V) (Q : VK) (E : XK),
    Env0 P w K mg base A outer s H → BindsTo s fd args (ps.zip us) → Vals vs us → sp vs H Q E → codeAny (model P w) A (.call (.ref f) args) (CR CX outer P w H s Q E) s
section
variable {P : Program} {w : World} {K : PySem.W.Frag} {mg : PySem.Str → Option Value} {base : Heap} {CX : CXT} {k : Nat} {f : Addr} {fd : FuncData} {ps : List PySem.Str} {sp : Sp}
theorem FnG.of (F : FnOk P w K mg base CX k f fd ps sp) : FnG P w K mg base CX k f fd ps sp :=
  ⟨F.len, fun A _ room outer s H args us vs Q E e b v q => F.run A outer s H args us vs Q E room e b v q⟩
theorem guards_deeper {A : Around} {env : Env} (h : A.guards = some []) : (A.deeper env).guards = some [] := h
theorem end_of {A : Around} {outer : List Env} {s : Shared} {H : Hp} {E : XK} {cx : Cx} {Q : VK} (e1 : cx.s_0 = s) (e2 : cx.H_0 = H) (e3 : cx.prog = P) (e4 : cx.w = w) (e5 : cx.fs = frs outer) (e6 : cx.ex = []) {σ' : L2.St} {H' : Hp} {s' : Shared} {v : V} {u : Value}
    (J : Inv cx [] σ' H' s') (rv : RelV v u) (q : Q v H') : CE outer P w H s Q u s' := by
  subst e1 e2 e3 e4
  refine ⟨v, H', J.os, J.bare, ?_, J.hok, rv, q⟩
  have b := J.base
  rw [e5, e6] at b
  exact b
theorem okG {x qual : PySem.Str} {params : Arguments} {body : List Stmt} {scope : Scope} {dvs : List V} {kws : List (PySem.Str × V)} {N : List PySem.Str} (F : FunD K x qual params body scope dvs kws f fd) (S : FnScope N ps scope) (wide : ∀ vs H Q E, sp vs H Q E → vs.length = ps.length)
    (text : ∀ (cdv : Value) (A : Around) (outer : List Env) (s : Shared) (H : Hp) (vs : List V) (Q : VK) (E : XK), A.guards = some [] → Room k (A.deeper (envOfC qual scope s.heap.objs.size f cdv)) → sp vs H Q E →
      ∃ t, PSs (cxOf CX P w K mg base N qual scope f cdv A outer s H E) body t ∧ t { nx := fun _ H' => Q .non H', rt := Q } (start N vs) H) : FnG P w K mg base CX (k + 1) f fd ps sp := by
  obtain ⟨oc, od, dV, kV, doc, pm, an, cdv, ct, osl, rfl, known, code, -, -⟩ := F.ex
  refine ⟨wide, fun A quiet room outer s H args us vs Q E e bind same want => ?_⟩
  have stays : ∀ b o, base.get? b = some o → s.heap.get? b = some o := fun b o z => (e.bs b o z).1
  have inK : K.In s.heap := e.mod.kin.keeps stays
  have free : s.heap.NoLimit := e.mod.nolimit.keeps stays
  refine codeAny_call_function room.depth (inK _ _ known) rfl S.co S.gen rfl (PySem.W.codeRec_of inK code) (bind _ _ _ _ ?_)
  refine wpAny_newFunctionEnv_cells S.kind ?slots fun env made s1 laid => ?run
  case slots =>
    intro y hy
    obtain ⟨n, v⟩ := y
    have hn := (List.of_mem_zip hy).1
    cases S.par n hn with
    | inl z => exact .inl z
    | inr z => exact .inr ⟨z, PySem.W.cellsFrom_some _ _ _ (.inl z)⟩
  case run =>
    subst made
    refine ⟨free.keeps laid.toInCall.keep, codeAny_func ?_⟩
    obtain ⟨t, reads, goal⟩ := text cdv A outer s H vs Q E quiet (room.deeper _) want
    have begun := inv_start (CX := CX) (E := E) S room.hd e (wide _ _ _ _ want) same laid
    refine wpAny_mono (reads.run [] s1 (start N vs) H _ begun goal) (fun way s' z => ?_) fun err s' z => z
    match way, z with
    | .ret u, ⟨v, σ', H', J, rv, q⟩ => exact end_of (A := A) (E := E) rfl rfl rfl rfl rfl rfl J rv q
    | .next, ⟨σ', H', J, q⟩ => exact end_of (A := A) (E := E) (v := V.non) (u := Value.none) rfl rfl rfl rfl rfl rfl J rfl q
    | .brk, ⟨_, _, _, q⟩ => exact False.elim q
    | .cont, ⟨_, _, _, q⟩ => exact False.elim q
end
section
variable {X : Cx} {CX : CXT} {k : Nat} {f : Addr} {fd : FuncData} {ps : List PySem.Str} {sp : Sp} {dvs : List V} {ds : List Value} {E : XK} {x : PySem.Str} {p pos : Pos} {e : Expr} {es : List Expr} {t : TA}
theorem goes_fn {pins : List (Addr × Obj)} {σ : L2.St} {H : Hp} {s : Shared} {Q : VK} {us : List Value} {vs : List V} (F : FnG X.prog X.w X.K X.mg X.base CX k f fd ps sp) (quiet : X.A.guards = some []) (room : Room k X.A) (hb : Binds X.K fd ps ds) (hd : Vals dvs ds) (out : Passes CX X E)
    (I : Inv X pins σ H s) (r : Vals vs us) (want : sp (vs ++ dvs) H Q E) : wpAny (model X.prog X.w) X.A (call (.ref f) us) (EP X pins σ Q) X.xe s := by
  have all := r.append hd
  have many : (us ++ ds).length = ps.length := all.length ▸ F.wide _ _ _ _ want
  refine wpAny_call (codeAny_mono (F.goes X.A quiet room X.stack s H ⟨us, []⟩ (us ++ ds) (vs ++ dvs) Q E I.env0 (hb s us I.kIn many) all want) fun res s' z => ?_)
  match res, z with
  | .error err, z => exact out pins σ H s err s' I z
  | .ok (.ret u), z => exact I.after z
  | .ok .next, z => exact False.elim z
  | .ok .brk, z => exact False.elim z
  | .ok .cont, z => exact False.elim z
theorem pe_callG (F : FnG X.prog X.w X.K X.mg X.base CX k f fd ps sp) (quiet : X.A.guards = some []) (room : Room k X.A) (hg : Gl X x) (hm : X.mg x = some (.ref f)) (hk : PySem.W.keepIn X.K (.ref f) = true) (hb : Binds X.K fd ps ds) (hd : Vals dvs ds) (out : Passes CX X E)
    (ha : PA X (e :: es) t) (hdb : (x == ("__debug__" : PySem.Str)) = false := by decide) (he : starEach (e :: es) X.env = (false, eval e X.env) :: starEach es X.env := by rfl) (hpl : (backTo pos (starEach es X.env)).any (·.1) = false := by rfl) :
    PE X (.Call (.Name x p) (e :: es) [] pos) (tCall sp dvs E t) :=
  ⟨fun pins s σ H Q I h => wpAny_Call_Name_kw (ld_glob I hg hm (PySem.W.callWith_K (h₀ := X.base) I.ok.mod.kin hk (thn (ha.run pos pins s σ H _ I h) fun us s1 ⟨vs, H1, I1, r, q⟩ => ⟨I1.kIn, goes_fn F quiet room hb hd out I1 r q⟩) he hpl) hdb)⟩
theorem pe_callG0 (F : FnG X.prog X.w X.K X.mg X.base CX k f fd ps sp) (quiet : X.A.guards = some []) (room : Room k X.A) (hg : Gl X x) (hm : X.mg x = some (.ref f)) (hk : PySem.W.keepIn X.K (.ref f) = true) (hb : Binds X.K fd ps ds) (hd : Vals dvs ds) (out : Passes CX X E)
    (hdb : (x == ("__debug__" : PySem.Str)) = false := by decide) : PE X (.Call (.Name x p) [] [] pos) (tCall sp dvs E tNil) :=
  ⟨fun pins s σ H Q I h => wpAny_Call_Name_kw (ld_glob I hg hm (PySem.W.callWith_K0 I.kIn hk (goes_fn (us := []) F quiet room hb hd out I .nil h)) hdb)⟩
end
end GS
/-! The law's own call, where nothing is being shown; tables of code objects. -/
namespace GS
open PySem PySem.Spec PyProof.Rows L2 LamX
open Classical in
/-- what is tracked ahead of the law: the tables, the script -/
noncomputable def Ahead (K : PySem.W.Frag) (a : Addr) (L : Obj) (cs : List (Addr × Addr)) (ns : List Int) : Hp := fun b =>
  if b ∈ cs.map (·.2) then some (.tbl #[]) else if b = a ∧ K.lookup a = none then some (.frz L (.lst (ns.map V.int))) else none
section
variable {P : Program} {w : World} {K : PySem.W.Frag} {mg mb : PySem.Str → Option Value} {a : Addr} {cs : List (Addr × Addr)} {s₁ : Shared} {vs : List Value} {ns : List Int}
theorem ahead_tab {L : Obj} {b : Addr} (h : b ∈ cs.map (·.2)) : Ahead K a L cs ns b = some (.tbl #[]) := by unfold Ahead; rw [if_pos h]
theorem ahead_is {L : Obj} (b : Addr) : Ahead K a L cs ns b = none ∨ (b ∈ cs.map (·.2) ∧ Ahead K a L cs ns b = some (.tbl #[])) ∨ (b = a ∧ K.lookup a = none ∧ Ahead K a L cs ns b = some (.frz L (.lst (ns.map V.int)))) := by
  unfold Ahead
  split
  · rename_i h; exact .inr (.inl ⟨h, rfl⟩)
  · split
    · rename_i h; exact .inr (.inr ⟨h.1, h.2, rfl⟩)
    · exact .inl rfl
theorem scene (KX : K.In s₁.heap) (hns : s₁.heap.Ns mainGlobals mg) (hb : s₁.heap.Ns builtinsNs mb) (hbb : ∀ x : PySem.Str, x ≠ "__name__" → mb x = bootBuiltins x) (lim : s₁.heap.NoLimit) (calm : s₁.gens = #[])
    (tabs : ∀ p ∈ cs, s₁.heap.get? p.2 = some { cls := .none, data := .fields #[] }) (notK : ∀ p ∈ cs, K.lookup p.2 = none) (codes : ∀ p ∈ cs, PySem.W.CodeHd s₁.heap p.1 p.2)
    (blt : cs ≠ [] → ∃ (bm : Addr) (ob : Obj), mg "__builtins__" = some (.ref bm) ∧ bm ≠ builtinsNs ∧ s₁.heap.get? bm = some ob ∧ ob.cls = .type "module" ∧ ob.dict = some builtinsNs ∧ ob.data = .plain)
    (isL : s₁.heap.get? a = some { cls := .type "list", data := .seq vs.toArray }) (isI : IntsAre vs ns) (short : ns.length ≤ sizeLine) :
    ∃ (H : Hp) (base : Heap), (∀ p ∈ cs, H p.2 = some (.tbl #[])) ∧ SqL K H a (ns.map V.int) ∧ K.In base ∧ base.Ns mainGlobals mg ∧ (∀ p ∈ cs, TabB base mg p.1 p.2) ∧ Env0 P w K mg base callerA [] s₁ H ∧
      ∀ u s', CE [] P w H s₁ (fun v _ => v = .bl true) u s' → u = Value.bool true ∧ OldK s₁.heap s'.heap ∧ s'.os = s₁.os ∧ AllBare s'.gens := by
  have same := vals_ints isI
  have long := isI.length
  have tabAt : ∀ b, b ∈ cs.map (·.2) → s₁.heap.get? b = some { cls := .none, data := .fields #[] } := by
    intro b z
    obtain ⟨p, m, rfl⟩ := List.mem_map.mp z
    exact tabs p m
  have aNot : a ∉ cs.map (·.2) := by
    intro z
    have e := tabAt a z
    rw [isL] at e
    injection e with e
    injection e with _ _ e
    cases e
  let H := Ahead K a { cls := .type "list", data := .seq vs.toArray } cs ns
  have free : ∀ (b : Addr) (o : Obj), s₁.heap.get? b = some o → (∀ l n, o.data ≠ .seq l n) → o.data ≠ .fields #[] → H b = none := by
    intro b o e n1 n2
    rcases ahead_is (K := K) (a := a) (cs := cs) (ns := ns) (L := { cls := .type "list", data := .seq vs.toArray }) b with z | ⟨z, -⟩ | ⟨rfl, -, -⟩
    · exact z
    · rw [tabAt b z] at e
      injection e with e
      exact absurd (congrArg Obj.data e).symm n2
    · rw [isL] at e
      injection e with e
      exact absurd (congrArg Obj.data e).symm (n1 _ _)
  have hide : ∀ (b : Addr) (o : Obj), s₁.heap.get? b = some o → (∀ l n, o.data ≠ .seq l n) → o.data ≠ .fields #[] → (hidT s₁.heap H).get? b = some o := fun b o e n1 n2 => hidT_get e (free b o e n1 n2)
  have names : ∀ (b : Addr) (m : PySem.Str → Option Value), s₁.heap.Ns b m → (hidT s₁.heap H).Ns b m := by
    intro b m ⟨o, es, ep, e, d, r⟩
    exact ⟨o, es, ep, hide b o e (fun l n z => by rw [d] at z; cases z) (fun z => by rw [d] at z; cases z), d, r⟩
  have inK : K.In (hidT s₁.heap H) := by
    intro b o e
    refine hidT_get (KX b o e) ?_
    rcases ahead_is (K := K) (a := a) (cs := cs) (ns := ns) (L := { cls := .type "list", data := .seq vs.toArray }) b with z | ⟨z, -⟩ | ⟨rfl, z, -⟩
    · exact z
    · obtain ⟨p, m, rfl⟩ := List.mem_map.mp z
      rw [notK p m] at e
      cases e
    · rw [z] at e
      cases e
  have hok : HOk P w H s₁.heap := by
    intro b o e
    rcases ahead_is (K := K) (a := a) (cs := cs) (ns := ns) (L := { cls := .type "list", data := .seq vs.toArray }) b with z | ⟨z, q⟩ | ⟨rfl, -, q⟩
    · have e' := z.symm.trans e
      cases e'
    · have e' := q.symm.trans e
      cases e'
      exact tabAt b z
    · have e' := q.symm.trans e
      cases e'
      exact ⟨isL, by simpa using short, vs, _, same, isL⟩
  refine ⟨H, hidT s₁.heap H, fun p m => ahead_tab (List.mem_map.mpr ⟨p, m, rfl⟩), ?_, inK, names _ _ hns, ?_, ?_, ?_⟩
  · cases z : K.lookup a with
    | some o =>
      have e := KX a o z
      rw [isL] at e
      cases e
      exact .inr ⟨_, vs.toArray, _, z, rfl, rfl, rfl, by rw [List.size_toArray, long]; exact short, by simpa using same⟩
    | none => exact .inl (.inr ⟨_, by show Ahead _ _ _ _ _ a = _; unfold Ahead; rw [if_neg aNot, if_pos ⟨rfl, z⟩]⟩)
  · intro p m
    have here := tabs p m
    obtain ⟨bm, ob, b1, b2, b3, b4, b5, b6⟩ := blt (List.ne_nil_of_mem m)
    obtain ⟨og, es, ep, eg, dg, -⟩ := hns
    refine ⟨?_, ⟨bm, ob, b1, b2, ?_, ?_, hide bm ob b3 (fun l n z => by rw [b6] at z; cases z) (fun z => by rw [b6] at z; cases z), b4, b5, b6⟩, ?_⟩
    · obtain ⟨o, us, file, tf, flags, tg, inF, text, tt, e1, r1, r2, r3, r4⟩ := codes p m
      refine ⟨o, us, file, tf, flags, tg, inF, text, tt, hide p.1 o e1 (fun l n z => by rw [r2] at z; cases z) (fun z => ?_), r1, r2, r3, r4⟩
      rw [r2] at z
      cases z
      simp at r3
    · intro z
      rw [z, eg] at b3
      cases b3
      rw [dg] at b6
      cases b6
    · intro z
      rw [z, here] at b3
      cases b3
      cases b6
    · intro z
      rw [z, here] at eg
      cases eg
      cases dg
  · exact ⟨rfl, ⟨inK, names _ _ hns, ⟨mb, names _ _ hb, hbb⟩, let ⟨mc, l1, l2⟩ := lim; ⟨mc, names _ _ l1, l2⟩⟩, fun b o e => of_hidT e, Nat.le_of_eq (hidT_size _ _), trivial, fun b z => absurd z (by simp [frs]), hok, .of_eq calm⟩
  · intro u s' ⟨v, H', os, bare, un, hok', rv, q⟩
    have q' : v = .bl true := q
    subst q'
    have ru : u = Value.bool true := rv
    have kept : ∀ b o, b ∉ cs.map (·.2) → s₁.heap.get? b = some o → s'.heap.get? b = some o := by
      intro b o nb e
      rcases ahead_is (K := K) (a := a) (cs := cs) (ns := ns) (L := { cls := .type "list", data := .seq vs.toArray }) b with z | ⟨z, -⟩ | ⟨rfl, -, z⟩
      · exact un.keep b o e z (by simp [frs]) (by simp)
      · exact absurd z nb
      · have e2 := (hok' b _ (un.frzs b _ _ z)).1
        rw [isL] at e
        cases e
        exact e2
    have more : ∀ p ∈ cs, ∃ l : Array Value, s'.heap.get? p.2 = some { cls := .none, data := .fields l } := by
      intro p m
      obtain ⟨l, z⟩ := un.tbls p.2 #[] (ahead_tab (List.mem_map.mpr ⟨p, m, rfl⟩))
      exact ⟨_, hok' p.2 _ z⟩
    refine ⟨ru, ⟨fun b o e => ?_, fun b o e => ?_⟩, os, bare⟩
    · by_cases z : b ∈ cs.map (·.2)
      · obtain ⟨p, m, rfl⟩ := List.mem_map.mp z
        obtain ⟨l, g⟩ := more p m
        rw [tabs p m] at e
        cases e
        exact .inr (.inl ⟨((codes p m).tab (tabs p m)).isCodeTable, rfl, #[], l, rfl, by rw [Array.empty_append]; exact g⟩)
      · exact .inl (kept b o z e)
    · by_cases z : b ∈ cs.map (·.2)
      · obtain ⟨p, m, rfl⟩ := List.mem_map.mp z
        obtain ⟨l, g⟩ := more p m
        exact ⟨_, g⟩
      · exact ⟨o, kept b o z e⟩
end
end GS
/-! The end of a law's row whose def is proved where nothing is being shown. -/
namespace GS
open PySem PySem.Spec PyProof.Rows L2 LamX
theorem none_out {P : Program} {w : World} {H : Hp} {s s' : Shared} {e : Value} (c : L2.CX P w [] H s (fun _ _ _ => False) e s') : False := by
  obtain ⟨a, B, H', cls, d, -, -, -, -, -, -, -, z⟩ := c
  exact z
/-- the end: the script's bits are told, no guard stands, cs are the code objects with a table (none where the law makes no lambda) -/
theorem end_show {l : PySem.W.OpenLaw} {k n : Nat} {q : Program} {loose : List PySem.Str} {XP : (PySem.Str → Option Value) → Heap → Prop} {YP : World → Heap → Prop} {d : DefRec} {x : PySem.Str} (most : l.most = some n) (line : n ≤ sizeLine) (plain : d.params.defaults = []) (room : Room k callerA)
    (F : ∀ (w : World) (mg : PySem.Str → Option Value) (fa : Addr) (h : Heap), YP w h → h.Ns mainGlobals mg → mg d.name = some (.ref fa) → ∃ (K : PySem.W.Frag) (fd : FuncData) (cs : List (Addr × Addr)) (sp : Sp), K.In h ∧
      (∀ p ∈ cs, h.get? p.2 = some { cls := .none, data := .fields #[] }) ∧ (∀ p ∈ cs, K.lookup p.2 = none) ∧ (∀ p ∈ cs, PySem.W.CodeHd h p.1 p.2) ∧ (∀ (s : Shared) (u : Value), BindsTo s fd ⟨[u], []⟩ [(x, u)]) ∧
      (∀ (H : Hp) (a : Addr) (ns : List Int), ns.length ≤ n → (∀ z ∈ ns, Builtin.Int.intBits z ≤ 1048576) → (∀ p ∈ cs, H p.2 = some (.tbl #[])) → SqL K H a (ns.map V.int) → sp [.ref a] H (fun v _ => v = .bl true) fun _ _ _ => False) ∧
      ∀ base : Heap, K.In base → base.Ns mainGlobals mg → (∀ p ∈ cs, TabB base mg p.1 p.2) → FnG l.prog w K mg base (L2.CX l.prog w) k fa fd [x] sp) :
    PySem.W.WalkO q loose XP YP l.row.toRowW d [] (fun f vs => PySem.call f vs) := by
  refine Att.attach_callB most plain fun w s₀ s₁ mg mb fa o pm cd doc a vs ns Gr Yp _ _ _ named there numb short bits gens => ?_
  obtain ⟨K, fd, cs, sp, KX, tabs, notK, codes, binds, goes, ok⟩ := F w mg fa _ Yp Gr.T.g named
  obtain ⟨H, base, ht, hs, inK, ns', tb, e0, ends⟩ := scene (P := l.prog) (w := w) KX Gr.T.g Gr.T.b Gr.T.builtins Gr.T.nolimit gens tabs notK codes (fun _ => Gr.T.bmain) there numb (Nat.le_trans short line)
  refine codeAny_mono ((ok base inK ns' tb).goes callerA rfl room [] s₁ H ⟨[.ref a], []⟩ [.ref a] [.ref a] _ _ e0 (binds s₁ (.ref a)) (.cons rfl .nil) (goes H a ns short bits ht hs)) fun r s' z => ?_
  match r, z with
  | .error e, z => exact (none_out z).elim
  | .ok (.ret u), z =>
    obtain ⟨ru, r2⟩ := ends u s' z
    exact ⟨by rw [ru], r2⟩
  | .ok .next, z => exact False.elim z
  | .ok .brk, z => exact False.elim z
  | .ok .cont, z => exact False.elim z
end GS
/-! A text times an integer; sorted(..), tuple(..) within a comprehension. -/
namespace GS
open PySem PySem.Spec PyProof.Rows L2
def rMulS : V → V → Hp → VK → Prop := fun x y H Q => ∃ (z : PySem.Str) (n : Int), x = .str z ∧ y = .int n ∧ MulOk z n ∧ Q (.str (Txt.mul z n)) H
theorem op_mulS {X : Cx} : OpR X (binaryOp .Mult) rMulS := by
  intro pins s σ H x y v u Q I rx ry h
  obtain ⟨z, n, rfl, rfl, ok, q⟩ := h
  obtain ⟨t, rfl⟩ := rx
  obtain ⟨t', rfl⟩ := ry
  exact SB.mul ok fun t' k => ⟨.str _, H, I.tok _, ⟨_, rfl⟩, q⟩
theorem mulOk_small {z : PySem.Str} {n : Int} (h0 : 1 ≤ n) (h1 : n ≤ 100000) (h2 : z.length ≤ 100) : MulOk z n := by
  refine ⟨?_, fun _ _ => ?_, fun _ _ => ?_⟩
  · rw [decide_eq_false (by omega), decide_eq_false (by omega)]; rfl
  · have : (100 : Int) ≤ (2 ^ 63 - 1) / n := by
      rw [Int.le_ediv_iff_mul_le (by omega)]
      omega
    omega
  · have e : n.toNat ≤ 100000 := by omega
    have : z.length * n.toNat ≤ 100 * 100000 := Nat.mul_le_mul h2 e
    unfold Builtin.Str.tooLong
    simp
    have : (100 * 100000 : Nat) ≤ sizeLine := by decide
    omega
theorem kx_tupOf {X : Cx} {K : PySem.W.Frag} (h : X.K = K) : CallR X (.type "tuple") (fun xs H Q => ∃ p ys, xs = [.ref p] ∧ ((SqL K H p ys ∧ ∀ l, H l = none → Q (.ref l) (upd H l (.tup ys))) ∨ (SqT K H p ys ∧ Q (.ref p) H))) := by subst h; exact call_tuple_of
theorem kx_sortI {X : Cx} {K : PySem.W.Frag} (h : X.K = K) : CallR X (.builtin "sorted") (rSortedI K) := by subst h; exact cr_sortedI
end GS
/-! sum, factorial, comb; xs[k::-1]; two ways of a call. -/
namespace GS
open PySem PySem.Spec PyProof.Rows L2
theorem kx_sum {X : Cx} {K : PySem.W.Frag} (h : X.K = K) (hc : X.calm = true) : CallR X (.builtin "sum") (rSum K) := by subst h; exact cr_sum hc
theorem kx_max {X : Cx} {K : PySem.W.Frag} (h : X.K = K) (hc : X.calm = true) : CallR X (.builtin "max") (rMax K) := by subst h; exact cr_max hc
theorem kx_piseq {X : Cx} {K : PySem.W.Frag} (h : X.K = K) {tg l : Expr} {tl : TE} (hl : PE X l tl) : PI X tg l (iSeq K tl) := by subst h; exact pi_seq hl
theorem kx_pilist {X : Cx} {K : PySem.W.Frag} (h : X.K = K) {tg l : Expr} {tl : TE} (hl : PE X l tl) : PI X tg l (iList K tl) := by subst h; exact pi_list hl
theorem kx_pitup {X : Cx} {K : PySem.W.Frag} (h : X.K = K) {tg l : Expr} {tl : TE} (hl : PE X l tl) : PI X tg l (iTup K tl) := by subst h; exact pi_tup hl
def rFac : List V → Hp → VK → Prop := fun vs H Q => ∃ n : Nat, vs = [.int n] ∧ n ≤ 20000 ∧ Q (.int (Builtin.Math.factorialNat n : Nat)) H
theorem cr_fac {X : Cx} : CallR X (.builtin "math.factorial") rFac := by
  intro pins s σ H vs us Q I r h
  obtain ⟨n, rfl, hn, q⟩ := h
  obtain ⟨t, rfl⟩ : ∃ t, us = [.int (n : Int) t] := by
    cases r with
    | cons a b => cases b; obtain ⟨t, rfl⟩ := a; exact ⟨t, rfl⟩
  refine PySem.W.mc_factorial (by omega) (by omega) fun _ => ⟨.int _, H, I.tok _, ⟨_, rfl⟩, ?_⟩
  rw [Int.toNat_natCast]
  exact q
def rComb : List V → Hp → VK → Prop := fun vs H Q => ∃ a b : Int, vs = [.int a, .int b] ∧ 0 ≤ a ∧ 0 ≤ b ∧ a ≤ 18000 ∧ Q (.int (PySem.W.mcComb a b)) H
theorem cr_comb {X : Cx} : CallR X (.builtin "math.comb") rComb := by
  intro pins s σ H vs us Q I r h
  obtain ⟨a, b, rfl, h1, h2, h3, q⟩ := h
  obtain ⟨t, u, rfl⟩ := Vals.int2 r
  exact PySem.W.mc_comb h1 h2 (by omega) (.inr h3) fun _ => ⟨.int _, H, I.tok _, ⟨_, rfl⟩, q⟩
/-- a call that goes one of two ways -/
theorem cr_two {X : Cx} {f : Value} {r1 r2 : List V → Hp → VK → Prop} (h1 : CallR X f r1) (h2 : CallR X f r2) : CallR X f (fun xs H Q => r1 xs H Q ∨ r2 xs H Q) := by
  intro pins s σ H vs us Q I r h
  rcases h with h | h
  · exact h1 pins s σ H vs us Q I r h
  · exact h2 pins s σ H vs us Q I r h
theorem rev_bounds (n m : Nat) : sliceBounds (some (n : Int)) none (some (-1)) m = (((min (n + 1) m : Nat) : Int) - 1, -1, -1) := by
  unfold sliceBounds
  simp
  omega
theorem rev_pick (items : Array Value) (n : Nat) : slicePick items (some (n : Int)) none (some (-1)) = (items.toList.take (n + 1)).reverse.toArray := by
  unfold slicePick
  rw [rev_bounds]
  show ((sliceRange (((min (n + 1) items.size : Nat) : Int) - 1) (-1) (-1)).filterMap (items[·]?)).toArray = _
  rw [PySem.W.krv_sliceRange, PySem.W.krv_range, List.filterMap_reverse]
  congr 2
  have h := PySem.W.krv_all ((items.toList.take (n + 1)).toArray)
  simp only [List.size_toArray, List.length_take, Array.length_toList] at h
  rw [show items.size = items.toList.length from rfl] at h ⊢
  rw [← h]
  have key : ∀ (l : List Nat), (∀ i ∈ l, i < min (n + 1) items.toList.length) → l.filterMap (items[·]?) = l.filterMap ((items.toList.take (n + 1)).toArray[·]?) := by
    intro l
    induction l with
    | nil => intro _; rfl
    | cons i l ih =>
      intro hl
      have hi := hl i (by simp)
      have e : items[i]? = (items.toList.take (n + 1)).toArray[i]? := by
        have hn : i < n + 1 := by omega
        simp [List.getElem?_take, hn]
      rw [List.filterMap_cons, List.filterMap_cons, e, ih fun k hk => hl k (by simp [hk])]
  exact key _ fun i hi => List.mem_range.mp hi
def tRevF (K : PySem.W.Frag) (te tl : TE) : TE := fun σ H Q => te σ H fun x H1 => tl σ H1 fun i H2 => ∃ z : Int, i = .int z ∧ ∃ (a : Addr) (xs : List V) (n : Nat), x = .ref a ∧ z = n ∧ SqL K H2 a xs ∧ ∀ p, H2 p = none → Q (.ref p) (upd H2 p (.lst (xs.take (n + 1)).reverse))
theorem r_revF {K : PySem.W.Frag} {te tl : TE} {σ : L2.St} {H : Hp} {Q : VK} (q : te σ H fun x H1 => tl σ H1 fun i H2 => ∃ z : Int, i = .int z ∧ ∃ (a : Addr) (xs : List V) (n : Nat), x = .ref a ∧ z = n ∧ SqL K H2 a xs ∧ ∀ p, H2 p = none → Q (.ref p) (upd H2 p (.lst (xs.take (n + 1)).reverse))) : tRevF K te tl σ H Q := q
theorem pe_revF {X : Cx} {K : PySem.W.Frag} (hK : X.K = K) {e lo : Expr} {te tl : TE} {k : Nat} {p1 p2 p3 pos : Pos} (he : PE X e te) (hl : PE X lo tl) : PE X (.Subscript e (.Slice (some lo) none (some (.UnaryOp .USub (.Constant (.int 1) k p1) p2)) p3) pos) (tRevF K te tl) := by
  subst hK
  refine ⟨fun pins s σ H Q I h => ?_⟩
  refine Subscript_ (thn (he.run pins s σ H _ I h) fun v s1 ⟨x, H1, I1, r1, q1⟩ => ?_)
  have hst : PO X (some (.UnaryOp .USub (.Constant (.int 1) k p1) p2)) (tPart (tUn (rU fun i => .int (-i)) (tC (.int 1)))) := po_some (pe_un un_neg pe_int)
  have hlo := po_some hl
  refine wpAny_Slice (thn (hlo.run pins s1 σ H1 (fun o H2 => ∃ (a : Addr) (xs : List V) (n : Nat), x = .ref a ∧ o = some (n : Int) ∧ SqL X.K H2 a xs ∧ ∀ p, H2 p = none → Q (.ref p) (upd H2 p (.lst (xs.take (n + 1)).reverse))) I1 ?_) fun vl s2 ⟨l, H2, I2, pl, el⟩ => ?_)
  · have e : (fun (i : V) (H2 : Hp) => ∃ z : Int, i = .int z ∧ ∃ (a : Addr) (xs : List V) (n : Nat), x = .ref a ∧ z = n ∧ SqL X.K H2 a xs ∧ ∀ p, H2 p = none → Q (.ref p) (upd H2 p (.lst (xs.take (n + 1)).reverse)))
        = fun (i : V) (H2 : Hp) => ∃ z : Int, i = .int z ∧ ∃ (a : Addr) (xs : List V) (n : Nat), x = .ref a ∧ some z = some (n : Int) ∧ SqL X.K H2 a xs ∧ ∀ p, H2 p = none → Q (.ref p) (upd H2 p (.lst (xs.take (n + 1)).reverse)) := by
      simp only [Option.some.injEq]
    show tl σ H1 _
    rw [← e]
    exact q1
  obtain ⟨a, xs, n, ex, eo, hx, q⟩ := el
  subst ex eo
  cases r1
  refine thn (po_none.run pins s2 σ H2 (fun o H3 => o = none ∧ H3 = H2) I2 ⟨rfl, rfl⟩) fun vu s3 ⟨u, H3, I3, pu, eu, e3⟩ => ?_
  subst eu e3
  refine thn (hst.run pins s3 σ H3 (fun o H4 => o = some (-1) ∧ H4 = H3) I3 ⟨1, rfl, -1, rfl, rfl, rfl⟩) fun vs s4 ⟨o, H4, I4, ps, eo, e4⟩ => ?_
  subst eo e4
  have I5 : Inv X pins σ H4 { s4 with heap := s4.heap.push { cls := .type "slice", data := .fields #[vl, vu, vs] } } := I4.kept (t' := s4.toks) fun b ob q => Heap.get?_push_of_some _ q
  obtain ⟨its, r, ht, hz⟩ := I5.list hx
  have hlen := r.length
  show wpAny (model X.prog X.w) X.A (subscriptTail e (.Slice (some lo) none (some (.UnaryOp .USub (.Constant (.int 1) k p1) p2)) p3) (.ref a) (.ref s4.heap.objs.size)) (EP X pins σ Q) X.xe { s4 with heap := s4.heap.push { cls := .type "slice", data := .fields #[vl, vu, vs] } }
  refine tail_any (ops := [.ref a, .ref s4.heap.objs.size]) ht.isList.typeIs (PySem.slot_list_getitem.lookup) ?_ (by with_unfolding_all rfl)
  refine wpAny_getItem_list_slice ht.isList (Heap.IsSliceOf.new _ vl vu vs) pl pu ps (by decide) ?_ (by rw [List.size_toArray]; omega)
  rw [rev_pick]
  refine ⟨.ref _, _, I5.laid (t' := s4.toks) (o := .lst (xs.take (n + 1)).reverse) (fun b ob q => Heap.get?_push_of_some _ q) (Nat.le_refl _) ?_, rfl, q _ (I5.hok.fresh (Nat.le_refl _))⟩
  exact ⟨by rw [List.length_reverse, List.length_take]; omega, _, 0, (r.take (n + 1)).reverse, Heap.get?_push_size _ rfl⟩
end GS
/-! An error kept behind its suite; isinstance and fields of it. -/
namespace GS
open PySem PySem.Spec PySem.Calls PyProof.Rows L2 TL
/-- an error that was caught and kept: its class, its dict -/
def ErrO (a : Addr) (cls : Value) (d : Option Addr) : HO := .ext fun h => ∃ oe, h.get? a = some oe ∧ Zc cls d oe ∧ ∃ vs, oe.data = .fields vs
theorem errO_ok {P : Program} {w : World} {H : Hp} {h : Heap} {a : Addr} {cls : Value} {d : Option Addr} {oe : Obj} {vs : Array Value} (e : h.get? a = some oe) (z : Zc cls d oe) (f : oe.data = .fields vs) : ObjOk P w H h a (ErrO a cls d) :=
  ⟨⟨oe, e, z, vs, f⟩, ⟨oe, e⟩, fun _ _ ⟨o, q, r⟩ k => ⟨o, k o q, r⟩⟩
section
variable {X : Cx} {pins : List (Addr × Obj)} {σ : L2.St} {H : Hp} {s sI : Shared} {a : Addr} {B : Heap} {cls : Value} {d : Option Addr} {D : Ends} {Wout : WX}
/-- an object that lay outside is tracked from now on -/
theorem Inv.track {φ : Heap → Prop} (I : Inv X pins σ H s) (n0 : X.s_0.heap.get? a = none) (na : H a = none) (nL : a ≠ X.env.locals) (nC : ∀ x c, X.env.cells.lookup x = some c → c ≠ a) (nP : ∀ p ∈ X.pn ++ pins, p.1 ≠ a) (new : ObjOk X.prog X.w (upd H a (.ext φ)) s.heap a (.ext φ)) :
    Inv X pins σ (upd H a (.ext φ)) s := by
  refine ⟨I.ok, I.os, I.bare, ⟨I.base.keep, I.base.slot, fun b o e n hx => ?_, I.base.there, fun b xs e => ?_, fun b o u e => ?_, fun b ps e => ?_⟩, I.loc, I.cell, ?_, fun x c e => ?_, fun p hp => ?_, fun b u e => ?_, I.len⟩
  · rw [upd_ne (fun z => by rw [z, n0] at e; cases e)]
    exact I.base.free b o e n hx
  · have q := I.base.tups b xs e
    rw [upd_ne (ne_of_none q na)]
    exact q
  · have q := I.base.frzs b o u e
    rw [upd_ne (ne_of_none q na)]
    exact q
  · obtain ⟨m, q⟩ := I.base.tbls b ps e
    exact ⟨m, by rw [upd_ne (ne_of_none q na)]; exact q⟩
  · rw [upd_ne (Ne.symm nL)]
    exact I.free
  · rw [upd_ne (nC x c e)]
    exact I.freeC x c e
  · obtain ⟨h1, h2, h3⟩ := I.pin p hp
    exact ⟨h1, by rw [upd_ne (nP p hp)]; exact h2, h3⟩
  · by_cases hb : b = a
    · subst hb
      rw [upd_same] at e
      cases e
      exact new
    · rw [upd_ne hb] at e
      exact (I.hok b u e).stay (fun c v _ q => q) (fun c q => by rw [upd_ne (ne_of_none q na)]; exact q) fun c xs q => by rw [upd_ne (ne_of_none q na)]; exact q
theorem Caught.off2 (c : Caught X pins σ H a B cls d sI s) (hst : X.stack = X.env :: X.outer) : ∀ b ∈ frs X.stack, b ≠ a := fun b hb z => by
  obtain ⟨oe, vs, e1, _, e3⟩ := c.fl.there
  rw [hst] at hb
  obtain ⟨_, o, ho, hnf⟩ := c.fl.2.2.1.mem hb
  rw [z, e1] at ho
  exact hnf vs (by rw [← Option.some.inj ho]; exact e3)
theorem Caught.out (c : Caught X pins σ H a B cls d sI s) (hst : X.stack = X.env :: X.outer) (hx : X.ex = []) : X.s_0.heap.get? a = none := by
  have nb : B.get? a = none := c.fl.2.1
  cases e : X.s_0.heap.get? a with
  | none => rfl
  | some o =>
    obtain ⟨o', q⟩ := c.inv.base.there a o e (by rw [hx]; exact fun z => nomatch z)
    have z := c.nb a o' q (fun h => c.off2 hst a h rfl)
    rw [nb] at z
    cases z
theorem Caught.pins_ne (c : Caught X pins σ H a B cls d sI s) (hst : X.stack = X.env :: X.outer) : ∀ p ∈ X.pn ++ pins, p.1 ≠ a := fun p hp z => by
  obtain ⟨h1, h2, h3, h4, h5⟩ := c.inv.pin p hp
  have nb : B.get? a = none := c.fl.2.1
  have q := c.nb p.1 p.2 h1 (fun h => c.off2 hst _ h z)
  rw [z, nb] at q
  cases q
/-- the ends of a suite whose error is kept: its name i goes -/
def asEndsK (i : Nat) (a : Addr) (cls : Value) (d : Option Addr) (D : Ends) : Ends := { nx := fun σ' H' => H' a = none → D.nx (σ'.set i none) (upd H' a (ErrO a cls d)), rt := D.rt, bk := fun σ' H' => D.bk (σ'.set i none) H', ct := fun σ' H' => D.ct (σ'.set i none) H' }
def wKeep (K : PySem.W.Frag) (Wout : WX) (D : Ends) (cs : List Value) (i : Nat) (ts : Addr → Value → Option Addr → TS) : WX := fun cls d σ H => ∃ b, PySem.W.exmAny K cls cs = some b ∧ (b = true → ∀ a, H a = none → ts a cls d (asEndsK i a cls d D) (σ.set i (some (.ref a))) H) ∧ (b = false → Wout cls d σ H)
theorem keep_clause {t : Expr} {n : Str} {cs : List Value} {ts : Addr → Value → Option Addr → TS} {st : Stmt} {sts : List Stmt} {pos' : Pos} {i : Nat} (hc : MTest X t cs) (hN : X.N.Nodup) (hi : X.N[i]? = some n) (hln : X.env.kindOf n = some .local)
    (su : ∀ (a : Addr) (oe : Obj) (cls : Value) (d : Option Addr) (pn : List (Addr × Obj)), Zc cls d oe → (∃ vs, oe.data = .fields vs) → PSs (X.suite a ((a, oe) :: pn)) (st :: sts) (ts a cls d))
    (hst : X.stack = X.env :: X.outer) (hf : X.env.frame = some X.env.locals) (hx : X.ex = []) (tk : Takes X Wout)
    {s : Shared} (c : Caught X pins σ H a B cls d sI s) (w : wKeep X.K Wout D cs i ts cls d σ H) : wpAny (model X.prog X.w) X.A (handleBy (.ref a) X.env [.ExceptHandler (some t) (some n) (st :: sts) pos']) (SP X pins D) X.xe s := by
  obtain ⟨b, hb1, hyes, hno⟩ := w
  refine wpAny_handleBy_cons (codeAny_handlers_test ?_) (by intro q; cases q)
  refine mtest c hf hc hb1 fun s c => ?_
  cases b with
  | false => exact mclauses .nil hst hf tk c (hno rfl)
  | true =>
    refine codeAny_handlers_suite_as (c.again fun s4 c4 => ?_)
    obtain ⟨oe, z1, z2, S⟩ := c4.suite (M := model X.prog X.w) hf
    have ok := c4.here.ok
    have n0 := c4.out hst hx
    have nP := c4.pins_ne hst
    refine store_ok (X := X.suite a ((a, oe) :: (X.pn ++ pins))) (v := .ref a) S hN hi (.inl hln) rfl (fun s5 S5 => ?_) (.inr hln)
    have fin : ∀ {σ6 : L2.St} {H6 : Hp} {s6 : Shared}, Inv (X.suite a ((a, oe) :: (X.pn ++ pins))) [] σ6 H6 s6 → H6 a = none ∧ Inv X pins σ6 (upd H6 a (ErrO a cls d)) s6 := fun {σ6 H6 s6} S6 => by
      obtain ⟨h1, h2, h3, h4, h5⟩ := S6.pin (a, oe) (List.mem_append_left _ List.mem_cons_self)
      have J := S6.unsuite ok
      obtain ⟨vs, hv⟩ := z2
      refine ⟨h2, Inv.track J n0 h2 h3 (fun x c e q => ?_) nP (errO_ok h1 z1 hv)⟩
      obtain ⟨v, oc, ho, hd⟩ := J.cell x c e
      rw [q, h1] at ho
      cases ho
      exact h5 v hd
    refine wpAny_mono ((su a oe cls d (X.pn ++ pins) z1 z2).run [] s5 _ H (asEndsK i a cls d D) S5 (hyes rfl a c.na)) (fun f s6 hsp => ?_) (fun _ _ z => False.elim z)
    cases f with
    | next => exact let ⟨σ6, H6, S6, q6⟩ := hsp; gone_ok (fin S6).2 hN hi hln fun s7 J7 => ⟨_, _, J7, q6 (fin S6).1⟩
    | brk => exact let ⟨σ6, H6, S6, q6⟩ := hsp; gone_ok (S6.unsuite ok) hN hi hln fun s7 J7 => ⟨_, _, J7, q6⟩
    | cont => exact let ⟨σ6, H6, S6, q6⟩ := hsp; gone_ok (S6.unsuite ok) hN hi hln fun s7 J7 => ⟨_, _, J7, q6⟩
    | ret u => exact let ⟨v6, σ6, H6, S6, r6, q6⟩ := hsp; gone_ok (S6.unsuite ok) hN hi hln fun s7 J7 => ⟨_, _, _, J7, r6, q6⟩
/-- THE RULE: try: .. except A as x: .., x kept -/
theorem ps_try_keep {body : List Stmt} {t : Expr} {n : Str} {cs : List Value} {ts : Addr → Value → Option Addr → TS} {st : Stmt} {sts : List Stmt} {pos' pos : Pos} {i : Nat} {tb : WX → TS} (hst : X.stack = X.env :: X.outer) (hf : X.env.frame = some X.env.locals) (hx : X.ex = []) (tk : Takes X Wout)
    (hb : ∀ (W : WX) (pn : List (Addr × Obj)) (xe : Value → Shared → Prop), Takes (X.tr pn xe) W → PassesOwn (model X.prog X.w) X.A X.env xe → PSs (X.tr pn xe) body (tb W)) (hc : MTest X t cs) (hN : X.N.Nodup) (hi : X.N[i]? = some n) (hln : X.env.kindOf n = some .local)
    (su : ∀ (a : Addr) (oe : Obj) (cls : Value) (d : Option Addr) (pn : List (Addr × Obj)), Zc cls d oe → (∃ vs, oe.data = .fields vs) → PSs (X.suite a ((a, oe) :: pn)) (st :: sts) (ts a cls d)) :
    PS X (.Try body [.ExceptHandler (some t) (some n) (st :: sts) pos'] [] [] pos) (fun D σ H => tb (wKeep X.K Wout D cs i ts) D σ H) := by
  refine ⟨fun pins s σ H D I h => wpAny_Try_except ?_⟩
  have ok := I.ok
  have fr : X.A.frames = some (X.env :: X.outer) := by rw [ok.frames, hst]
  have B0 := hb (wKeep X.K Wout D cs i ts) (X.pn ++ pins) (fun e s₁ => wpAny (model X.prog X.w) X.A (noteFrame e X.env) (fun _ s₂ => wpAny (model X.prog X.w) X.A (setFlight e none) (fun _ s₃ => wpAny (model X.prog X.w) X.A (handleBy e X.env [.ExceptHandler (some t) (some n) (st :: sts) pos']) (SP X pins D) X.xe s₃) X.xe s₂) X.xe s₁)
    (fun u s' xx => by
      obtain ⟨a, B, sI, pins', σ', H', cls, d, rfl, J', nb, up, sky, na, os, ag, w⟩ := xx
      refine Sky.land Zc.steady fr hf (show Sky B (X.env :: X.outer) a (Zc cls d) X.env.locals s'.heap by rw [← hst]; exact sky) fun h3 fl3 up3 => ?_
      exact keep_clause hc hN hi hln su hst hf hx tk ⟨J'.ofTry ok, nb, up.trans up3, na, os, ag, fl3⟩ w) PassesOwn.looking
  refine wpAny_mono (B0.run [] s σ H D (I.toTry _) h) (fun f s1 hsp => ?_) (fun _ _ z => z)
  cases f with
  | next => exact let ⟨σ', H', J', q⟩ := hsp; wpAny_execs_nil ⟨σ', H', J'.ofTry ok, q⟩
  | brk => exact let ⟨σ', H', J', q⟩ := hsp; ⟨σ', H', J'.ofTry ok, q⟩
  | cont => exact let ⟨σ', H', J', q⟩ := hsp; ⟨σ', H', J'.ofTry ok, q⟩
  | ret u => exact let ⟨v, σ', H', J', r, q⟩ := hsp; ⟨v, σ', H', J'.ofTry ok, r, q⟩
end
/-! isinstance and fields of an error that is kept -/
section
variable {X : Cx} {pins : List (Addr × Obj)} {σ : L2.St} {H : Hp} {s : Shared} {a : Addr}
theorem inst_kept {C dd : Addr} {fs : List (Str × V)} (I : Inv X pins σ H s) (he : H a = some (ErrO a (.ref C) (some dd))) (there : H dd = some (.xd fs)) :
    ∃ oe od, PySem.W.InstAt s.heap a oe C (some od) ∧ ∀ n v, fs.lookup n = some v → ∃ u, RelV v u ∧ PySem.W.lookIn n od = some (some u) := by
  obtain ⟨mA, hns, hr⟩ := (show ObjOk X.prog X.w H s.heap dd (.xd fs) from I.hok dd _ there)
  obtain ⟨od, ho, hl⟩ := lookIn_ns hns
  obtain ⟨⟨oe, ha, hz, vs, hd⟩, _, _⟩ := (show ObjOk X.prog X.w H s.heap a (ErrO a (.ref C) (some dd)) from I.hok a _ he)
  have plain : PySem.W.notCls oe := by
    unfold PySem.W.notCls
    rw [hd]
  refine ⟨oe, od, ⟨ha, hz.1, plain, by rw [hz.2]; exact ho⟩, fun n v hv => ?_⟩
  obtain ⟨u, hu, ru⟩ := RelO.some_of (v := v) (o := mA n) (by rw [← hv]; exact hr n)
  exact ⟨u, ru, by rw [hl, hu]⟩
def rIsO (K : PySem.W.Frag) : List V → Hp → VK → Prop := fun xs H Q => ∃ (a : Addr) (c : V) (cv : Value) (b : Bool) (C dd : Addr) (fs : List (Str × V)), xs = [.ref a, c] ∧ (∀ u, RelV c u → u = cv) ∧ H a = some (ErrO a (.ref C) (some dd)) ∧ ExcC K C ∧ PySem.W.kitOne K (.ref C) cv = some b ∧ H dd = some (.xd fs) ∧ Q (.bl b) H
theorem cr_isO {K : PySem.W.Frag} (hk : X.K = K) : CallR X (.builtin "isinstance") (rIsO K) := by
  subst hk
  intro pins s σ H xs us Q I r got
  obtain ⟨a, c, cv, b, C, dd, fs, rfl, only, he, ec, e, there, q⟩ := got
  obtain ⟨u1, u2, rfl, r1, r2⟩ := vals2 r
  cases r1
  rw [only _ r2]
  obtain ⟨oe, od, i, _⟩ := inst_kept I he there
  exact PySem.W.kia_one (kit_err ec) I.kIn i e (fun z => nomatch z) fun tk => ⟨.bl b, H, I.kept (t' := tk) fun _ _ z => z, rfl, q⟩
def rIsOT (K : PySem.W.Frag) : List V → Hp → VK → Prop := fun xs H Q => ∃ (a tp : Addr) (cs : List V) (us : List Value) (b : Bool) (C dd : Addr) (fs : List (Str × V)), xs = [.ref a, .ref tp] ∧ H tp = some (.tup cs) ∧ Paired ClsV cs us ∧ H a = some (ErrO a (.ref C) (some dd)) ∧ ExcC K C ∧ PySem.W.kitAny K (.ref C) us = some b ∧ H dd = some (.xd fs) ∧ Q (.bl b) H
theorem cr_isOT {K : PySem.W.Frag} (hk : X.K = K) : CallR X (.builtin "isinstance") (rIsOT K) := by
  subst hk
  intro pins s σ H xs us Q I r got
  obtain ⟨a, tp, cs, ws, b, C, dd, fs, rfl, hT, k, he, ec, e, there, q⟩ := got
  obtain ⟨u1, u2, rfl, r1, r2⟩ := vals2 r
  cases r1
  cases (show u2 = Value.ref tp from r2)
  obtain ⟨oe, od, i, _⟩ := inst_kept I he there
  obtain ⟨_, its, rv, o, h1, h2, n, h3⟩ := (show ObjOk X.prog X.w H s.heap tp (.tup cs) from I.hok tp _ hT)
  have e3 := ClsV.all k rv
  subst e3
  obtain ⟨oc, od', dt, sl⟩ := o
  simp only at h2 h3
  subst h2 h3
  exact PySem.W.kia_tup (kit_err ec) I.kIn i h1 e (fun z => nomatch z) fun tk => ⟨.bl b, H, I.tok tk, rfl, q⟩
def tXO (K : PySem.W.Frag) (n : Str) (te : TE) : TE := fun σ H Q => te σ H fun x H1 => ∃ (a C dd : Addr) (fs : List (Str × V)) (v : V), x = .ref a ∧ H1 a = some (ErrO a (.ref C) (some dd)) ∧ XfC K C ∧ PySem.W.findIn K (.ref C) n = some none ∧ H1 dd = some (.xd fs) ∧ fs.lookup n = some v ∧ Q v H1
theorem pe_xO {K : PySem.W.Frag} {e : Expr} {te : TE} {pos : Pos} {n : Str} (hk : X.K = K) (he : PE X e te) (plain : attributeBase e n X.env (eval e X.env) = eval e X.env := by rfl) : PE X (.Attribute e n pos) (tXO K n te) := by
  subst hk
  refine ⟨fun pins s σ H Q I h => attr_of plain (thn (he.run pins s σ H _ I h) fun u s1 got => ?_)⟩
  obtain ⟨x, H1, I1, rx, a, C, dd, fs, v, rfl, hea, T, no_, there, l, q⟩ := got
  obtain rfl : u = Value.ref a := rx
  obtain ⟨oe, od, i, fields⟩ := inst_kept I1 hea there
  obtain ⟨u, ru, hu⟩ := fields n v l
  exact PySem.HandSPX.exc_get I1.kIn i T.ga T.gg T.exC (PySem.W.findObj_own T.hdC no_ rfl hu) (handed_of ru) ⟨v, H1, I1.tok _, ru, q⟩
end
end GS
/-! The head's facts with tables of code objects; defs that make lambdas; a def that calls what it got. -/
namespace GS
open PySem PySem.W PySem.Calls PyProof.Rows He
/-- what the head tells, the tables of the defs tf left out of the written part: empty -/
structure SaysL (fa : List He.Fa) (ex : List Chk) (fn : List He5.DefA) (tf : List Defn) (h : Heap) (K : PySem.W.Frag) : Prop where
  m : SaysM fa ex fn K
  hd : ∀ p ∈ tf, PySem.W.codeHdIn K (cT K p).1 (cT K p).2 = true
  out : ∀ p ∈ tf, K.lookup (cT K p).2 = none
  empty : ∀ p ∈ tf, h.get? (cT K p).2 = some { cls := .none, data := .fields #[] }
def obsLG (n : Nat) (fa : List He.Fa) (ex : List Chk) (fn : List He5.DefA) (tf : List Defn) (g : Addr → Option Obj) : He.AlD × Bool := (obsM fa ex fn (frT g (He5.asA g n)), tabsB g tf (frT g (He5.asA g n)))
theorem saysL_of {n : Nat} {fa : List He.Fa} {ex : List Chk} {fn : List He5.DefA} {tf : List Defn} {h : Heap} (e : obsLG n fa ex fn tf h.get? = (He5.valA fn, true)) : SaysL fa ex fn tf h (frT h.get? (He5.asA h.get? n)) := by
  have e1 : obsM fa ex fn (frT h.get? (He5.asA h.get? n)) = He5.valA fn := congrArg (fun z : He.AlD × Bool => z.1) e
  have h2 : tabsB h.get? tf (frT h.get? (He5.asA h.get? n)) = true := congrArg (fun z : He.AlD × Bool => z.2) e
  have key : ∀ p ∈ tf, PySem.W.codeHdIn (frT h.get? (He5.asA h.get? n)) (cT (frT h.get? (He5.asA h.get? n)) p).1 (cT (frT h.get? (He5.asA h.get? n)) p).2 = true ∧ ∃ o, h.get? (cT (frT h.get? (He5.asA h.get? n)) p).2 = some o ∧ emptyTab o = true := fun p hp => by
    obtain ⟨h3, h4⟩ := ba (List.all_eq_true.mp h2 p hp)
    refine ⟨h3, ?_⟩
    cases q : h.get? (cT (frT h.get? (He5.asA h.get? n)) p).2 with
    | none =>
      rw [q] at h4
      cases h4
    | some o =>
      rw [q] at h4
      exact ⟨o, rfl, h4⟩
  exact ⟨e1, fun p hp => (key p hp).1, fun p hp => by
    obtain ⟨_, o, q, z⟩ := key p hp
    exact frT_none q z, fun p hp => by
    obtain ⟨_, o, q, z⟩ := key p hp
    rw [q, emptyTab_eq z]⟩
def hookL (n : Nat) (fa : List He.Fa) (ex : List Chk) (fn : List He5.DefA) (tf : List Defn) : PySem.W.Hook where
  α := He.AlD × Bool
  obs s := obsLG n fa ex fn tf s.heap.get?
  val _ := (He5.valA fn, true)
  says _ h := ∃ K : PySem.W.Frag, K.In h ∧ SaysL fa ex fn tf h K
  of _ _ e := ⟨_, frT_in, saysL_of e⟩
  keeps := fun _ _ _ ⟨K, i, c⟩ k => ⟨K, Frag.In.keeps i k, ⟨c.m, c.hd, c.out, fun p hp => k _ _ (c.empty p hp)⟩⟩
theorem obsLG_eq {n : Nat} {fa : List He.Fa} {ex : List Chk} {fn : List He5.DefA} {tf : List Defn} {g : Addr → Option Obj} {s : Shared} (h : ∀ a, g a = s.heap.get? a) : obsLG n fa ex fn tf g = (hookL n fa ex fn tf).obs s := by
  obtain rfl : g = s.heap.get? := funext h
  rfl
theorem SaysL.code {fa : List He.Fa} {ex : List Chk} {fn : List He5.DefA} {tf : List Defn} {h : Heap} {K : PySem.W.Frag} (X : K.In h) (c : SaysL fa ex fn tf h K) : ∀ p ∈ tf, PySem.W.CodeHd h (cT K p).1 (cT K p).2 := fun p hp => codeHd_of_K X (c.hd p hp)
end GS
namespace GS
open PySem PySem.Spec PyProof.Rows L2 LamX
/-- a def whose code object is told -/
theorem okL {P : Program} {w : World} {K : PySem.W.Frag} {mg : PySem.Str → Option Value} {base : Heap} {CX : CXT} {k : Nat} {f : Addr} {fd : FuncData} {ps : List PySem.Str} {sp : Sp}
    {x qual : PySem.Str} {params : Arguments} {body : List Stmt} {scope : Scope} {dvs : List V} {kws : List (PySem.Str × V)} {N : List PySem.Str} {p : He.Defn} (hf : He.fAd K p = f) (F : FunD K x qual params body scope dvs kws f fd) (S : FnScope N ps scope) (wide : ∀ vs H Q E, sp vs H Q E → vs.length = ps.length)
    (text : ∀ (cdv : Value) (A : Around) (outer : List Env) (s : Shared) (H : Hp) (vs : List V) (Q : VK) (E : XK), cdv = .ref (He.cT K p).1 → A.guards = some [] → Room k (A.deeper (envOfC qual scope s.heap.objs.size f cdv)) → sp vs H Q E →
      ∃ t, PSs (cxOf CX P w K mg base N qual scope f cdv A outer s H E) body t ∧ t { nx := fun _ H' => Q .non H', rt := Q } (start N vs) H) : FnG P w K mg base CX (k + 1) f fd ps sp := by
  obtain ⟨oc, od, dV, kV, doc, pm, an, cdv, ct, osl, rfl, known, code, -, -⟩ := F.ex
  refine ⟨wide, fun A quiet room outer s H args us vs Q E e bind same want => ?_⟩
  have stays : ∀ b o, base.get? b = some o → s.heap.get? b = some o := fun b o z => (e.bs b o z).1
  have inK : K.In s.heap := e.mod.kin.keeps stays
  have free : s.heap.NoLimit := e.mod.nolimit.keeps stays
  have cd : cdv = .ref (He.cT K p).1 := by
    obtain ⟨c, hc⟩ := He.codeIn_ref code
    have lk := known
    rw [← hf] at lk
    have := He.codeOf_eq (c := c) lk hc
    rw [hc]
    show Value.ref c = Value.ref (He.codeOf K p)
    rw [this]
  refine codeAny_call_function room.depth (inK _ _ known) rfl S.co S.gen rfl (PySem.W.codeRec_of inK code) (bind _ _ _ _ ?_)
  refine wpAny_newFunctionEnv_cells S.kind ?slots fun env made s1 laid => ?run
  case slots =>
    intro y hy
    obtain ⟨n, v⟩ := y
    have hn := (List.of_mem_zip hy).1
    cases S.par n hn with
    | inl z => exact .inl z
    | inr z => exact .inr ⟨z, PySem.W.cellsFrom_some _ _ _ (.inl z)⟩
  case run =>
    subst made
    refine ⟨free.keeps laid.toInCall.keep, codeAny_func ?_⟩
    obtain ⟨t, reads, goal⟩ := text cdv A outer s H vs Q E cd quiet (room.deeper _) want
    have begun := inv_start (CX := CX) (E := E) S room.hd e (wide _ _ _ _ want) same laid
    refine wpAny_mono (reads.run [] s1 (start N vs) H _ begun goal) (fun way s' z => ?_) fun err s' z => z
    match way, z with
    | .ret u, ⟨v, σ', H', J, rv, q⟩ => exact end_of (A := A) (E := E) rfl rfl rfl rfl rfl rfl J rv q
    | .next, ⟨σ', H', J, q⟩ => exact end_of (A := A) (E := E) (v := V.non) (u := Value.none) rfl rfl rfl rfl rfl rfl J rfl q
    | .brk, ⟨_, _, _, q⟩ => exact False.elim q
    | .cont, ⟨_, _, _, q⟩ => exact False.elim q
end GS
namespace GS
open PySem PySem.Spec PyProof.Rows L2 LamX
def kiB (x y : Str) (b : Bool) : Chk := fun K => decide (PySem.W.kitOne K (.ref (He.ga K x)) (.ref (He.ga K y)) = some b)
theorem kiB_ok {K : PySem.W.Frag} {x y : Str} {b : Bool} (h : kiB x y b K = true) : PySem.W.kitOne K (.ref (He.ga K x)) (.ref (He.ga K y)) = some b := of_decide_eq_true h
theorem pe_two {X : Cx} {e : Expr} {t1 t2 : TE} (h1 : PE X e t1) (h2 : PE X e t2) : PE X e (fun σ H Q => t1 σ H Q ∨ t2 σ H Q) := ⟨fun pins s σ H Q I h => by
  rcases h with h | h
  · exact h1.run pins s σ H Q I h
  · exact h2.run pins s σ H Q I h⟩
end GS
/-! zip of a list and a tuple, in any mix. -/
namespace GS
open PySem PySem.Spec PyProof.Rows L2 TL
def SqX (K : PySem.W.Frag) (H : Hp) : Bool → Addr → List V → Prop
  | true, a, xs => SqT K H a xs
  | false, a, xs => SqL K H a xs
def itAt (h : Heap) : Bool → Addr → Addr → Nat → Prop
  | true, it, a, i => h.IsTupleIter it a i
  | false, it, a, i => h.IsListIter it a i
def isAt (h : Heap) : Bool → Addr → Array Value → Prop
  | true, a, its => h.IsTuple a its
  | false, a, its => h.IsList a its
def itObj : Bool → Addr → Obj
  | true, a => { cls := .type "tuple_iterator", data := .fields #[.ref a, .int 0 0] }
  | false, a => { cls := .type "list_iterator", data := .fields #[.ref a, .int 0 0] }
theorem dr_at {prog : Program} {w : World} {A : Around} (hh : A.handled = none) (t : Bool) (it a : Addr) (hne : a ≠ it) (items : Array Value) :
    Draws prog w A it [it, a] items.size (fun i v => items[i]? = some v) (fun i h => itAt h t it a i ∧ isAt h t a items) := by
  cases t with
  | true => exact Draws.tuple hh it a hne items
  | false => exact Draws.list hh it a hne items
theorem itAt_obj {h : Heap} {t : Bool} {it a : Addr} {i : Nat} (x : itAt h t it a i) : ∃ o, h.get? it = some o ∧ ∀ v, o.data ≠ .cell v := by
  cases t with
  | true => exact let ⟨o, e, _, d⟩ := x; ⟨o, e, fun v q => by rw [d] at q; cases q⟩
  | false => exact let ⟨o, e, _, d⟩ := x; ⟨o, e, fun v q => by rw [d] at q; cases q⟩
theorem itAt_keep {h h' : Heap} {t : Bool} {it a : Addr} {i : Nat} (x : itAt h t it a i) (k : ∀ o, h.get? it = some o → h'.get? it = some o) : itAt h' t it a i := by
  cases t with
  | true => exact Heap.IsTupleIter.at x k
  | false => exact Heap.IsListIter.at x k
theorem isAt_keep {h h' : Heap} {t : Bool} {a : Addr} {its : Array Value} (x : isAt h t a its) (k : ∀ o, h.get? a = some o → h'.get? a = some o) : isAt h' t a its := by
  cases t with
  | true => exact Heap.IsTuple.at x k
  | false => exact Heap.IsList.at x k
theorem isAt_lt {h : Heap} {t : Bool} {a : Addr} {its : Array Value} (x : isAt h t a its) : a < h.objs.size := by
  cases t with
  | true => exact let ⟨o, e, _⟩ := x; Heap.lt_size e
  | false => exact let ⟨o, e, _⟩ := x; Heap.lt_size e
theorem beg_at (t : Bool) (a : Addr) (items : Array Value) : Begins (.ref a) (itObj t a) fun h => isAt h t a items := by
  cases t with
  | true => exact begins_tuple a items
  | false => exact begins_list a items
theorem itAt_new {h : Heap} {t : Bool} {it a : Addr} (e : h.get? it = some (itObj t a)) : itAt h t it a 0 := by
  cases t with
  | true => exact ⟨_, e, rfl, rfl⟩
  | false => exact ⟨_, e, rfl, rfl⟩
section
variable {X : Cx} {pins : List (Addr × Obj)} {σ : L2.St} {H : Hp} {s : Shared} {t : Bool} {a : Addr} {xs : List V}
theorem sqX_get (I : Inv X pins σ H s) (h : SqX X.K H t a xs) : ∃ its, Vals xs its ∧ isAt s.heap t a its.toArray := by
  cases t with
  | true => obtain ⟨its, rv, p, _⟩ := I.tuple h; exact ⟨its, rv, p⟩
  | false => obtain ⟨its, rv, p, _⟩ := I.list h; exact ⟨its, rv, p.isList⟩
theorem sqX_inj (I : Inv X pins σ H s) {ys : List V} (h : SqX X.K H t a xs) (g : SqX X.K H t a ys) : xs = ys := by
  cases t with
  | true => exact I.tuple_inj h g
  | false => exact I.list_inj h g
end
def ItzX (K : PySem.W.Frag) (t1 t2 : Bool) (a b : Addr) : It :=
  ⟨fun i H => ∃ (xs ys : List V) (x y : V), SqX K H t1 a xs ∧ SqX K H t2 b ys ∧ xs[i]? = some x ∧ ys[i]? = some y,
    fun i H v H' => ∃ T x y, v = .ref T ∧ H T = none ∧ H' = upd H T (.tup [x, y]) ∧ (∀ xs, SqX K H t1 a xs → xs[i]? = some x) ∧ ∀ ys, SqX K H t2 b ys → ys[i]? = some y,
    fun i H => ∃ xs ys : List V, SqX K H t1 a xs ∧ SqX K H t2 b ys ∧ i ≤ xs.length ∧ i ≤ ys.length ∧ (i = xs.length ∨ i = ys.length)⟩
theorem turn_zipX {P : Program} {w : World} {K : PySem.W.Frag} {elts : List Expr} {kk : Nat} {tpos : Pos} {t1 t2 : Bool} {a b z TI TO i1 i2 : Addr} (D : ZipSep2 z TI TO i1 i2 [i1, a] [i2, b]) :
    Turn P w K (.Tuple elts kk tpos) (ItzX K t1 t2 a b) [z, TI, TO, i1, i2] z (fun i h => IsZip h z TI TO .none ∧ IsTupOf2 h TI (.ref i1) (.ref i2) ∧ (∃ x y, IsTupOf2 h TO x y) ∧ itAt h t1 i1 a i ∧ itAt h t2 i2 b i) where
  mem := by simp
  obj := fun i h st c hc => by
    obtain ⟨hz, hTI, ⟨x, y, hTO⟩, h1, h2⟩ := st
    have e' : c = z ∨ c = TI ∨ c = TO ∨ c = i1 ∨ c = i2 := by simpa using hc
    rcases e' with q | q | q | q | q
    · rw [q]; exact ⟨_, hz, fun v q => nomatch q⟩
    · rw [q]; exact ⟨_, hTI, fun v q => nomatch q⟩
    · rw [q]; exact ⟨_, hTO, fun v q => nomatch q⟩
    · rw [q]; exact itAt_obj h1
    · rw [q]; exact itAt_obj h2
  keep := fun i h h' st k => by
    obtain ⟨hz, hTI, ⟨x, y, hTO⟩, h1, h2⟩ := st
    exact ⟨k z (by simp) _ hz, k TI (by simp) _ hTI, ⟨x, y, k TO (by simp) _ hTO⟩, itAt_keep h1 fun o q => k i1 (by simp) o q, itAt_keep h2 fun o q => k i2 (by simp) o q⟩
  item := by
    intro X hP hw hK hc i pins s σ H E I hf st hg
    subst hP hw hK
    obtain ⟨hz, hTI, ⟨x0, y0, hTO⟩, h1, h2⟩ := st
    obtain ⟨xs, ys, x, y, hqx, hqy, hx, hy⟩ := hg
    obtain ⟨its, rv, p⟩ := sqX_get I hqx
    obtain ⟨its2, rv2, p2⟩ := sqX_get I hqy
    obtain ⟨u, hu, ru⟩ := rv.get hx
    obtain ⟨u2, hu2, ru2⟩ := rv2.get hy
    have hzl : z < s.heap.objs.size := Heap.lt_size hz
    have n1 : a ≠ i1 := fun e => by
      have := (hf i1 (by simp)).1
      have hh := itAt_obj h1
      rw [← e] at hh this
      obtain ⟨o, q, _⟩ := hh
      cases t1 with
      | true =>
        obtain ⟨o2, e2, c2, _⟩ := (show s.heap.IsTuple a its.toArray from p)
        obtain ⟨o3, e3, c3, _⟩ := (show s.heap.IsTupleIter i1 a i from h1)
        rw [← e, e2] at e3
        cases e3
        rw [c2] at c3
        exact absurd c3 (by decide)
      | false =>
        obtain ⟨o2, e2, c2, _⟩ := (show s.heap.IsList a its.toArray from p)
        obtain ⟨o3, e3, c3, _⟩ := (show s.heap.IsListIter i1 a i from h1)
        rw [← e, e2] at e3
        cases e3
        rw [c2] at c3
        exact absurd c3 (by decide)
    have n2 : b ≠ i2 := fun e => by
      cases t2 with
      | true =>
        obtain ⟨o2, e2, c2, _⟩ := (show s.heap.IsTuple b its2.toArray from p2)
        obtain ⟨o3, e3, c3, _⟩ := (show s.heap.IsTupleIter i2 b i from h2)
        rw [← e, e2] at e3
        cases e3
        rw [c2] at c3
        exact absurd c3 (by decide)
      | false =>
        obtain ⟨o2, e2, c2, _⟩ := (show s.heap.IsList b its2.toArray from p2)
        obtain ⟨o3, e3, c3, _⟩ := (show s.heap.IsListIter i2 b i from h2)
        rw [← e, e2] at e3
        cases e3
        rw [c2] at c3
        exact absurd c3 (by decide)
    have k1 : i < its.toArray.size := by have := (List.getElem?_eq_some_iff.mp hu).1; simpa using this
    have k2 : i < its2.toArray.size := by have := (List.getElem?_eq_some_iff.mp hu2).1; simpa using this
    refine wpAny_pyNext_zipD2_item D (dr_at (prog := X.prog) (w := X.w) (A := X.A.in1) (I.ok.hd hc) t1 i1 a n1 its.toArray) (dr_at (prog := X.prog) (w := X.w) (A := X.A.in1) (I.ok.hd hc) t2 i2 b n2 its2.toArray) hz hTI hTO ⟨h1, p⟩ ⟨h2, p2⟩ k1 k2 fun x1 x2 h' tk y1 y2 z' TO' st1' st2' hT hsz hk => ?_
    have e1 : x1 = u := by have : its[i]? = some x1 := by simpa using y1
                           rw [hu] at this; exact (Option.some.inj this).symm
    have e2 : x2 = u2 := by have : its2[i]? = some x2 := by simpa using y2
                            rw [hu2] at this; exact (Option.some.inj this).symm
    subst e1 e2
    refine ⟨_, rfl, wpAny_letOwnedTupleGo_zip (s := { s with heap := h', toks := tk }) z' fun h'' z'' sb => ?_⟩
    have hT2 : h''.get? s.heap.objs.size = some { cls := .type "tuple", data := .seq #[x1, x2] } := (sb.2 _ (Nat.ne_of_gt hzl)).trans hT
    have new : ObjOk X.prog X.w (upd H s.heap.objs.size (.tup [x, y])) h'' s.heap.objs.size (.tup [x, y]) :=
      ⟨by show 2 ≤ sizeLine; decide, [x1, x2], .cons ru (.cons ru2 .nil), ⟨_, hT2, rfl, _, rfl⟩⟩
    have I1 : Inv X pins σ (upd H s.heap.objs.size (.tup [x, y])) { s with heap := h'', toks := tk } :=
      I.turnedNew (t' := tk) (ch := [z, TI, TO, i1, i2]) (fun c o hb q => (sb.2 c (fun q' => hb (by simp [q']))).trans (hk c o (fun q' => hb (by simp [q'])) (fun q' => hb (by simp [q'])) (fun q' => hb (by simp [q'])) (fun q' => hb (by simp [q'])) q)) hf (Nat.le_refl _) new
    have TOi2 : TO ≠ i2 := D.Ti2
    refine ⟨.ref s.heap.objs.size, _, I1, rfl, ⟨_, x, y, rfl, I.hok.fresh (Nat.le_refl _), rfl, fun l hl => by rw [sqX_inj I hl hqx]; exact hx, fun l hl => by rw [sqX_inj I hl hqy]; exact hy⟩, ⟨z'', ?_, ⟨x1, x2, ?_⟩, ?_, ?_⟩, fun c hcm => ?_⟩
    · exact (sb.2 _ D.TIz).trans (hk _ _ D.TIz D.TITO D.TIi1 D.TIi2 hTI)
    · exact (sb.2 _ D.TOz).trans TO'
    · exact itAt_keep st1'.1 fun o q => (sb.2 _ (Ne.symm D.zi1)).trans q
    · exact itAt_keep st2'.1 fun o q => (sb.2 _ (Ne.symm D.zi2)).trans q
    · have hlt : c < s.heap.objs.size := by
        have e' : c = z ∨ c = TI ∨ c = TO ∨ c = i1 ∨ c = i2 := by simpa using hcm
        rcases e' with q | q | q | q | q
        · rw [q]; exact hzl
        · rw [q]; exact Heap.lt_size hTI
        · rw [q]; exact Heap.lt_size hTO
        · rw [q]; obtain ⟨_, e1, _⟩ := itAt_obj h1; exact Heap.lt_size e1
        · rw [q]; obtain ⟨_, e2, _⟩ := itAt_obj h2; exact Heap.lt_size e2
      rw [upd_ne (Nat.ne_of_lt hlt)]
      exact (hf c hcm).1
  done := by
    intro X hP hw hK hc i pins s σ H E I hf st hg
    subst hP hw hK
    obtain ⟨hz, hTI, ⟨x0, y0, hTO⟩, h1, h2⟩ := st
    obtain ⟨xs, ys, hqx, hqy, l1, l2, hend⟩ := hg
    obtain ⟨its, rv, p⟩ := sqX_get I hqx
    obtain ⟨its2, rv2, p2⟩ := sqX_get I hqy
    have m1 := rv.length
    have m2 := rv2.length
    have n1 : a ≠ i1 := fun e => by
      cases t1 with
      | true =>
        obtain ⟨o2, e2, c2, _⟩ := (show s.heap.IsTuple a its.toArray from p)
        obtain ⟨o3, e3, c3, _⟩ := (show s.heap.IsTupleIter i1 a i from h1)
        rw [← e, e2] at e3
        cases e3
        rw [c2] at c3
        exact absurd c3 (by decide)
      | false =>
        obtain ⟨o2, e2, c2, _⟩ := (show s.heap.IsList a its.toArray from p)
        obtain ⟨o3, e3, c3, _⟩ := (show s.heap.IsListIter i1 a i from h1)
        rw [← e, e2] at e3
        cases e3
        rw [c2] at c3
        exact absurd c3 (by decide)
    have n2 : b ≠ i2 := fun e => by
      cases t2 with
      | true =>
        obtain ⟨o2, e2, c2, _⟩ := (show s.heap.IsTuple b its2.toArray from p2)
        obtain ⟨o3, e3, c3, _⟩ := (show s.heap.IsTupleIter i2 b i from h2)
        rw [← e, e2] at e3
        cases e3
        rw [c2] at c3
        exact absurd c3 (by decide)
      | false =>
        obtain ⟨o2, e2, c2, _⟩ := (show s.heap.IsList b its2.toArray from p2)
        obtain ⟨o3, e3, c3, _⟩ := (show s.heap.IsListIter i2 b i from h2)
        rw [← e, e2] at e3
        cases e3
        rw [c2] at c3
        exact absurd c3 (by decide)
    refine wpAny_pyNext_zipD2_end D (dr_at (prog := X.prog) (w := X.w) (A := X.A.in1) (I.ok.hd hc) t1 i1 a n1 its.toArray) (dr_at (prog := X.prog) (w := X.w) (A := X.A.in1) (I.ok.hd hc) t2 i2 b n2 its2.toArray) hz hTI hTO ⟨h1, p⟩ ⟨h2, p2⟩ (by rw [List.size_toArray]; omega) (by rw [List.size_toArray]; omega) (by rw [List.size_toArray, List.size_toArray]; omega) fun h' tk hk => ⟨rfl, ?_⟩
    exact I.turnedL (t' := tk) (ch := [z, TI, TO, i1, i2]) (fun c o hb q => hk c o (fun q' => hb (by simp [q'])) (fun q' => hb (by simp [q'])) (fun q' => hb (by simp [q'])) (fun q' => hb (by simp [q'])) q) hf
  self := fun A i s Q E st h => wpAny_pyIter_zip st.1 h
def iZipX (K : PySem.W.Frag) (ta : TA) : TI := fun σ H R => ta σ H fun vs H1 => ∃ t1 t2 a b xs ys, vs = [.ref a, .ref b] ∧ SqX K H1 t1 a xs ∧ SqX K H1 t2 b ys ∧ R (ItzX K t1 t2 a b) H1
theorem pi_zipX {X : Cx} {e e2 : Expr} {ta : TA} {p pos tpos : Pos} {elts : List Expr} {kk : Nat} (hg : Gl X "zip") (hm : X.mg "zip" = none) (ha : PA X [e, e2] ta)
    (hs : starEach [e, e2] X.env = (false, eval e X.env) :: starEach [e2] X.env := by rfl) (hpl : (backTo pos (starEach [e2] X.env)).any (·.1) = false := by rfl) :
    PI X (.Tuple elts kk tpos) (.Call (.Name "zip" p) [e, e2] [] pos) (iZipX X.K ta) := by
  refine ⟨fun pins s σ H R I h => ?_⟩
  refine Call_ (ld_blt I hg hm PyProof.Rows.boot_zip (PyProof.Rows.callWith_type1 (thn (ha.run pos pins s σ H _ I h) fun us s1 ⟨vs, H1, I1, r1, q1⟩ => ?_) hs hpl))
  obtain ⟨t1, t2, a, b, xs, ys, ex, hqx, hqy, q⟩ := q1
  subst ex
  cases r1 with
  | cons r rr =>
    cases rr with
    | cons r' rr =>
      cases rr
      cases r
      cases r'
      have fresh5 : ∀ c, c ∈ [s1.heap.objs.size + 4, s1.heap.objs.size + 2, s1.heap.objs.size + 3, s1.heap.objs.size, s1.heap.objs.size + 1] → FpOk X pins H1 c := fun c hcm => by
        have e' : c = s1.heap.objs.size + 4 ∨ c = s1.heap.objs.size + 2 ∨ c = s1.heap.objs.size + 3 ∨ c = s1.heap.objs.size ∨ c = s1.heap.objs.size + 1 := by simpa using hcm
        have hle : s1.heap.objs.size ≤ c := by
          rcases e' with z | z | z | z | z
          · rw [z]; exact Nat.le_add_right _ _
          · rw [z]; exact Nat.le_add_right _ _
          · rw [z]; exact Nat.le_add_right _ _
          · rw [z]; exact Nat.le_refl _
          · rw [z]; exact Nat.le_add_right _ _
        exact I1.fpOk hle (I1.hok.fresh hle)
      obtain ⟨its, rv, p1⟩ := sqX_get I1 hqx
      obtain ⟨its2, rv2, p2⟩ := sqX_get I1 hqy
      refine zip_begins2 (beg_at t1 a its.toArray) (beg_at t2 b its2.toArray) p1 p2 fun h' hz hTI hTO h1 h2 hsz hk => wpAny_pyIter_zip hz ?_
      have I2 : Inv X pins σ H1 { s1 with heap := h' } := I1.kept (t' := s1.toks) hk
      have sep : ZipSep2 (s1.heap.objs.size + 4) (s1.heap.objs.size + 2) (s1.heap.objs.size + 3) s1.heap.objs.size (s1.heap.objs.size + 1) [s1.heap.objs.size, a] [s1.heap.objs.size + 1, b] :=
        zip_sep2 (fun c hc => by rw [List.mem_singleton.mp hc]; exact isAt_lt p1) (fun c hc => by rw [List.mem_singleton.mp hc]; exact isAt_lt p2)
      exact ⟨s1.heap.objs.size + 4, [s1.heap.objs.size + 4, s1.heap.objs.size + 2, s1.heap.objs.size + 3, s1.heap.objs.size, s1.heap.objs.size + 1], _, _, H1, rfl, I2, turn_zipX sep, ⟨hz, hTI, ⟨_, _, hTO⟩, itAt_new h1, itAt_new h2⟩, fresh5, q⟩
theorem sqX_ex {K : PySem.W.Frag} {H H' : Hp} {t : Bool} {a : Addr} {xs : List V} (e : Ex H H') (h : SqX K H t a xs) : SqX K H' t a xs := by
  cases t with
  | true => exact e.sqt h
  | false => exact e.sql h
theorem walk_zipX {K : PySem.W.Frag} {t1 t2 : Bool} {a b : Addr} {xs ys : List V} {n : Nat} (hn : n = min xs.length ys.length) : Walk (ItzX K t1 t2 a b) n (fun H => SqX K H t1 a xs ∧ SqX K H t2 b ys) (YPair (fun i => xs[i]?) (fun i => ys[i]?)) := by
  subst hn
  refine ⟨fun i _ hi q => ?_, fun _ q => ⟨xs, ys, q.1, q.2, by omega, by omega, by omega⟩, fun i H v H' _ q y => ?_⟩
  · have h1 : i < xs.length := by omega
    have h2 : i < ys.length := by omega
    exact ⟨xs, ys, xs[i], ys[i], q.1, q.2, by simp [h1], by simp [h2]⟩
  · obtain ⟨T, x, z, h1, h2, h3, h4, h5⟩ := y
    exact ⟨T, x, z, h1, h2, h3, h4 xs q.1, h5 ys q.2⟩
theorem r_zipX {K : PySem.W.Frag} {ta : TA} {σ : L2.St} {H : Hp} {R : It → Hp → Prop} (q : ta σ H fun vs H1 => ∃ t1 t2 a b xs ys, vs = [.ref a, .ref b] ∧ SqX K H1 t1 a xs ∧ SqX K H1 t2 b ys ∧ R (ItzX K t1 t2 a b) H1) : iZipX K ta σ H R := q
end GS
/-! A lambda handed to a def that calls it in a try: what is raised is wished for at the slots of that def. -/
namespace GS
open PySem PySem.Spec PyProof.Rows L2 LamX
section
variable {X : Cx} {pins : List (Addr × Obj)} {σ : L2.St} {H : Hp} {s : Shared}
theorem act_at {CXg : CXT} {Eg : XK} {Ng : List Str} {qg : Str} {sg : Scope} {g f c' : Addr} {cdg pm ctv : Value} {params : Arguments} {body : Expr} {scope : Scope} {k i : Nat} {a : Str} {pn : List (Addr × Obj)} {xe : Value → Shared → Prop} {W : WX} {E : L2.St → XK} {t : XK → TE} {p1 p2 : Pos}
    (I : Inv X pins σ H s) (L : LamS X.env.scope scope) (hf : s.heap.get? f = some (PySem.W.kla_obj "<lambda>" (X.env.qual ++ "<lambda>") params body scope (cloFrom X.env.cells scope.names []) pm c' ctv)) (hfn : H f = none) (hfr : f ∉ frs X.stack)
    (hbind : bindArgs (PySem.W.kla_fn "<lambda>" (X.env.qual ++ "<lambda>") params body scope (cloFrom X.env.cells scope.names []) pm (.ref c') ctv) ⟨[], []⟩ = pure [])
    (tk : Takes ((cxOf CXg X.prog X.w X.K X.mg X.base Ng qg sg g cdg X.A X.stack s H Eg).tr pn xe) W) (hW : ∀ σ' cls d H', E σ' cls d H' → W cls d σ' H') (hr : Room (k + 1) (X.A.deeper (envOfC qg sg s.heap.objs.size g cdg)))
    (hbody : ∀ (A : Around) (outer : List Env) (s : Shared) (H : Hp) (E : XK), Room k (A.deeper (lamEnv X scope s.heap.objs.size f c')) → PE (lamCx X A outer s H E scope f c') body (t E))
    (hN : Ng[i]? = some a) (hv : Vis sg a) (hd : (a == ("__debug__" : Str)) = false) (hcd : (a == ("__classdict__" : Str)) = false) :
    PE ((cxOf CXg X.prog X.w X.K X.mg X.base Ng qg sg g cdg X.A X.stack s H Eg).tr pn xe) (.Call (.Name a p1) [] [] p2)
      (fun σZ HZ Q => σZ[i]? = some (some (.ref f)) ∧ HZ c' = some (CodeO c' (X.env.qual ++ "<lambda>")) ∧ t (E σZ) σ HZ Q) := by
  refine ⟨fun pinsZ sZ σZ HZ Q IZ want => ?_⟩
  obtain ⟨slot, code, goal⟩ := want
  refine wpAny_Call_Name_kw (thn ((pe_var (pos := p1) (i := i) hN hv hd hcd).run pinsZ sZ σZ HZ (fun v H1 => v = .ref f ∧ H1 = HZ) IZ ⟨.ref f, slot, rfl, rfl⟩) fun u s1 ⟨v, H1, I1, r1, q1⟩ => ?_)
  obtain ⟨ev, eH⟩ := q1
  subst ev
  rw [eH] at I1
  obtain rfl : u = Value.ref f := r1
  have here : s1.heap.get? f = some (PySem.W.kla_obj "<lambda>" (X.env.qual ++ "<lambda>") params body scope (cloFrom X.env.cells scope.names []) pm c' ctv) := I1.base.keep f _ hf hfn hfr (fun z => nomatch (show f ∈ ([] : List Addr) from z))
  refine PySem.W.callWith_F0 ⟨_, _, _, _, here⟩ ?_
  have un : Un (frs X.stack) [] H HZ s.heap s1.heap := I1.base
  obtain ⟨⟨oc, vs, tk1, hoc, hdc, hvc⟩, _, _⟩ := I1.hok c' _ code
  have ran : codeAny (model X.prog X.w) (X.A.deeper (envOfC qg sg s.heap.objs.size g cdg)) (.call (.ref f) ⟨[], []⟩) (CR (L2.CX X.prog X.w) (envOfC qg sg s.heap.objs.size g cdg :: X.stack) X.prog X.w HZ s1 Q (E σZ)) s1 := by
    refine PySem.W.kla_callFunE hr.depth here rfl L.co L.gen rfl ⟨c', oc, vs, tk1, rfl, hoc, hdc, hvc⟩ ?_
    rw [hbind]
    refine wpAny_pure (wpAny_newFunctionEnv (fun y hy => (L.own y hy).2) (fun y hy => absurd hy (by simp)) (fun h₁ hns hsb => ⟨I1.nolimit.fresh _ hsb, ?_⟩) L.kind)
    show codeAny _ _ (.expr body (lamEnv X scope s1.heap.objs.size f c')) _ _
    have kp : ∀ b o, s1.heap.get? b = some o → h₁.get? b = some o := fun b o e => hsb.extBut b o (Nat.ne_of_lt (Heap.lt_size e)) (Heap.get?_push_of_some _ e)
    have J := lam_start2 (E := E σZ) (f := f) (c' := c') (tk := s1.toks + ([] : List (Str × Value)).length) I L I1.env0 hr.hd un hns kp
    refine PySem.W.kla_codeExpr (wpAny_mono ((hbody _ _ s1 HZ (E σZ) (hr.deeper _)).run [] _ _ HZ Q J goal) (fun v s' hq => ?_) fun e s' hq => hq)
    obtain ⟨w', H', J', rv, q⟩ := hq
    exact ⟨w', H', J'.os, J'.bare, J'.base, J'.hok, rv, q⟩
  refine wpAny_call (codeAny_mono ran fun r s' hq => ?_)
  match r, hq with
  | .error e, hq => exact tk e s' (XE.of_call I1 (fun cls d H' h => hW σZ cls d H' h) hq)
  | .ok (.ret u), hq => exact I1.after hq
  | .ok .next, hq => exact False.elim hq
  | .ok .brk, hq => exact False.elim hq
  | .ok .cont, hq => exact False.elim hq
end
/-- the def that calls what it got, in a try -/
def GivesS (X : Cx) (Ng : List Str) (x : Str) (sg : Scope) (g : Addr) (cdg : Value) (bg : List Stmt) (a : Str) (q : Str) (TT : (XK → Hp → VK → Prop) → Hp → VK → Prop) : Prop :=
  ∀ (f c' : Addr) (s : Shared) (H : Hp) (Q : VK) (tl : XK → Hp → VK → Prop),
    (∀ (W : WX) (pn : List (Addr × Obj)) (xe : Value → Shared → Prop) (E : L2.St → XK) (p1 p2 : Pos), Takes ((cxOf C8.CX0 X.prog X.w X.K X.mg X.base Ng x sg g cdg X.A X.stack s H C8.E0).tr pn xe) W → (∀ σ' cls d H', E σ' cls d H' → W cls d σ' H') →
      PE ((cxOf C8.CX0 X.prog X.w X.K X.mg X.base Ng x sg g cdg X.A X.stack s H C8.E0).tr pn xe) (.Call (.Name a p1) [] [] p2) (fun σZ HZ Q => σZ[0]? = some (some (.ref f)) ∧ HZ c' = some (CodeO c' q) ∧ tl (E σZ) HZ Q)) →
    H c' = some (CodeO c' q) → TT tl H Q →
    ∃ t, PSs (cxOf C8.CX0 X.prog X.w X.K X.mg X.base Ng x sg g cdg X.A X.stack s H C8.E0).nox bg t ∧ t { nx := fun _ H' => Q .non H', rt := Q } (L2.start Ng [.ref f]) H
theorem pe_lam {X : Cx} {TT : (XK → Hp → VK → Prop) → Hp → VK → Prop} {x a : Str} {g c P : Addr} {k : Nat} {pg : Arguments} {bg : List Stmt} {sg : Scope} {fd : FuncData} {Ng : List Str}
    {params : Arguments} {body : Expr} {scope : Scope} {t : XK → TE} {p lpos pos : Pos} (hg : Gl X x) (hm : X.mg x = some (.ref g)) (hk : PySem.W.keepIn X.K (.ref g) = true)
    (F : FunD X.K x x pg bg sg [] [] g fd) (hb : L2.Binds X.K fd [a] []) (Sg : FnScope Ng [a] sg) (hNg : Ng[0]? = some a) (hva : Vis sg a)
    (hG : ∀ cdg, GivesS X Ng x sg g cdg bg a (X.env.qual ++ "<lambda>") TT)
    (TB : TabB X.base X.mg c P) (hcode : X.env.code = .ref c) (hr : Room (k + 2) X.A) (L : LamS X.env.scope scope) (hdef : defaultsOf params X.env = ([], []))
    (hbind : ∀ (q : Str) (cl : List (Str × Addr)) (pm cv ctv : Value), bindArgs (PySem.W.kla_fn "<lambda>" q params body scope cl pm cv ctv) ⟨[], []⟩ = pure [])
    (hbody : ∀ (A : Around) (outer : List Env) (s : Shared) (H : Hp) (E : XK) (f c' : Addr), Room k (A.deeper (lamEnv X scope s.heap.objs.size f c')) → PE (lamCx X A outer s H E scope f c') body (t E))
    (hdb : (x == ("__debug__" : Str)) = false := by decide) (hd : (a == ("__debug__" : Str)) = false := by decide) (hcd : (a == ("__classdict__" : Str)) = false := by decide) :
    PE X (.Call (.Name x p) [.Lambda params body scope lpos] [] pos) (tLam [(P, X.env.qual ++ "<lambda>")] TT t) := by
  obtain ⟨oc, od, dV, kV, doc, pm, an, cdv, ct, osl, rfl, known, hcg, -, -⟩ := F.ex
  refine ⟨fun pins s σ H Q I want => ?_⟩
  obtain ⟨tabs, goal⟩ := want
  refine wpAny_Call_Name_kw (ld_glob I hg hm ?_ hdb)
  refine PySem.W.callWith_K (h₀ := X.base) I.ok.mod.kin hk ?_ (by rfl) (by rfl)
  show wpAny _ _ (spliced ((false, eval (.Lambda params body scope lpos) X.env) :: backTo pos (starEach [] X.env))) _ _ s
  refine Calls.spliced_cons (lam_make2 I TB hcode List.mem_cons_self (fun p hp _ => by rw [List.mem_singleton.mp hp]) tabs hdef (L.has I.ok) fun f c' pm' ctv H1 s' I1 eN T1 hf hfn hfr hco => ?_)
  refine Calls.spliced_nil ⟨I1.kIn, ?_⟩
  have ran : codeAny (model X.prog X.w) X.A (.call (.ref g) ⟨[.ref f], []⟩) (CR C8.CX0 X.stack X.prog X.w H1 s' Q C8.E0) s' := by
    refine run_ofS (N := Ng) (ps := [a]) (us := [.ref f]) (vs := [.ref f]) known hcg Sg hr I1.env0 (hb s' [.ref f] I1.kIn rfl) (.cons rfl .nil) rfl fun hr' => ?_
    obtain ⟨t', reads, wants⟩ := hG cdv f c' s' H1 Q (fun E H' Q' => t E σ H' Q') (fun W pn xe E p1 p2 tk hW => act_at (i := 0) I1 L hf hfn hfr (hbind _ _ _ _ _) tk hW hr' (fun A outer s H E hr2 => hbody A outer s H E f c' hr2) hNg hva hd hcd) hco (goal H1 eN T1)
    exact ⟨t', reads.nox, wants⟩
  refine wpAny_call (codeAny_mono ran fun r s2 hq => ?_)
  match r, hq with
  | .error e, hq => exact (show False from hq).elim
  | .ok (.ret u), hq => exact I1.after hq
  | .ok .next, hq => exact False.elim hq
  | .ok .brk, hq => exact False.elim hq
  | .ok .cont, hq => exact False.elim hq
/-- a() within try, a what was got -/
def tAsk (f c' : Addr) (q : Str) (tl : XK → Hp → VK → Prop) (W : WX) : TS := fun D σ H => ∃ E : XK, (∀ cls d H', E cls d H' → W cls d σ H') ∧ σ[0]? = some (some (.ref f)) ∧ H c' = some (CodeO c' q) ∧ tl E H (fun _ H' => D.nx σ H')
theorem ps_ask {Y : Cx} {W : WX} {a : Str} {f c' : Addr} {q : Str} {tl : XK → Hp → VK → Prop} {p1 p2 p3 : Pos}
    (act : ∀ (E : L2.St → XK) (p1 p2 : Pos), Takes Y W → (∀ σ' cls d H', E σ' cls d H' → W cls d σ' H') → PE Y (.Call (.Name a p1) [] [] p2) (fun σZ HZ Q => σZ[0]? = some (some (.ref f)) ∧ HZ c' = some (CodeO c' q) ∧ tl (E σZ) HZ Q)) (tk : Takes Y W) :
    PS Y (.Expr (.Call (.Name a p1) [] [] p2) p3) (tAsk f c' q tl W) := by
  refine ⟨fun pins s σ H D I h => ?_⟩
  obtain ⟨E, hW, h1, h2, h3⟩ := h
  have e : (fun cls d H' => σ = σ ∧ E cls d H') = E := by
    funext cls d H'
    exact propext ⟨fun z => z.2, fun z => ⟨rfl, z⟩⟩
  refine (ps_expr (pos := p3) (act (fun σ' cls d H' => σ' = σ ∧ E cls d H') p1 p2 tk (fun σ' cls d H' z => by rw [z.1]; exact hW cls d H' z.2))).run pins s σ H D I ⟨h1, h2, ?_⟩
  show tl (fun cls d H' => σ = σ ∧ E cls d H') H _
  rw [e]
  exact h3
/-! a field's reading -/
def fldK (K : PySem.W.Frag) (f : Str) (Q : VK) : VK := fun x H1 => ∃ a C dx fs v, x = .ref a ∧ H1 a = some (.ins C dx fs) ∧ Cls K C ∧ NoAttr K C f ∧ fs.lookup f = some v ∧ Q v H1
theorem r_F {K : PySem.W.Frag} {f : Str} {te : TE} {σ : L2.St} {H : Hp} {Q : VK} (q : te σ H (fldK K f Q)) : tFld K te f σ H Q := q
theorem r_gUnl {K : PySem.W.Frag} {n : Nat} {gs : TGs} {p : Addr} {xs : List V} {σ : L2.St} {H : Hp} {N : L2.St → Hp → Prop} (h : H p = some (.lst xs)) (l : xs.length = n) (q : gs xs σ H N) : gUnl K n gs (.ref p) σ H N := ⟨p, xs, rfl, SqL.of h, l, q⟩
end GS
/-! A list comprehension whose element may raise, out of a call. -/
namespace GS
open PySem PySem.Spec PySem.Calls PyProof.Rows L2
/-- frames over a smaller ground -/
theorem ff_less {h B B' : Heap} (n : ∀ b, B.get? b = none → B'.get? b = none) : ∀ {l : List Env}, h.FunFrames B l → h.FunFrames B' l
  | [], _ => trivial
  | _ :: _, ⟨k, ⟨L, o, f, b, r⟩, t⟩ => ⟨k, ⟨L, o, f, n L b, r⟩, ff_less n t⟩
theorem hid_none {h : Heap} {C b : Addr} (e : h.get? b = none) : (PySem.W.hideAll h [C]).get? b = none := by
  cases q : (PySem.W.hideAll h [C]).get? b with
  | none => rfl
  | some o =>
    have z := PySem.W.of_hideAll _ q
    rw [e] at z
    cases z
theorem hid_ne {h : Heap} {C b : Addr} {o : Obj} (e : (PySem.W.hideAll h [C]).get? b = some o) : b ≠ C := by
  rintro rfl
  rw [PySem.W.hideAll_none [b] (List.mem_singleton.mpr rfl)] at e
  cases e
theorem held_hid {B h1 h2 : Heap} {l : List Env} {a C L : Addr} {Z : Obj → Prop} {m1 m2 : Str → Option Value} (n1 : h1.Ns C m1) (n2 : h2.Ns C m2) (sb : Heap.SameBut C h1 h2) (hh : HandSPX.HeldZ B l a Z L h1) : HandSPX.HeldZ (PySem.W.hideAll B [C]) l a Z L h2 := by
  obtain ⟨st, an, ff, oe, vs, T, oT, ts, e1, e2, e3, e4, e5, e6, e7, e8, e9⟩ := hh
  have noF : ∀ b o vs, h1.get? b = some o → o.data = .fields vs → b ≠ C := fun b o vs e z q => by
    obtain ⟨oc, _, _, hc, hd, _⟩ := n1
    rw [q, hc] at e
    cases e
    rw [hd] at z
    cases z
  refine ⟨fun b o e => ?_, hid_none an, ff_less (fun b e => hid_none e) (Heap.FunFrames.sameBut sb n2 ff), oe, vs, T, oT, ts, ?_, e2, e3, e4, hid_none e5, e6, ?_, e8, e9⟩
  · rw [sb.2 b (hid_ne e)]
    exact st b o (PySem.W.of_hideAll _ e)
  · rw [sb.2 a (noF _ _ _ e1 e3)]
    exact e1
  · rw [sb.2 T (noF _ _ _ e7 e8)]
    exact e7
section
variable {X : Cx} {pins : List (Addr × Obj)} {σ : L2.St} {H : Hp} {s : Shared}
theorem comp_fails {s3 : Shared} (I3 : Inv X pins σ H s3) {W : WX} {E : XK} (tk : Takes X W) (hW : ∀ cls d σ H, E cls d H → W cls d σ H) (hst : X.stack = X.env :: X.outer) (hf : X.env.frame = some X.env.locals) {scope : Scope} {ce : Env} {fp : List Addr}
    (cL : ce.locals = s3.heap.objs.size) (cF : ce.frame = X.env.frame) (f3 : ∀ b ∈ fp, FpOk X pins H b) {pn pins' : List (Addr × Obj)} {xe : Value → Shared → Prop} {σ' : L2.St} {H' : Hp} {s s' : Shared} {e : Value}
    (J : Inv ((X.blk s3 H scope ce fp).tr pn xe) pins' σ' H' s) (c : L2.CX X.prog X.w X.stack H' s E e s') : notedBy (model X.prog X.w) X.A ce (CompFails (model X.prog X.w) X.A X.xe ce) e s' := by
  obtain ⟨a, B, sI, pins1, σ1, H1, cls, d, rfl, J1, nb, up, sky, na, os, ag, w⟩ := XE.of_call (W := fun cls d _ H => E cls d H) J (fun _ _ _ h => h) c
  have fl : HandSPX.FlyingZ B X.stack a (Zc cls d) s'.heap := by
    obtain ⟨a', B', H'', cls', d', ea, fl', _⟩ := c
    cases ea
    obtain ⟨_, _, _, oe', vs', T', oT', ts', g1, g2, g3, g4, g5, g6, g7, g8, g9⟩ := fl'
    rcases sky with ⟨_, _, _, oe, vs, k1, k2, k3, k4⟩ | f | ⟨_, _, _, oe, vs, T, oT, ts, k1, k2, k3, k4, k5, k6, k7, k8, k9⟩
    · exfalso
      rw [g1] at k1
      cases k1
      rw [g3] at k3
      cases k3
      rw [g4] at k4
      cases k4
    · exact f
    · exfalso
      rw [g1] at k1
      cases k1
      rw [g3] at k3
      cases k3
      rw [g4] at k4
      cases k4
      rw [g7] at k7
      cases k7
      rw [g8] at k8
      cases k8
      rw [g9] at k9
      exact absurd (Option.some.inj k9) (by simp [rawInt])
  have IX : Inv X pins σ H1 sI := I3.call' (ch := fp) J1.os J1.base J1.hok J1.bare fun b hb => ⟨(f3 b hb).2.2.2.1, (f3 b hb).2.1, (f3 b hb).2.2.2.2.1, (f3 b hb).2.2.2.2.2⟩
  have nC : H1 ce.locals = none := J1.free
  have fC : FpOk X pins H1 ce.locals := by
    have z := nC
    rw [cL] at z ⊢
    exact I3.fpOk (Nat.le_refl _) z
  have IX2 : Inv X pins σ H1 { sI with heap := PySem.W.hideAll sI.heap [ce.locals], toks := sI.toks } := IX.turned (fun b o n e => PySem.W.hideAll_get _ e (by simpa using n)) fC.1 fC.2.1 fC.2.2.2.1 fC.2.2.2.2.1 fC.2.2.2.2.2
  have hfr : X.A.frames = some (X.env :: X.outer) := by rw [I3.ok.frames, hst]
  show wpAny (model X.prog X.w) X.A (noteFrame (.ref a) ce) _ _ s'
  rw [noteFrame_env _ cF]
  refine HandSPX.looks_onZ Zc.steady hfr hf (by rw [← hst]; exact fl) fun h1 hh1 up1 => ?_
  obtain ⟨m, hn, _⟩ := J1.loc
  have hn1 := Heap.UpToSlots.ns up1 (Heap.UpToSlots.ns up hn)
  refine ⟨m, hn1, fun h2 m2 hn2 hs2 => ?_⟩
  have hh2 := held_hid hn1 hn2 hs2 hh1
  obtain ⟨_, _, _, oe, vs, T, _, _, t1, _, t3, t4, _⟩ := id hh2
  unfold PySem.passOn
  refine wpAny_bind (wpAny_field t1 t3 t4 ?_)
  rw [if_neg (show ¬ ((Value.ref T == Value.none) = true) from by simp)]
  have fin : wpAny (model X.prog X.w) X.A (setFlight (.ref a) ce.frame) (fun _ s4 => wpAny (model X.prog X.w) X.A (throw (.ref a) : Sem Value) (fun _ _ => False) X.xe s4) X.xe { s' with heap := h2 } := by
    rw [cF, hf]
    refine HandSPX.setFlight_onZ hh2 fun h3 hh3 up3 => wpAny_throw (tk _ _ ?_)
    refine ⟨a, PySem.W.hideAll B [ce.locals], _, pins, σ, H1, cls, d, rfl, IX2, fun b o z hb => PySem.W.hideAll_get [ce.locals] (nb b o (PySem.W.of_hideAll _ z) hb) (by simpa using hid_ne z), fun b o z nf => ?_, .inr (.inr (by rw [hst]; exact hh3)), na, os, ag, hW _ _ _ _ w⟩
    obtain ⟨l1, q1⟩ := up b o (PySem.W.of_hideAll _ z) nf
    obtain ⟨l2, q2⟩ := up1 b _ q1 nf
    have q3 : h2.get? b = _ := (hs2.2 b (hid_ne z)).trans q2
    obtain ⟨l3, q4⟩ := up3 b _ q3 nf
    exact ⟨l3, q4⟩
  first
    | exact wpAny_bind (wpAny_pure (wpAny_bind fin))
    | exact wpAny_bind fin
/-- THE RULE: [elt for tg in iter if ..], elt may let out what a call in it lets out -/
theorem pe_lcE {W : WX} {E : XK} {elt tg iter : Expr} {ifs : List Expr} {scope : Scope} {own : List (Str × Nat)} {pos : Pos} {wi : TI} {g : TG} {tt : TT} {te : TE} (tk : Takes X W) (hW : ∀ cls d σ H, E cls d H → W cls d σ H) (hst : X.stack = X.env :: X.outer) (hf : X.env.frame = some X.env.locals)
    (hc : X.calm = true) (hN : X.N.Nodup) (hi : PI X tg iter wi) (ok : BlkOk X.N X.env.scope scope own) (hg : ∀ (s : Shared) (H : Hp) (C : Addr) (cl : List (Str × Addr)) (fp : List Addr), PG (X.blk s H scope (compEnvC scope cl C X.env) fp) tg g)
    (ht : ∀ (s : Shared) (H : Hp) (C : Addr) (cl : List (Str × Addr)) (fp : List Addr), PTs (X.blk s H scope (compEnvC scope cl C X.env) fp) ifs tt)
    (he : ∀ (s : Shared) (H : Hp) (C : Addr) (cl : List (Str × Addr)) (fp : List Addr) (pn : List (Addr × Obj)) (xe : Value → Shared → Prop), Passes (L2.CX X.prog X.w) ((X.blk s H scope (compEnvC scope cl C X.env) fp).tr pn xe) E → PE ((X.blk s H scope (compEnvC scope cl C X.env) fp).tr pn xe) elt te)
    (hs : ∀ x, foldedSetIterable iter X.env x = pure x := by intro _; rfl) : PE X (.ListComp elt [⟨tg, iter, ifs, 0⟩] scope pos) (tLc wi g tt te (own.map (·.2))) := by
  refine ⟨fun pins s σ H Q I h => ?_⟩
  rw [eval_ListComp]
  have free : ∀ y ∈ scope.names, y.2 = .free → ∃ c, X.env.cells.lookup y.1 = some c := fun y hy e => (ok.free y hy e).elim (fun k => I.ok.has _ (.inl k)) fun k => I.ok.has _ (.inr k)
  refine comprehension_at (use := none) rfl hs (closure_ok free) ok.kind (fun y hy e => by rw [ok.uniq y hy, e]) (thn (hi.run pins s σ H _ I h) fun _ _ hx => thn hx fun _ s2 h2 => ?_)
  obtain ⟨it, fp, tn, J, H2, rfl, I2, T, st2, f2, q⟩ := h2
  refine wpAny_newObj_type (newEnv_comp ?_) (by show 0 ≤ sizeLine; decide)
  generalize hL : s2.heap.objs.size = L
  have nL : H2 L = none := I2.hok.fresh (Nat.le_of_eq hL)
  obtain ⟨V, ⟨m0, v0⟩, turn⟩ := q L nL
  generalize hs3 : ({ s2 with heap := s2.heap.push { cls := .type "list", data := .seq ([] : List Value).toArray } } : Shared) = s3
  have h3 : s3.heap = s2.heap.push { cls := .type "list", data := .seq ([] : List Value).toArray } := by rw [← hs3]
  have grow : ∀ b o, s2.heap.get? b = some o → s3.heap.get? b = some o := fun b o e => by rw [h3]; exact Heap.get?_push_of_some _ e
  have I3 : Inv X pins σ (upd H2 L (.lst [])) s3 := by
    rw [← hs3]
    refine I2.laid (t' := s2.toks) (fun b o e => Heap.get?_push_of_some _ e) (Nat.le_of_eq hL) ⟨Nat.zero_le _, [], 0, .nil, ?_⟩
    rw [← hL]; exact Heap.get?_push_size _ rfl
  have lt2 : ∀ b ∈ fp, b < s2.heap.objs.size := fun b hb => let ⟨_, e, _⟩ := T.obj _ _ st2 b hb; Heap.lt_size e
  have f3 : ∀ b ∈ fp, FpOk X pins (upd H2 L (.lst [])) b ∧ b < s3.heap.objs.size := fun b hb => by
    refine ⟨⟨?_, (f2 b hb).2⟩, by rw [h3, Heap.size_push]; exact Nat.lt_succ_of_lt (lt2 b hb)⟩
    rw [upd_ne (by rw [← hL]; exact Nat.ne_of_lt (lt2 b hb))]; exact (f2 b hb).1
  have st3 : tn 0 s3.heap := T.keep _ _ _ st2 fun b _ o e => grow b o e
  have I4 := block_start I3 ok hN f3
  have pg := hg s3 (upd H2 L (.lst [])) s3.heap.objs.size (cellsFrom (s3.heap.objs.size + 1) scope.names (cloFrom X.env.cells scope.names [])) fp
  have pt := ht s3 (upd H2 L (.lst [])) s3.heap.objs.size (cellsFrom (s3.heap.objs.size + 1) scope.names (cloFrom X.env.cells scope.names [])) fp
  have pe := he s3 (upd H2 L (.lst [])) s3.heap.objs.size (cellsFrom (s3.heap.objs.size + 1) scope.names (cloFrom X.env.cells scope.names [])) fp
  show codeAny _ _ (.compStart (.ListComp elt [⟨tg, iter, ifs, 0⟩] scope pos) 0 (.ref it) (.ref L) (compEnvC scope (cellsFrom (s3.heap.objs.size + 1) scope.names (cloFrom X.env.cells scope.names [])) s3.heap.objs.size X.env)) (compEnds (model X.prog X.w) X.A X.xe none (EP X pins σ Q) (.ref L) (compEnvC scope (cellsFrom (s3.heap.objs.size + 1) scope.names (cloFrom X.env.cells scope.names [])) s3.heap.objs.size X.env)) { s3 with heap := pushCells (s3.heap.push { cls := .type "dict", data := .dict #[] }) scope.names }
  generalize hce : compEnvC scope (cellsFrom (s3.heap.objs.size + 1) scope.names (cloFrom X.env.cells scope.names [])) s3.heap.objs.size X.env = ce at I4 pg pt pe ⊢
  have cL : ce.locals = s3.heap.objs.size := by subst hce; rfl
  have cF : ce.frame = X.env.frame := by subst hce; rfl
  have no0 : ∀ b ∈ fp, (upd H2 L (.lst [])) b = none := fun b hb => (f3 b hb).1.1
  generalize hH3 : upd H2 L (.lst []) = H3 at I3 I4 pg pt pe v0 no0 f3
  generalize hs4 : ({ s3 with heap := pushCells (s3.heap.push { cls := .type "dict", data := .dict #[] }) scope.names } : Shared) = s4 at I4 ⊢
  have st4 : tn 0 s4.heap := T.keep _ _ _ st3 fun b _ o e => by rw [← hs4]; exact pushCells_keeps _ _ _ _ (Heap.get?_push_of_some _ e)
  have quiet : ∀ {σ' : L2.St} {H' : Hp} {s' : Shared}, Inv (X.blk s3 H3 scope ce fp) [] σ' H' s' → (∀ b ∈ fp, H' b = none) → ∀ b ∈ fp, FpOk (X.blk s3 H3 scope ce fp) [] H' b := fun {σ' H' s'} I' n b hb =>
    ⟨n b hb, (I'.ok.exf b hb).1, I'.ok.exfs b hb, .inl hb, fun x c e => (I'.ok.exf b hb).2 x c e, fun p hp => nomatch hp⟩
  have loop : codeAny (model X.prog X.w) X.A (.compLoop (.ListComp elt [⟨tg, iter, ifs, 0⟩] scope pos) 0 (.ref it) (.ref L) ce) (compEnds (model X.prog X.w) X.A X.xe none (EP X pins σ Q) (.ref L) ce) s4 := by
    refine compLoop_any (fun n s' => ∃ i H', Inv (X.blk s3 H3 scope ce fp) [] (wipe σ (own.map (·.2))) H' s' ∧ tn i s'.heap ∧ (∀ b ∈ fp, H' b = none) ∧ V i n H') ?_ m0 ⟨0, H3, I4, st4, no0, v0⟩
    rintro n s5 ⟨i, H5, I5, st5, n5, v5⟩
    rcases turn i n H5 v5 with ⟨stop, done⟩ | ⟨go, Nx, hNx, step⟩
    · refine thnF (T.done (X.blk s3 H3 scope ce fp) rfl rfl rfl hc i [] s5 _ H5 (fun _ _ => False) I5 (quiet I5 n5) st5 stop) fun r s6 ⟨hr, I6⟩ => ?_
      subst hr
      have I7 : Inv X pins σ H5 s6 := I3.call' (ch := fp) I6.os I6.base I6.hok I6.bare fun b hb => let z := (f3 b hb).1; ⟨z.2.2.2.1, z.2.1, z.2.2.2.2.1, z.2.2.2.2.2⟩
      have z : H5 ce.locals = none := I6.free
      obtain ⟨m, hn, _⟩ := I6.loc
      refine ⟨m, hn, fun h'' sb => ?_⟩
      rw [cL] at z sb
      obtain ⟨k0, k1, k2, k3, k4, k5⟩ := I3.fpOk (Nat.le_refl _) z
      exact ⟨.ref L, H5, I7.turned (t' := s6.toks) (fun b o hb e => (sb.2 b hb).trans e) k0 k1 k3 k4 k5, rfl, done⟩
    · refine thnF (T.item (X.blk s3 H3 scope ce fp) rfl rfl rfl hc i [] s5 _ H5 (fun _ _ => False) I5 (quiet I5 n5) st5 go) fun r s6 ⟨u, hr, h6⟩ => ?_
      subst hr
      refine thnF h6 fun _ s7 ⟨x, H7, I7, r7, y7, st7, n7⟩ => ?_
      have I7p := I7.pinned (quiet I7 n7) (T.obj _ _ st7)
      refine thnF (pg.run _ s7 _ H7 x u _ I7p r7 (step x H7 y7)) fun _ s8 ⟨σ8, H8, I8, w8, q8⟩ => ?_
      refine thnF (pt.run _ s8 σ8 H8 _ I8 q8) fun b s9 ⟨H9, I9, q9⟩ => ?_
      have fin : ∀ {s' : Shared} {H' : Hp}, Inv (X.blk s3 H3 scope ce fp) ([] ++ pinsAt fp s7.heap) σ8 H' s' → Nx H' → ∃ m, m < n ∧ ∃ i H', Inv (X.blk s3 H3 scope ce fp) [] (wipe σ (own.map (·.2))) H' s' ∧ tn i s'.heap ∧ (∀ b ∈ fp, H' b = none) ∧ V i m H' := fun {s' H'} I' nx => by
        obtain ⟨m', hm, v'⟩ := hNx H' nx
        have at_ : ∀ b ∈ fp, ∀ o, s7.heap.get? b = some o → s'.heap.get? b = some o ∧ H' b = none := fun b hb o e => let z := I'.pin (b, o) (List.mem_append_right _ (List.mem_append_right _ (mem_pinsAt hb e))); ⟨z.1, z.2.1⟩
        refine ⟨m', hm, i + 1, H', (I'.unpinned (pins := [])).weak (by rw [← w8, wipe_length]) (fun j v e => ?_), T.keep _ _ _ st7 fun b hb o e => (at_ b hb o e).1, fun b hb => ?_, v'⟩
        · rw [← w8] at e; exact (wipe_some e).1
        · obtain ⟨o, e, _⟩ := T.obj _ _ st7 b hb
          exact (at_ b hb o e).2
      cases b with
      | false => simp only [Bool.false_eq_true, if_false] at q9 ⊢; exact fin I9 q9
      | true =>
        simp only [if_true] at q9 ⊢
        have okB := I9.ok
        have pass : Passes (L2.CX X.prog X.w) ((X.blk s3 H3 scope ce fp).tr ((X.blk s3 H3 scope ce fp).pn ++ ([] ++ pinsAt fp s7.heap)) (fun e s' => notedBy (model X.prog X.w) X.A ce (CompFails (model X.prog X.w) X.A X.xe ce) e s')) E := fun _ _ _ _ _ _ Jb c => comp_fails I3 tk hW hst hf cL cF (fun b hb => (f3 b hb).1) Jb c
        refine wpAny_mono ((pe _ _ pass).run [] s9 σ8 H9 _ (I9.toTry _) q9) (fun z s10 ⟨yv, H10, I10, r10, acc, hD10, hz10, nx⟩ => ?_) fun _ _ f => f
        have I10' := I10.ofTry okB
        exact app_ok (X := X.blk s3 H3 scope ce fp) I10' hD10 hz10 r10 fun s11 I11 => fin I11 nx
  exact codeAny_compStart_list loop (T.self X.A 0 _ _ _ st4 loop)
end
end GS
/-! Rules whose K is told by an equation, for comprehensions. -/
namespace GS
open PySem PySem.Spec PyProof.Rows L2
theorem kx_ixs {X : Cx} {K : PySem.W.Frag} (h : X.K = K) : IxR X (rIx K) := by
  subst h
  exact ix_seq
theorem kx_sll {X : Cx} {K : PySem.W.Frag} (h : X.K = K) : SlR X (rSlL K) := by
  subst h
  exact sl_list
theorem kx_listOf {X : Cx} {K : PySem.W.Frag} (h : X.K = K) : CallR X (.type "list") (fun xs H Q => ∃ p ys, xs = [V.ref p] ∧ (SqL K H p ys ∨ SqT K H p ys) ∧ ∀ l, H l = none → Q (.ref l) (upd H l (.lst ys))) := by
  subst h
  exact call_list_of
theorem kx_slt {X : Cx} {K : PySem.W.Frag} (h : X.K = K) : SlR X (rSlT K) := by
  subst h
  exact sl_tup
end GS
namespace GS
open PySem PySem.Spec PyProof.Rows L2
section
variable {X : Cx}
/-- C.m(k = v, ..), m a staticmethod -/
def tSMethN (C : Addr) (nk : Nat) (sp : Sp) (gV : List V → List V → List V) (E : XK) (ta : TE) (tk : TA) : TE := fun σ H Q => ta σ H fun x H1 => x = .ref C ∧ tk σ H1 fun zs H2 => zs.length = nk ∧ sp (gV [] zs) H2 Q E
theorem pe_smethK0 {CX : CXT} {k : Nat} {C p g : Addr} {mc : Value} {fd : FuncData} {ps ks : List PySem.Str} {sp : Sp} {E : XK} {o : Expr} {m : PySem.Str} {pos apos : Pos} {ta : TE} {tk : TA} {kws : List Keyword} {gg : List Value → List Value → List Value} {gV : List V → List V → List V} {pl : Sem Bool}
    (he : PE X o ta) (r : ClX.CRead X.K C mc) (c : SMet X.K C mc m p g) (F : FnOk X.prog X.w X.K X.mg X.base CX k g fd ps sp) (hk : PySem.W.keepIn X.K (.ref g) = true) (hr : Room k X.A) (kb : KBn X.K fd ps 0 ks gg gV) (hx : Passes CX X E) (hw : PK X kws tk)
    (named : (backToKw pos (keywordEach kws X.env)).all (·.1.isSome) = true := by rfl) (names : (backToKw pos (keywordEach kws X.env)).filterMap (·.1) = ks := by rfl)
    (plain : ((backTo pos (starEach [] X.env)).any (·.1) || (backToKw pos (keywordEach kws X.env)).any (·.1.isNone)) = false := by rfl)
    (ht : eval (.Call (.Attribute o m apos) [] kws pos) X.env = (do let ov ← eval o X.env; standAt apos.atName; let (f, first) ← holding [ov] (getMethod ov m pl); callWith pos f first (backTo pos (starEach [] X.env)) (backToKw pos (keywordEach kws X.env))) := by rfl) :
    PE X (.Call (.Attribute o m apos) [] kws pos) (tSMethN C ks.length sp gV E ta tk) := by
  refine ⟨fun pins s σ H Q I h => PySem.W.methodCall_KW (pl := pl) (thn (he.run pins s σ H _ I h) fun u s1 ⟨x, H1, I1, rx, ex, q⟩ => ?_) ht⟩
  subst ex
  obtain rfl : u = Value.ref C := rx
  obtain ⟨rest, hp⟩ := c.rc
  refine PySem.W.method_cls I1.kIn r.ga (PySem.W.cls_bind I1.kIn r.rd c.at_ (wpAny_call (PySem.W.sm_get (s := { s1 with toks := s1.toks + 1 }) I1.kIn hp (PySem.W.handed_on rfl ?_))))
  have I2 := I1.tok (s1.toks + 1)
  refine PySem.W.callWith_KW0 (h₀ := X.base) I2.ok.mod.kin hk named (thn (hw.run pos pins _ σ H1 _ I2 q) fun ws s3 ⟨zs, H2, I3, rz, m2, q2⟩ => ⟨I3.kIn, ?_⟩) plain
  rw [names]
  exact run_fnN (us := []) (vs := []) F hr kb hx I3 .nil rz rfl m2 q2
/-- C.m(e, ..), m a staticmethod, inside try -/
def tSMethS (C : Addr) (sp : Sp) (E : L2.St → XK) (ta : TE) (t : TA) : TE := fun σ H Q => ta σ H fun x H1 => x = .ref C ∧ t σ H1 fun vs H2 => sp vs H2 Q (E σ)
theorem pe_smethS {CX : CXT} {k : Nat} {C p g : Addr} {mc : Value} {fd : FuncData} {ps : List PySem.Str} {sp : Sp} {E : L2.St → XK} {o e : Expr} {es : List Expr} {m : PySem.Str} {pos apos : Pos} {ta : TE} {t : TA} {pl : Sem Bool}
    (he : PE X o ta) (r : ClX.CRead X.K C mc) (c : SMet X.K C mc m p g) (F : FnOk X.prog X.w X.K X.mg X.base CX k g fd ps sp) (hk : PySem.W.keepIn X.K (.ref g) = true) (hr : Room k X.A) (hb : Binds X.K fd ps []) (hx : ∀ σ, PassesAt CX X σ (E σ)) (ha : PA X (e :: es) t)
    (hst : starEach (e :: es) X.env = (false, eval e X.env) :: starEach es X.env := by rfl) (hpl : (backTo pos (starEach es X.env)).any (·.1) = false := by rfl)
    (ht : eval (.Call (.Attribute o m apos) (e :: es) [] pos) X.env = (do let ov ← eval o X.env; standAt apos.atName; let (f, first) ← holding [ov] (getMethod ov m pl); callWith pos f first (backTo pos (starEach (e :: es) X.env)) (backToKw pos (keywordEach [] X.env))) := by rfl) :
    PE X (.Call (.Attribute o m apos) (e :: es) [] pos) (tSMethS C sp E ta t) := by
  refine ⟨fun pins s σ H Q I h => PySem.W.methodCall_KW (pl := pl) (thn (he.run pins s σ H _ I h) fun u s1 ⟨x, H1, I1, rx, ex, q⟩ => ?_) ht⟩
  subst ex
  obtain rfl : u = Value.ref C := rx
  obtain ⟨rest, hp⟩ := c.rc
  refine PySem.W.method_cls I1.kIn r.ga (PySem.W.cls_bind I1.kIn r.rd c.at_ (wpAny_call (PySem.W.sm_get (s := { s1 with toks := s1.toks + 1 }) I1.kIn hp (PySem.W.handed_on rfl ?_))))
  have I2 := I1.tok (s1.toks + 1)
  refine PySem.W.callWith_K (h₀ := X.base) I2.ok.mod.kin hk (thn (ha.run pos pins _ σ H1 _ I2 q) fun us s3 ⟨vs, H2, I3, rv, q2⟩ => ⟨I3.kIn, ?_⟩) hst hpl
  exact run_fnS F hr hb (hx σ) I3 rv q2
end
end GS
namespace GS
open PySem PySem.Spec PyProof.Rows L2
theorem kx_neD {X : Cx} {K : PySem.W.Frag} (h : X.K = K) (hu : X.A.units + 64 < cLine) : OpR X (compareOp .NotEq) (rNeD K) := by
  subst h
  exact op_neD hu
theorem kx_eqD {X : Cx} {K : PySem.W.Frag} (h : X.K = K) (hu : X.A.units + 64 < cLine) : OpR X (compareOp .Eq) (rEqD K) := by
  subst h
  exact op_eqD hu
/-- (a if t else b) as a test -/
def tIfT (t ta tb : TT) : TT := fun σ H Q => t σ H fun c H1 => if c = true then ta σ H1 Q else tb σ H1 Q
theorem pt_ifExp {X : Cx} {c a b : Expr} {pos : Pos} {t ta tb : TT} (hc : PT X c t) (ha : PT X a ta) (hb : PT X b tb) : PT X (.IfExp c a b pos) (tIfT t ta tb) := by
  refine ⟨fun pins s σ H Q I h => ?_⟩
  rw [arm_isTrue_IfExp]
  refine wpAny_bind (thn (hc.run pins s σ H _ I h) fun d s1 ⟨H1, I1, q1⟩ => ?_)
  cases d with
  | true => exact ha.run pins s1 σ H1 Q I1 q1
  | false => exact hb.run pins s1 σ H1 Q I1 q1
end GS
/-! Comprehensions whose elements are new lists. -/
namespace GS
open PySem PySem.Spec PyProof.Rows L2
/-- lists that were just laid, one a turn, none of them another's -/
theorem r_lcLs {J : It} {n : Nat} {G : Hp → Prop} {Y : Nat → Hp → V → Hp → Prop} {k : Nat} {te : TE} {σ : L2.St} {H1 : Hp} {Q : VK} (w : Walk J n G Y) (o : Nat → List V) (hn : n ≤ 50000) (hG : ∀ H' : Hp, Ex H1 H' → G H')
    (hw : ∀ x, wipe ((wipe σ [k]).set k (some x)) [k] = wipe σ [k])
    (he : ∀ i x H H', i < n → Ex H1 H → Y i H x H' → Ex H H' ∧ ∀ R : VK, (∀ t H4, Ex H' H4 → H' t = none → H4 t = some (.lst (o i)) → R (.ref t) H4) → te ((wipe σ [k]).set k (some x)) H' R)
    (q : ∀ p ts H', H1 p = none → Ex H1 H' → H' p = some (.lst (ts.map V.ref)) → ts.length = n → (p :: ts).Nodup → (∀ t ∈ ts, H1 t = none) → (∀ (j : Nat) (t : Addr), ts[j]? = some t → H' t = some (.lst (o j))) → Q (.ref p) H') : lcB J (gName k) tYes te [k] σ Q H1 := by
  refine r_lcP w (fun D i ys H => ∃ ts : List Addr, ys = ts.map V.ref ∧ ts.length = i ∧ (D :: ts).Nodup ∧ (∀ t ∈ ts, H1 t = none) ∧ ∀ (j : Nat) (t : Addr), ts[j]? = some t → H t = some (.lst (o j))) hn hG
    (fun D H e => ⟨[], rfl, rfl, by simp, (fun t h => nomatch h), fun j t h => by simp at h⟩) (fun D i ys H H' ⟨ts, h1, h2, h3, h4, h5⟩ b => ⟨ts, h1, h2, h3, h4, fun j t h => b _ _ (fun z => (List.nodup_cons.mp h3).1 (by rw [← z]; exact List.mem_of_getElem? h)) (h5 j t h)⟩) ?_ ?_
  · rintro D i x ys H H' hi hD e hd ⟨ts, rfl, h2, h3, h4, h5⟩ y N hN
    obtain ⟨e1, go⟩ := he i x H H' hi e y
    refine ⟨hw x, go N fun t H4 e4 ht ho => hN _ H4 (e1.trans e4) ⟨ts ++ [t], by simp, by simp [h2], ?_, fun u hu => ?_, fun j u hu => ?_⟩⟩
    · obtain ⟨n1, n2⟩ := List.nodup_cons.mp h3
      have tD : t ≠ D := fun z => by rw [z, e1 _ _ hd] at ht; cases ht
      have tts : t ∉ ts := fun z => by
        obtain ⟨j, hj⟩ := List.getElem?_of_mem z
        rw [e1 _ _ (h5 j t hj)] at ht
        cases ht
      refine List.nodup_cons.mpr ⟨fun z => ?_, List.nodup_append.mpr ⟨n2, by simp, fun a ha b hb => ?_⟩⟩
      · rcases List.mem_append.mp z with z | z
        · exact n1 z
        · exact tD (List.mem_singleton.mp z).symm
      · rw [List.mem_singleton.mp hb]
        rintro rfl
        exact tts ha
    · rcases List.mem_append.mp hu with z | z
      · exact h4 u z
      · rw [List.mem_singleton.mp z]
        exact (e.trans e1).free ht
    · rcases Nat.lt_or_ge j ts.length with c | c
      · rw [List.getElem?_append_left c] at hu
        exact e4 _ _ (e1 _ _ (h5 j u hu))
      · rw [List.getElem?_append_right c] at hu
        cases z : j - ts.length with
        | zero =>
          rw [z] at hu
          cases hu
          have : j = i := by omega
          rw [this]
          exact ho
        | succ m => rw [z] at hu; simp at hu
  · rintro D ys H' h1 h2 h3 h4 ⟨ts, rfl, g2, g3, g4, g5⟩
    exact q D ts H' h1 h2 h3 g2 g3 g4 g5
end GS
/-! Comprehensions with two for. -/
namespace GS
open PySem PySem.Spec PyProof.Rows L2
def flatV (F : Nat → List V) (i : Nat) : List V := ((List.range i).map F).flatten
theorem flatV_succ (F : Nat → List V) (i : Nat) : flatV F (i + 1) = flatV F i ++ F i := by
  unfold flatV
  rw [List.range_succ, List.map_append, List.flatten_append]
  simp
theorem flatV_len {F : Nat → List V} : ∀ i, (∀ j, j < i → (F j).length ≤ 200) → (flatV F i).length ≤ 200 * i
  | 0, _ => by simp [flatV]
  | i + 1, h => by
    rw [flatV_succ, List.length_append]
    have := flatV_len i fun j hj => h j (by omega)
    have := h i (by omega)
    omega
/-- tLc2 behind its outer walk -/
def lc2B (J : It) (g : TG) (tt : TT) (wi1 : TI) (g1 : TG) (tt1 : TT) (te : TE) (vs vs1 : List Nat) (σ : L2.St) (Q : VK) : Hp → Prop := fun H1 => tLc2 (fun _ H R => R J H) g tt wi1 g1 tt1 te vs vs1 σ H1 Q
theorem r_lc2 {wi wi1 : TI} {g g1 : TG} {tt tt1 : TT} {te : TE} {vs vs1 : List Nat} {σ : L2.St} {H : Hp} {Q : VK} (q : wi σ H fun J H1 => lc2B J g tt wi1 g1 tt1 te vs vs1 σ Q H1) : tLc2 wi g tt wi1 g1 tt1 te vs vs1 σ H Q := q
theorem if_go {A B : Prop} (h : A) : if true = true then A else B := by
  rw [if_pos rfl]
  exact h
/-- what an inner walk is to give -/
def inB2 (H1 : Hp) (f : List V) (k1 : Nat) (te : TE) (σ2 : L2.St) (J1 : It) : Prop := ∃ (G1 : Hp → Prop) (Y1 : Nat → Hp → V → Hp → Prop), Walk J1 f.length G1 Y1 ∧ (∀ H5, Ex H1 H5 → G1 H5) ∧
  ∀ j y H5 H6, j < f.length → Ex H1 H5 → Y1 j H5 y H6 → Ex H5 H6 ∧ ∀ N : VK, (∀ H7, Ex H6 H7 → N (f.getD j .non) H7) → te ((wipe σ2 [k1]).set k1 (some y)) H6 N
theorem r_lc2P {J : It} {n : Nat} {G : Hp → Prop} {Y : Nat → Hp → V → Hp → Prop} {k k1 : Nat} {wi1 : TI} {te : TE} {σ : L2.St} {H1 : Hp} {Q : VK} (w : Walk J n G Y) (F : Nat → List V) (hn : n ≤ 200) (hF : ∀ i, i < n → (F i).length ≤ 200) (hG : ∀ H' : Hp, Ex H1 H' → G H')
    (hw : ∀ x, wipe ((wipe σ [k, k1]).set k (some x)) [k, k1] = wipe σ [k, k1]) (hw1 : ∀ x y, wipe ((wipe ((wipe σ [k, k1]).set k (some x)) [k1]).set k1 (some y)) [k1] = wipe ((wipe σ [k, k1]).set k (some x)) [k1])
    (he : ∀ i x H H', i < n → Ex H1 H → Y i H x H' → Ex H H' ∧ ∀ R : It → Hp → Prop, (∀ J1, inB2 H1 (F i) k1 te ((wipe σ [k, k1]).set k (some x)) J1 → R J1 H') → wi1 ((wipe σ [k, k1]).set k (some x)) H' R)
    (q : ∀ p H', H1 p = none → Ex H1 H' → H' p = some (.lst (flatV F n)) → Q (.ref p) H') : lc2B J (gName k) tYes wi1 (gName k1) tYes te [k, k1] [k1] σ Q H1 := by
  intro D hD
  have mu : ∀ {H : Hp} {o : HO}, Ex H1 H → Ex H1 (upd H D o) := fun e => Ex.mut e hD
  have len : ∀ i, i ≤ n → (flatV F i).length ≤ 200 * i := fun i hi => flatV_len i fun j hj => hF j (by omega)
  refine ⟨fun i m H => i ≤ n ∧ m = n - i ∧ Ex H1 H ∧ H D = some (.lst (flatV F i)), ⟨n, Nat.zero_le _, by simp, mu (Ex.refl _), upd_same⟩, ?_⟩
  rintro i m H ⟨hi, rfl, e, hd⟩
  rcases Nat.lt_or_eq_of_le hi with c | rfl
  · refine .inr ⟨w.goes i H c (hG H e), fun H' => Ex H1 H' ∧ H' D = some (.lst (flatV F (i + 1))), fun H' h => ⟨n - (i + 1), by omega, by omega, rfl, h⟩, fun x H' y => ?_⟩
    obtain ⟨e1, go⟩ := he i x H H' c e (w.yields i H x H' c (hG H e) y)
    refine r_gName ⟨hw x, ?_⟩
    show wi1 _ _ _
    refine go _ fun J1 ⟨G1, Y1, w1, hG1, st⟩ => ?_
    have l1 := hF i c
    have l2 := len i hi
    refine ⟨fun j k H => j ≤ (F i).length ∧ k = (F i).length - j ∧ Ex H1 H ∧ H D = some (.lst (flatV F i ++ (F i).take j)), ⟨(F i).length, Nat.zero_le _, by simp, e.trans e1, by simpa using e1 _ _ hd⟩, ?_⟩
    rintro j kk H5 ⟨hj, rfl, e5, hd5⟩
    rcases Nat.lt_or_eq_of_le hj with cj | rfl
    · refine .inr ⟨w1.goes j H5 cj (hG1 H5 e5), fun H' => Ex H1 H' ∧ H' D = some (.lst (flatV F i ++ (F i).take (j + 1))), fun H' h => ⟨(F i).length - (j + 1), by omega, by omega, rfl, h⟩, fun z H6 y1 => ?_⟩
      obtain ⟨e6, go1⟩ := st j z H5 H6 cj e5 (w1.yields j H5 z H6 cj (hG1 H5 e5) y1)
      refine r_gName ⟨hw1 x z, ?_⟩
      show te _ _ _
      refine go1 _ fun H7 e7 => ⟨_, e7 _ _ (e6 _ _ hd5), ?_, mu ((e5.trans e6).trans e7), ?_⟩
      · refine sz_lt ?_
        rw [List.length_append, List.length_take]
        omega
      · rw [upd_same, List.append_assoc, List.take_add_one, List.getElem?_eq_getElem cj, List.getD_eq_getElem?_getD, List.getElem?_eq_getElem cj]
        rfl
    · refine .inl ⟨w1.stops H5 (hG1 H5 e5), e5, ?_⟩
      rw [hd5, List.take_length, flatV_succ]
  · exact .inl ⟨w.stops H (hG H e), q D H hD e hd⟩
end GS
/-! A field stored: the value is read first. -/
namespace GS
open PySem PySem.Spec PyProof.Rows L2
/-- sFld behind its value -/
def fldS (K : PySem.W.Frag) (ta : TE) (f : PySem.Str) (D : Ends) (σ : L2.St) : VK := fun y H1 => sFld K ta (fun _ H Q => Q y H) f D σ H1
theorem r_fldS {K : PySem.W.Frag} {ta tv : TE} {f : PySem.Str} {D : Ends} {σ : L2.St} {H : Hp} (q : tv σ H (fldS K ta f D σ)) : sFld K ta tv f D σ H := q
end GS
/-! zip, enumerate within comprehensions within comprehensions. -/
namespace GS
open PySem PySem.Spec PyProof.Rows L2
theorem kx_zipX {X : Cx} {K : PySem.W.Frag} (h : X.K = K) {e e2 : Expr} {ta : TA} {p pos tpos : Pos} {elts : List Expr} {kk : Nat} (hg : Gl X "zip") (hm : X.mg "zip" = none) (ha : PA X [e, e2] ta)
    (hs : starEach [e, e2] X.env = (false, eval e X.env) :: starEach [e2] X.env := by rfl) (hpl : (backTo pos (starEach [e2] X.env)).any (·.1) = false := by rfl) :
    PI X (.Tuple elts kk tpos) (.Call (.Name "zip" p) [e, e2] [] pos) (iZipX K ta) := by
  subst h
  exact pi_zipX hg hm ha hs hpl
theorem kx_enum {X : Cx} {K : PySem.W.Frag} (h : X.K = K) {e : Expr} {ta : TA} {p pos tpos : Pos} {elts : List Expr} {kk : Nat} (hg : Gl X "enumerate") (hm : X.mg "enumerate" = none) (ha : PA X [e] ta) (hs : starEach [e] X.env = [(false, eval e X.env)] := by rfl) :
    PI X (.Tuple elts kk tpos) (.Call (.Name "enumerate" p) [e] [] pos) (iEnum K ta) := by
  subst h
  exact pi_enum hg hm ha hs
end GS
/-! zip of three lists or tuples, in any mix. -/
namespace GS
open PySem PySem.Spec PyProof.Rows L2 TL
def ItzY (K : PySem.W.Frag) (t1 t2 t3 : Bool) (a b c : Addr) : It :=
  ⟨fun i H => ∃ (xs ys zs : List V) (x y z : V), SqX K H t1 a xs ∧ SqX K H t2 b ys ∧ SqX K H t3 c zs ∧ xs[i]? = some x ∧ ys[i]? = some y ∧ zs[i]? = some z,
    fun i H v H' => ∃ T x y z, v = .ref T ∧ H T = none ∧ H' = upd H T (.tup [x, y, z]) ∧ (∀ xs, SqX K H t1 a xs → xs[i]? = some x) ∧ (∀ ys, SqX K H t2 b ys → ys[i]? = some y) ∧ ∀ zs, SqX K H t3 c zs → zs[i]? = some z,
    fun i H => ∃ xs ys zs : List V, SqX K H t1 a xs ∧ SqX K H t2 b ys ∧ SqX K H t3 c zs ∧ i ≤ xs.length ∧ i ≤ ys.length ∧ i ≤ zs.length ∧ (i = xs.length ∨ i = ys.length ∨ i = zs.length)⟩
theorem turn_zipY {P : Program} {w : World} {K : PySem.W.Frag} {elts : List Expr} {kk : Nat} {tpos : Pos} {t1 t2 t3 : Bool} {a b c0 z TI TO i1 i2 i3 : Addr} (D : ZipSep3 z TI TO i1 i2 i3 [i1, a] [i2, b] [i3, c0]) :
    Turn P w K (.Tuple elts kk tpos) (ItzY K t1 t2 t3 a b c0) [z, TI, TO, i1, i2, i3] z (fun i h => IsZip h z TI TO .none ∧ IsTupOf3 h TI (.ref i1) (.ref i2) (.ref i3) ∧ (∃ x y u, IsTupOf3 h TO x y u) ∧ itAt h t1 i1 a i ∧ itAt h t2 i2 b i ∧ itAt h t3 i3 c0 i) where
  mem := by simp
  obj := fun i h st c hc => by
    obtain ⟨hz, hTI, ⟨x, y, u, hTO⟩, h1, h2, h3⟩ := st
    have e' : c = z ∨ c = TI ∨ c = TO ∨ c = i1 ∨ c = i2 ∨ c = i3 := by simpa using hc
    rcases e' with q | q | q | q | q | q
    · rw [q]; exact ⟨_, hz, fun v q => nomatch q⟩
    · rw [q]; exact ⟨_, hTI, fun v q => nomatch q⟩
    · rw [q]; exact ⟨_, hTO, fun v q => nomatch q⟩
    · rw [q]; exact itAt_obj h1
    · rw [q]; exact itAt_obj h2
    · rw [q]; exact itAt_obj h3
  keep := fun i h h' st k => by
    obtain ⟨hz, hTI, ⟨x, y, u, hTO⟩, h1, h2, h3⟩ := st
    exact ⟨k z (by simp) _ hz, k TI (by simp) _ hTI, ⟨x, y, u, k TO (by simp) _ hTO⟩, itAt_keep h1 fun o q => k i1 (by simp) o q, itAt_keep h2 fun o q => k i2 (by simp) o q, itAt_keep h3 fun o q => k i3 (by simp) o q⟩
  item := by
    intro X hP hw hK hc i pins s σ H E I hf st hg
    subst hP hw hK
    obtain ⟨hz, hTI, ⟨x0, y0, u0, hTO⟩, h1, h2, h3⟩ := st
    obtain ⟨xs, ys, zs, x, y, zz, hqx, hqy, hqz, hx, hy, hzz⟩ := hg
    obtain ⟨its, rv, p⟩ := sqX_get I hqx
    obtain ⟨its2, rv2, p2⟩ := sqX_get I hqy
    obtain ⟨its3, rv3, p3⟩ := sqX_get I hqz
    obtain ⟨u, hu, ru⟩ := rv.get hx
    obtain ⟨u2, hu2, ru2⟩ := rv2.get hy
    obtain ⟨u3, hu3, ru3⟩ := rv3.get hzz
    have hzl : z < s.heap.objs.size := Heap.lt_size hz
    have n1 : a ≠ i1 := fun e => by
      cases t1 with
      | true =>
        obtain ⟨o2, e2, c2, _⟩ := (show s.heap.IsTuple a its.toArray from p)
        obtain ⟨o3, e3, c3, _⟩ := (show s.heap.IsTupleIter i1 a i from h1)
        rw [← e, e2] at e3
        cases e3
        rw [c2] at c3
        exact absurd c3 (by decide)
      | false =>
        obtain ⟨o2, e2, c2, _⟩ := (show s.heap.IsList a its.toArray from p)
        obtain ⟨o3, e3, c3, _⟩ := (show s.heap.IsListIter i1 a i from h1)
        rw [← e, e2] at e3
        cases e3
        rw [c2] at c3
        exact absurd c3 (by decide)
    have n2 : b ≠ i2 := fun e => by
      cases t2 with
      | true =>
        obtain ⟨o2, e2, c2, _⟩ := (show s.heap.IsTuple b its2.toArray from p2)
        obtain ⟨o3, e3, c3, _⟩ := (show s.heap.IsTupleIter i2 b i from h2)
        rw [← e, e2] at e3
        cases e3
        rw [c2] at c3
        exact absurd c3 (by decide)
      | false =>
        obtain ⟨o2, e2, c2, _⟩ := (show s.heap.IsList b its2.toArray from p2)
        obtain ⟨o3, e3, c3, _⟩ := (show s.heap.IsListIter i2 b i from h2)
        rw [← e, e2] at e3
        cases e3
        rw [c2] at c3
        exact absurd c3 (by decide)
    have n3 : c0 ≠ i3 := fun e => by
      cases t3 with
      | true =>
        obtain ⟨o2, e2, c2, _⟩ := (show s.heap.IsTuple c0 its3.toArray from p3)
        obtain ⟨o3, e3, c3, _⟩ := (show s.heap.IsTupleIter i3 c0 i from h3)
        rw [← e, e2] at e3
        cases e3
        rw [c2] at c3
        exact absurd c3 (by decide)
      | false =>
        obtain ⟨o2, e2, c2, _⟩ := (show s.heap.IsList c0 its3.toArray from p3)
        obtain ⟨o3, e3, c3, _⟩ := (show s.heap.IsListIter i3 c0 i from h3)
        rw [← e, e2] at e3
        cases e3
        rw [c2] at c3
        exact absurd c3 (by decide)
    have k1 : i < its.toArray.size := by have := (List.getElem?_eq_some_iff.mp hu).1; simpa using this
    have k2 : i < its2.toArray.size := by have := (List.getElem?_eq_some_iff.mp hu2).1; simpa using this
    have k3 : i < its3.toArray.size := by have := (List.getElem?_eq_some_iff.mp hu3).1; simpa using this
    refine wpAny_pyNext_zipD3_item D (dr_at (prog := X.prog) (w := X.w) (A := X.A.in1) (I.ok.hd hc) t1 i1 a n1 its.toArray) (dr_at (prog := X.prog) (w := X.w) (A := X.A.in1) (I.ok.hd hc) t2 i2 b n2 its2.toArray) (dr_at (prog := X.prog) (w := X.w) (A := X.A.in1) (I.ok.hd hc) t3 i3 c0 n3 its3.toArray) hz hTI hTO ⟨h1, p⟩ ⟨h2, p2⟩ ⟨h3, p3⟩ k1 k2 k3 fun x1 x2 x3 h' tk y1 y2 y3 z' TO' st1' st2' st3' hT hsz hk => ?_
    have e1 : x1 = u := by have : its[i]? = some x1 := by simpa using y1
                           rw [hu] at this; exact (Option.some.inj this).symm
    have e2 : x2 = u2 := by have : its2[i]? = some x2 := by simpa using y2
                            rw [hu2] at this; exact (Option.some.inj this).symm
    have e3 : x3 = u3 := by have : its3[i]? = some x3 := by simpa using y3
                            rw [hu3] at this; exact (Option.some.inj this).symm
    subst e1 e2 e3
    refine ⟨_, rfl, wpAny_letOwnedTupleGo_zip (s := { s with heap := h', toks := tk }) z' fun h'' z'' sb => ?_⟩
    have hT2 : h''.get? s.heap.objs.size = some { cls := .type "tuple", data := .seq #[x1, x2, x3] } := (sb.2 _ (Nat.ne_of_gt hzl)).trans hT
    have new : ObjOk X.prog X.w (upd H s.heap.objs.size (.tup [x, y, zz])) h'' s.heap.objs.size (.tup [x, y, zz]) :=
      ⟨by show 3 ≤ sizeLine; decide, [x1, x2, x3], .cons ru (.cons ru2 (.cons ru3 .nil)), ⟨_, hT2, rfl, _, rfl⟩⟩
    have I1 : Inv X pins σ (upd H s.heap.objs.size (.tup [x, y, zz])) { s with heap := h'', toks := tk } :=
      I.turnedNew (t' := tk) (ch := [z, TI, TO, i1, i2, i3]) (fun c o hb q => (sb.2 c (fun q' => hb (by simp [q']))).trans (hk c o (fun q' => hb (by simp [q'])) (fun q' => hb (by simp [q'])) (fun q' => hb (by simp [q'])) (fun q' => hb (by simp [q'])) (fun q' => hb (by simp [q'])) q)) hf (Nat.le_refl _) new
    refine ⟨.ref s.heap.objs.size, _, I1, rfl, ⟨_, x, y, zz, rfl, I.hok.fresh (Nat.le_refl _), rfl, (fun l hl => by rw [sqX_inj I hl hqx]; exact hx), (fun l hl => by rw [sqX_inj I hl hqy]; exact hy), fun l hl => by rw [sqX_inj I hl hqz]; exact hzz⟩, ⟨z'', ?_, ⟨x1, x2, x3, ?_⟩, ?_, ?_, ?_⟩, fun c hcm => ?_⟩
    · exact (sb.2 _ D.TIz).trans (hk _ _ D.TIz D.TITO D.TIi1 D.TIi2 D.TIi3 hTI)
    · exact (sb.2 _ D.TOz).trans TO'
    · exact itAt_keep st1'.1 fun o q => (sb.2 _ (Ne.symm D.zi1)).trans q
    · exact itAt_keep st2'.1 fun o q => (sb.2 _ (Ne.symm D.zi2)).trans q
    · exact itAt_keep st3'.1 fun o q => (sb.2 _ (Ne.symm D.zi3)).trans q
    · have hlt : c < s.heap.objs.size := by
        have e' : c = z ∨ c = TI ∨ c = TO ∨ c = i1 ∨ c = i2 ∨ c = i3 := by simpa using hcm
        rcases e' with q | q | q | q | q | q
        · rw [q]; exact hzl
        · rw [q]; exact Heap.lt_size hTI
        · rw [q]; exact Heap.lt_size hTO
        · rw [q]; obtain ⟨_, e1, _⟩ := itAt_obj h1; exact Heap.lt_size e1
        · rw [q]; obtain ⟨_, e2, _⟩ := itAt_obj h2; exact Heap.lt_size e2
        · rw [q]; obtain ⟨_, e3, _⟩ := itAt_obj h3; exact Heap.lt_size e3
      rw [upd_ne (Nat.ne_of_lt hlt)]
      exact (hf c hcm).1
  done := by
    intro X hP hw hK hc i pins s σ H E I hf st hg
    subst hP hw hK
    obtain ⟨hz, hTI, ⟨x0, y0, u0, hTO⟩, h1, h2, h3⟩ := st
    obtain ⟨xs, ys, zs, hqx, hqy, hqz, l1, l2, l3, hend⟩ := hg
    obtain ⟨its, rv, p⟩ := sqX_get I hqx
    obtain ⟨its2, rv2, p2⟩ := sqX_get I hqy
    obtain ⟨its3, rv3, p3⟩ := sqX_get I hqz
    have m1 := rv.length
    have m2 := rv2.length
    have m3 := rv3.length
    have n1 : a ≠ i1 := fun e => by
      cases t1 with
      | true =>
        obtain ⟨o2, e2, c2, _⟩ := (show s.heap.IsTuple a its.toArray from p)
        obtain ⟨o3, e3, c3, _⟩ := (show s.heap.IsTupleIter i1 a i from h1)
        rw [← e, e2] at e3
        cases e3
        rw [c2] at c3
        exact absurd c3 (by decide)
      | false =>
        obtain ⟨o2, e2, c2, _⟩ := (show s.heap.IsList a its.toArray from p)
        obtain ⟨o3, e3, c3, _⟩ := (show s.heap.IsListIter i1 a i from h1)
        rw [← e, e2] at e3
        cases e3
        rw [c2] at c3
        exact absurd c3 (by decide)
    have n2 : b ≠ i2 := fun e => by
      cases t2 with
      | true =>
        obtain ⟨o2, e2, c2, _⟩ := (show s.heap.IsTuple b its2.toArray from p2)
        obtain ⟨o3, e3, c3, _⟩ := (show s.heap.IsTupleIter i2 b i from h2)
        rw [← e, e2] at e3
        cases e3
        rw [c2] at c3
        exact absurd c3 (by decide)
      | false =>
        obtain ⟨o2, e2, c2, _⟩ := (show s.heap.IsList b its2.toArray from p2)
        obtain ⟨o3, e3, c3, _⟩ := (show s.heap.IsListIter i2 b i from h2)
        rw [← e, e2] at e3
        cases e3
        rw [c2] at c3
        exact absurd c3 (by decide)
    have n3 : c0 ≠ i3 := fun e => by
      cases t3 with
      | true =>
        obtain ⟨o2, e2, c2, _⟩ := (show s.heap.IsTuple c0 its3.toArray from p3)
        obtain ⟨o3, e3, c3, _⟩ := (show s.heap.IsTupleIter i3 c0 i from h3)
        rw [← e, e2] at e3
        cases e3
        rw [c2] at c3
        exact absurd c3 (by decide)
      | false =>
        obtain ⟨o2, e2, c2, _⟩ := (show s.heap.IsList c0 its3.toArray from p3)
        obtain ⟨o3, e3, c3, _⟩ := (show s.heap.IsListIter i3 c0 i from h3)
        rw [← e, e2] at e3
        cases e3
        rw [c2] at c3
        exact absurd c3 (by decide)
    refine wpAny_pyNext_zipD3_end D (dr_at (prog := X.prog) (w := X.w) (A := X.A.in1) (I.ok.hd hc) t1 i1 a n1 its.toArray) (dr_at (prog := X.prog) (w := X.w) (A := X.A.in1) (I.ok.hd hc) t2 i2 b n2 its2.toArray) (dr_at (prog := X.prog) (w := X.w) (A := X.A.in1) (I.ok.hd hc) t3 i3 c0 n3 its3.toArray) hz hTI hTO ⟨h1, p⟩ ⟨h2, p2⟩ ⟨h3, p3⟩ (by rw [List.size_toArray]; omega) (by rw [List.size_toArray]; omega) (by rw [List.size_toArray]; omega) (by rw [List.size_toArray, List.size_toArray, List.size_toArray]; omega) fun h' tk hk => ⟨rfl, ?_⟩
    exact I.turnedL (t' := tk) (ch := [z, TI, TO, i1, i2, i3]) (fun c o hb q => hk c o (fun q' => hb (by simp [q'])) (fun q' => hb (by simp [q'])) (fun q' => hb (by simp [q'])) (fun q' => hb (by simp [q'])) (fun q' => hb (by simp [q'])) q) hf
  self := fun A i s Q E st h => wpAny_pyIter_zip st.1 h
def iZipY (K : PySem.W.Frag) (ta : TA) : TI := fun σ H R => ta σ H fun vs H1 => ∃ t1 t2 t3 a b c xs ys zs, vs = [.ref a, .ref b, .ref c] ∧ SqX K H1 t1 a xs ∧ SqX K H1 t2 b ys ∧ SqX K H1 t3 c zs ∧ R (ItzY K t1 t2 t3 a b c) H1
theorem pi_zipY {X : Cx} {e e2 e3 : Expr} {ta : TA} {p pos tpos : Pos} {elts : List Expr} {kk : Nat} (hg : Gl X "zip") (hm : X.mg "zip" = none) (ha : PA X [e, e2, e3] ta)
    (hs : starEach [e, e2, e3] X.env = (false, eval e X.env) :: starEach [e2, e3] X.env := by rfl) (hpl : (backTo pos (starEach [e2, e3] X.env)).any (·.1) = false := by rfl) :
    PI X (.Tuple elts kk tpos) (.Call (.Name "zip" p) [e, e2, e3] [] pos) (iZipY X.K ta) := by
  refine ⟨fun pins s σ H R I h => ?_⟩
  refine Call_ (ld_blt I hg hm PyProof.Rows.boot_zip (PyProof.Rows.callWith_type1 (thn (ha.run pos pins s σ H _ I h) fun us s1 ⟨vs, H1, I1, r1, q1⟩ => ?_) hs hpl))
  obtain ⟨t1, t2, t3, a, b, c0, xs, ys, zs, ex, hqx, hqy, hqz, q⟩ := q1
  subst ex
  cases r1 with
  | cons r rr =>
    cases rr with
    | cons r' rr =>
      cases rr with
      | cons r'' rr =>
        cases rr
        cases r
        cases r'
        cases r''
        have fresh6 : ∀ c, c ∈ [s1.heap.objs.size + 5, s1.heap.objs.size + 3, s1.heap.objs.size + 4, s1.heap.objs.size, s1.heap.objs.size + 1, s1.heap.objs.size + 2] → FpOk X pins H1 c := fun c hcm => by
          have hle : s1.heap.objs.size ≤ c := by
            simp only [List.mem_cons, List.not_mem_nil, or_false] at hcm
            rcases hcm with z | z | z | z | z | z
            · rw [z]; exact Nat.le_add_right _ _
            · rw [z]; exact Nat.le_add_right _ _
            · rw [z]; exact Nat.le_add_right _ _
            · rw [z]; exact Nat.le_refl _
            · rw [z]; exact Nat.le_add_right _ _
            · rw [z]; exact Nat.le_add_right _ _
          exact I1.fpOk hle (I1.hok.fresh hle)
        obtain ⟨its, rv, p1⟩ := sqX_get I1 hqx
        obtain ⟨its2, rv2, p2⟩ := sqX_get I1 hqy
        obtain ⟨its3, rv3, p3⟩ := sqX_get I1 hqz
        refine zip_begins3 (beg_at t1 a its.toArray) (beg_at t2 b its2.toArray) (beg_at t3 c0 its3.toArray) p1 p2 p3 fun h' hz hTI hTO h1 h2 h3 hsz hk => wpAny_pyIter_zip hz ?_
        have I2 : Inv X pins σ H1 { s1 with heap := h' } := I1.kept (t' := s1.toks) hk
        have la := isAt_lt p1
        have lb := isAt_lt p2
        have lc := isAt_lt p3
        have sep : ZipSep3 (s1.heap.objs.size + 5) (s1.heap.objs.size + 3) (s1.heap.objs.size + 4) s1.heap.objs.size (s1.heap.objs.size + 1) (s1.heap.objs.size + 2) [s1.heap.objs.size, a] [s1.heap.objs.size + 1, b] [s1.heap.objs.size + 2, c0] :=
          zip_sep3 (fun c hc => by rw [List.mem_singleton.mp hc]; exact isAt_lt p1) (fun c hc => by rw [List.mem_singleton.mp hc]; exact isAt_lt p2) (fun c hc => by rw [List.mem_singleton.mp hc]; exact isAt_lt p3)
        exact ⟨s1.heap.objs.size + 5, [s1.heap.objs.size + 5, s1.heap.objs.size + 3, s1.heap.objs.size + 4, s1.heap.objs.size, s1.heap.objs.size + 1, s1.heap.objs.size + 2], _, _, H1, rfl, I2, turn_zipY sep, ⟨hz, hTI, ⟨_, _, _, hTO⟩, itAt_new h1, itAt_new h2, itAt_new h3⟩, fresh6, q⟩
theorem kx_zipY {X : Cx} {K : PySem.W.Frag} (h : X.K = K) {e e2 e3 : Expr} {ta : TA} {p pos tpos : Pos} {elts : List Expr} {kk : Nat} (hg : Gl X "zip") (hm : X.mg "zip" = none) (ha : PA X [e, e2, e3] ta)
    (hs : starEach [e, e2, e3] X.env = (false, eval e X.env) :: starEach [e2, e3] X.env := by rfl) (hpl : (backTo pos (starEach [e2, e3] X.env)).any (·.1) = false := by rfl) :
    PI X (.Tuple elts kk tpos) (.Call (.Name "zip" p) [e, e2, e3] [] pos) (iZipY K ta) := by
  subst h
  exact pi_zipY hg hm ha hs hpl
def YTri (f g h : Nat → Option V) (i : Nat) (H : Hp) (v : V) (H' : Hp) : Prop := ∃ T x y z, v = .ref T ∧ H T = none ∧ H' = upd H T (.tup [x, y, z]) ∧ f i = some x ∧ g i = some y ∧ h i = some z
theorem walk_zipY {K : PySem.W.Frag} {t1 t2 t3 : Bool} {a b c : Addr} {xs ys zs : List V} {n : Nat} (hn : n = min (min xs.length ys.length) zs.length) : Walk (ItzY K t1 t2 t3 a b c) n (fun H => SqX K H t1 a xs ∧ SqX K H t2 b ys ∧ SqX K H t3 c zs) (YTri (fun i => xs[i]?) (fun i => ys[i]?) (fun i => zs[i]?)) := by
  subst hn
  refine ⟨fun i _ hi q => ?_, fun _ q => ⟨xs, ys, zs, q.1, q.2.1, q.2.2, by omega, by omega, by omega, by omega⟩, fun i H v H' _ q y => ?_⟩
  · have h1 : i < xs.length := by omega
    have h2 : i < ys.length := by omega
    have h3 : i < zs.length := by omega
    exact ⟨xs, ys, zs, xs[i], ys[i], zs[i], q.1, q.2.1, q.2.2, by simp [h1], by simp [h2], by simp [h3]⟩
  · obtain ⟨T, x, y', z, h1, h2, h3, h4, h5, h6⟩ := y
    exact ⟨T, x, y', z, h1, h2, h3, h4 xs q.1, h5 ys q.2.1, h6 zs q.2.2⟩
theorem r_zipY {K : PySem.W.Frag} {ta : TA} {σ : L2.St} {H : Hp} {R : It → Hp → Prop} (q : ta σ H fun vs H1 => ∃ t1 t2 t3 a b c xs ys zs, vs = [.ref a, .ref b, .ref c] ∧ SqX K H1 t1 a xs ∧ SqX K H1 t2 b ys ∧ SqX K H1 t3 c zs ∧ R (ItzY K t1 t2 t3 a b c) H1) : iZipY K ta σ H R := q
end GS
/-! sorted(d), d a dict whose keys are pairs of ints -/
namespace L2
open PySem PySem.Spec PyProof.Rows
def pairK (p : Int × Int) : List Key := [Sum.inl p.1, Sum.inl p.2]
/-- sorted(d): the keys, pairs of ints, by their first, then by their second -/
def rSortedDP : List V → Hp → VK → Prop := fun vs H Q => ∃ (a : Addr) (kvs : List (List Key × V)) (ps : List (Int × Int)), vs = [V.ref a] ∧ Rd H a (.dT kvs) ∧ kvs.map (·.1) = ps.map pairK ∧
  ∀ (p : Addr) (ts : List Addr) (qs : List (Int × Int)), qs.Perm ps → SrtO.Srtd SrtO.lexB qs → ts.length = qs.length → (∀ (j : Nat) (t : Addr) (q : Int × Int), ts[j]? = some t → qs[j]? = some q → H t = some (.tup [.int q.1, .int q.2])) → H p = none → Q (.ref p) (upd H p (.lst (ts.map V.ref)))
theorem dp_pair {f : List Key → Addr → Prop} : ∀ {kvs : List (List Key × V)} {bs : List Addr} {ps : List (Int × Int)}, Paired (fun p b => f p.1 b) kvs bs → kvs.map (·.1) = ps.map pairK → Paired (fun (p : Int × Int) b => f (pairK p) b) ps bs
  | [], _, ps, .nil, e => by
    cases ps with
    | nil => exact .nil
    | cons p q => cases e
  | k :: kvs, _, ps, .cons h t, e => by
    cases ps with
    | nil => cases e
    | cons p q =>
      rw [List.map_cons, List.map_cons] at e
      injection e with e1 e2
      exact .cons (by rw [← e1]; exact h) (dp_pair t e2)
def pairOf : Option HO → Int × Int
  | some (.tup [.int i, .int j]) => (i, j)
  | _ => (0, 0)
def kOf (H : Hp) : Value → Int × Int
  | .ref b => pairOf (H b)
  | _ => (0, 0)
theorem kOf_ref {H : Hp} {b : Addr} {p : Int × Int} (h : H b = some (.tup ((pairK p).map kV))) : kOf H (.ref b) = p := by
  show pairOf (H b) = p
  rw [h]
  rfl
theorem paired_mem {α β : Type} {R : α → β → Prop} : ∀ {xs : List α} {ys : List β} {y : β}, Paired R xs ys → y ∈ ys → ∃ x, x ∈ xs ∧ R x y
  | _, _, _, .nil, h => nomatch h
  | x :: xs, y' :: ys, y, .cons h t, hm => by
    rcases List.mem_cons.mp hm with rfl | hm
    · exact ⟨x, List.mem_cons_self, h⟩
    · obtain ⟨z, hz, r⟩ := paired_mem t hm
      exact ⟨z, List.mem_cons_of_mem _ hz, r⟩
theorem kOf_keys {H : Hp} : ∀ {ps : List (Int × Int)} {bs : List Addr}, Paired (fun (p : Int × Int) b => H b = some (.tup ((pairK p).map kV))) ps bs → ps = bs.map (kOf H ∘ Value.ref)
  | _, _, .nil => rfl
  | p :: ps, b :: bs, .cons h t => by
    rw [List.map_cons, ← kOf_keys t]
    congr 1
    exact (kOf_ref h).symm
theorem refs_all : ∀ {out : List Value}, (∀ v ∈ out, ∃ a, v = Value.ref a) → ∃ ts : List Addr, out = ts.map Value.ref
  | [], _ => ⟨[], rfl⟩
  | v :: out, h => by
    obtain ⟨a, rfl⟩ := h v List.mem_cons_self
    obtain ⟨ts, rfl⟩ := refs_all (out := out) fun u hu => h u (List.mem_cons_of_mem _ hu)
    exact ⟨a :: ts, rfl⟩
section
variable {X : Cx}
theorem cr_sortedDP (hc : X.calm = true) : CallR X (.builtin "sorted") rSortedDP := by
  intro pins s σ H xs us Q I r h
  obtain ⟨d, kvs, ps, rfl, hd, hks, q⟩ := h
  obtain ⟨u, rfl, rx⟩ := r.one
  cases rx
  obtain ⟨z, hs, ks, pr, o, es, ep, ho, hx, hdt, he, hn⟩ := (show ObjOk X.prog X.w H s.heap d (.dT kvs) from hd.ok I.hok)
  have l1 : es.size = ks.length := size_of_entries he
  have l2 : kvs.length = ks.length := Paired.length pr
  have hsz : es.size ≤ sizeLine := by omega
  refine Calls.call_function_entry kind_sorted plain_sorted entry_sorted (args_sorted1 _) ?_
  unfold Builtin.«sorted»
  refine wpAny_bind (m := checkCount "sorted" 1 1 _) (wpAny_pure ?_)
  refine wpAny_bind (PySem.W.kdu_collect (A := X.A.in1) (kdl_raw hs hx hdt) (I.ok.hd hc) ho hsz fun h' tk acc hk it => ?_)
  have ea : acc.toList = ks.map fun x => Value.ref x.2.1 := by
    have hl : acc.toList.length = ks.length := by rw [Array.length_toList, it.1]; exact l1
    apply List.ext_getElem?
    intro j
    rw [List.getElem?_map]
    cases hj : acc.toList[j]? with
    | none =>
      have h1 := List.getElem?_eq_none_iff.mp hj
      rw [List.getElem?_eq_none (by omega)]
      all_goals rfl
    | some v =>
      obtain ⟨en, hen, hv⟩ := it.2 j v (by rw [← Array.getElem?_toList]; exact hj)
      have qe := entry_at he j
      rw [hen] at qe
      cases hb : ks[j]? with
      | none =>
        rw [hb] at qe
        exact nomatch (show some en = none from qe)
      | some b =>
        rw [hb] at qe
        have e2 : en = entryOfKey (tupleKind (mixKind X.prog X.w)) b := Option.some.inj qe
        rw [hv, e2]
        all_goals rfl
  have eb : acc.toList = (ks.map fun x => x.2.1).map Value.ref := by rw [ea, List.map_map]; all_goals rfl
  have keys : Paired (fun (p : Int × Int) b => H b = some (.tup ((pairK p).map kV))) ps (ks.map fun x => x.2.1) := dp_pair (f := fun k b => H b = some (.tup (k.map kV))) (isKeys_of pr) hks
  generalize (ks.map fun x => x.2.1) = bs at eb keys
  have I1 : Inv X pins σ H { s with heap := h', toks := tk } := I.kept hk
  have hla : acc.toList.length ≤ sizeLine := by rw [ea, List.length_map]; omega
  refine wpAny_bind (wpAny_newList ?_ (by simpa using hla))
  have hoL : (h'.push (seqObj "list" acc.toList.toArray 0)).get? h'.objs.size = some (seqObj "list" acc.toList.toArray 0) := Heap.get?_push_size _ rfl
  show wpAny _ _ _ _ _ { s with heap := h'.push (seqObj "list" acc.toList.toArray 0), toks := tk }
  have mem : ∀ v ∈ acc.toList, ∃ b, v = Value.ref b ∧ H b = some (.tup [.int (kOf H v).1, .int (kOf H v).2]) := fun v hv => by
    rw [eb] at hv
    obtain ⟨b, hb, rfl⟩ := List.mem_map.mp hv
    obtain ⟨p, _, hp⟩ := paired_mem keys hb
    refine ⟨b, rfl, ?_⟩
    have e : kOf H (.ref b) = p := kOf_ref hp
    rw [e]
    exact hp
  refine wpAny_bind (wpAny_holding (wpAny_call_entry slot_list_sort ⟨_, hoL, rfl⟩ entry_list_sort (SrtO.list_sort_ord (s := { s with heap := h'.push (seqObj "list" acc.toList.toArray 0), toks := tk }) (ltv := fun v u => SrtO.lexB (kOf H v) (kOf H u)) (SrtO.swo_lex (kOf H)) hoL hla (fun h2 => ?_) fun out g1 g2 => ⟨_, rfl, ?_⟩) (args_list_sort _)))
  · refine SrtO.pairs_sortableO (by omega) (fun v hv => ?_) fun o e => ?_
    · obtain ⟨b, rfl, hb⟩ := mem v hv
      obtain ⟨_, its2, r2, o2, ho2, hc2, n2, hd2⟩ := I1.hok _ _ hb
      obtain ⟨u1, u2, rfl, ri, rj⟩ := vals2 r2
      obtain ⟨t1, rfl⟩ := ri
      obtain ⟨t2, rfl⟩ := rj
      exact ⟨b, o2, t1, t2, n2, rfl, Heap.get?_push_of_some _ ho2, hc2, hd2⟩
    · have e' : some o = some (seqObj "list" acc.toList.toArray 0) := e.symm.trans hoL
      cases e'
      intro c
      exact absurd (Value.type.inj c) (by decide)
  · obtain ⟨e', he'⟩ := PyProof.Rows.sortedHeap_at (vs := acc.toList) (out := out.toArray) hoL
    obtain ⟨ts, rfl⟩ : ∃ ts : List Addr, out = ts.map Value.ref := refs_all fun v hv => by
      obtain ⟨b, e, _⟩ := mem v (g2.perm.mem_iff.mp hv)
      exact ⟨b, e⟩
    have lt : ts.length ≤ sizeLine := by
      have := g2.perm.length_eq
      rw [List.length_map] at this
      omega
    refine wpAny_pure ⟨_, rfl, .ref h'.objs.size, upd H h'.objs.size (.lst (ts.map V.ref)), I1.laid (t' := tk) (fun b u e => ?_) (Nat.le_refl _)
      (show ObjOk X.prog X.w _ _ _ (.lst (ts.map V.ref)) from ⟨by rw [List.length_map]; exact lt, ts.map Value.ref, e', vals_refs _, he'⟩), rfl, q _ ts (ts.map fun b => kOf H (.ref b)) ?_ ?_ (by simp) (fun j t q' h1 h2 => ?_) (I1.hok.fresh (Nat.le_refl _))⟩
    · have hb : b < h'.objs.size := Heap.lt_size e
      rw [PyProof.Rows.sortedHeap_old (Nat.ne_of_lt hb) (by rw [size_push']; exact Nat.lt_succ_of_lt hb)]
      exact Heap.get?_push_of_some _ e
    · have p1 := g2.perm.map (kOf H)
      rw [eb, List.map_map, List.map_map] at p1
      rw [show ps = bs.map (kOf H ∘ Value.ref) from kOf_keys keys]
      exact p1
    · have := SrtO.srtd_map (f := kOf H) (lt := SrtO.lexB) g1
      rw [List.map_map] at this
      exact this
    · rw [List.getElem?_map, h1] at h2
      obtain rfl := Option.some.inj h2
      obtain ⟨b, e, hb⟩ := mem (.ref t) (g2.perm.mem_iff.mp (List.mem_map.mpr ⟨t, List.mem_of_getElem? h1, rfl⟩))
      cases e
      exact hb
end
end L2
/-! A lambda where several defs make such. -/
namespace GS
open PySem PySem.Spec PyProof.Rows L2 LamX
theorem pe_lamT {X : Cx} {T : List (Addr × Str)} {TT : (XK → Hp → VK → Prop) → Hp → VK → Prop} {x a : Str} {g c P : Addr} {k : Nat} {pg : Arguments} {bg : List Stmt} {sg : Scope} {fd : FuncData} {Ng : List Str}
    {params : Arguments} {body : Expr} {scope : Scope} {t : XK → TE} {p lpos pos : Pos} (hg : Gl X x) (hm : X.mg x = some (.ref g)) (hk : PySem.W.keepIn X.K (.ref g) = true)
    (F : FunD X.K x x pg bg sg [] [] g fd) (hb : L2.Binds X.K fd [a] []) (Sg : FnScope Ng [a] sg) (hNg : Ng[0]? = some a) (hva : Vis sg a)
    (hG : ∀ cdg, GivesS X Ng x sg g cdg bg a (X.env.qual ++ "<lambda>") TT)
    (TB : TabB X.base X.mg c P) (hcode : X.env.code = .ref c) (hmT : (P, X.env.qual ++ "<lambda>") ∈ T) (hu : ∀ p ∈ T, p.1 = P → p.2 = X.env.qual ++ "<lambda>") (hr : Room (k + 2) X.A) (L : LamS X.env.scope scope) (hdef : defaultsOf params X.env = ([], []))
    (hbind : ∀ (q : Str) (cl : List (Str × Addr)) (pm cv ctv : Value), bindArgs (PySem.W.kla_fn "<lambda>" q params body scope cl pm cv ctv) ⟨[], []⟩ = pure [])
    (hbody : ∀ (A : Around) (outer : List Env) (s : Shared) (H : Hp) (E : XK) (f c' : Addr), Room k (A.deeper (lamEnv X scope s.heap.objs.size f c')) → PE (lamCx X A outer s H E scope f c') body (t E))
    (hdb : (x == ("__debug__" : Str)) = false := by decide) (hd : (a == ("__debug__" : Str)) = false := by decide) (hcd : (a == ("__classdict__" : Str)) = false := by decide) :
    PE X (.Call (.Name x p) [.Lambda params body scope lpos] [] pos) (tLam T TT t) := by
  obtain ⟨oc, od, dV, kV, doc, pm, an, cdv, ct, osl, rfl, known, hcg, -, -⟩ := F.ex
  refine ⟨fun pins s σ H Q I want => ?_⟩
  obtain ⟨tabs, goal⟩ := want
  refine wpAny_Call_Name_kw (ld_glob I hg hm ?_ hdb)
  refine PySem.W.callWith_K (h₀ := X.base) I.ok.mod.kin hk ?_ (by rfl) (by rfl)
  show wpAny _ _ (spliced ((false, eval (.Lambda params body scope lpos) X.env) :: backTo pos (starEach [] X.env))) _ _ s
  refine Calls.spliced_cons (lam_make2 I TB hcode hmT hu tabs hdef (L.has I.ok) fun f c' pm' ctv H1 s' I1 eN T1 hf hfn hfr hco => ?_)
  refine Calls.spliced_nil ⟨I1.kIn, ?_⟩
  have ran : codeAny (model X.prog X.w) X.A (.call (.ref g) ⟨[.ref f], []⟩) (CR C8.CX0 X.stack X.prog X.w H1 s' Q C8.E0) s' := by
    refine run_ofS (N := Ng) (ps := [a]) (us := [.ref f]) (vs := [.ref f]) known hcg Sg hr I1.env0 (hb s' [.ref f] I1.kIn rfl) (.cons rfl .nil) rfl fun hr' => ?_
    obtain ⟨t', reads, wants⟩ := hG cdv f c' s' H1 Q (fun E H' Q' => t E σ H' Q') (fun W pn xe E p1 p2 tk hW => act_at (i := 0) I1 L hf hfn hfr (hbind _ _ _ _ _) tk hW hr' (fun A outer s H E hr2 => hbody A outer s H E f c' hr2) hNg hva hd hcd) hco (goal H1 eN T1)
    exact ⟨t', reads.nox, wants⟩
  refine wpAny_call (codeAny_mono ran fun r s2 hq => ?_)
  match r, hq with
  | .error e, hq => exact (show False from hq).elim
  | .ok (.ret u), hq => exact I1.after hq
  | .ok .next, hq => exact False.elim hq
  | .ok .brk, hq => exact False.elim hq
  | .ok .cont, hq => exact False.elim hq
/-- the tables of two defs are two -/
def tnB (x y : Str) : Chk := fun K => decide ((He.cT K (x, none)).2 ≠ (He.cT K (y, none)).2)
theorem tnB_ok {K : PySem.W.Frag} {x y : Str} (h : tnB x y K = true) : (He.cT K (x, none)).2 ≠ (He.cT K (y, none)).2 := of_decide_eq_true h
end GS
/-! A comprehension with a test whose turns change the heap. -/
namespace GS
open PySem PySem.Spec PyProof.Rows L2
theorem r_lcGT {J : It} {n : Nat} {G : Hp → Prop} {Y : Nat → Hp → V → Hp → Prop} {g : TG} {vs : List Nat} {tt : TT} {te : TE} {σ : L2.St} {H1 : Hp} {Q : VK} (w : Walk J n G Y) (P : Addr → Nat → List V → Hp → Prop) (hn : n ≤ 50000) (hG : ∀ D i ys H, P D i ys H → G H)
    (h0 : ∀ D, H1 D = none → P D 0 [] (upd H1 D (.lst []))) (mono : ∀ D i ys H o, H1 D = none → P D i ys H → P D i ys (upd H D o))
    (step : ∀ D i x ys H H', i < n → H1 D = none → H D = some (.lst ys) → ys.length ≤ i → P D i ys H → Y i H x H' → ∀ (N : VK) (M : Hp → Prop), (∀ y H4, H4 D = some (.lst ys) → P D (i + 1) (ys ++ [y]) H4 → N y H4) → (∀ H4, H4 D = some (.lst ys) → P D (i + 1) ys H4 → M H4) →
      g x (wipe σ vs) H' fun σ2 H2 => wipe σ2 vs = wipe σ vs ∧ tt σ2 H2 fun b H3 => if b = true then te σ2 H3 N else M H3)
    (q : ∀ D ys H', H1 D = none → H' D = some (.lst ys) → ys.length ≤ n → P D n ys H' → Q (.ref D) H') : lcB J g tt te vs σ Q H1 := by
  intro D hD
  refine lc_it w (fun i H => ∃ ys, H D = some (.lst ys) ∧ ys.length ≤ i ∧ P D i ys H) ⟨[], upd_same, Nat.le_refl _, h0 D hD⟩ (fun i H _ p => let ⟨ys, _, _, h⟩ := p; hG D i ys H h) ?_ (fun H p => let ⟨ys, h1, h2, h3⟩ := p; q D ys H hD h1 h2 h3)
  intro i x H H' hi p y
  obtain ⟨ys, p2, p3, p4⟩ := p
  exact step D i x ys H H' hi hD p2 p3 p4 y _ _ (fun z H4 h4 hp4 => ⟨ys, h4, sz_lt (by omega), ys ++ [z], upd_same, (by rw [List.length_append]; simp; omega), mono D _ _ _ _ hD hp4⟩) fun H4 h4 hp4 => ⟨ys, h4, by omega, hp4⟩
end GS
/-! Errors made as values: with own __init__, by place and by name; isinstance and fields of them. -/
namespace GS
open PySem PySem.Spec PySem.Calls PyProof.Rows L2
section
variable {X : Cx} {e : Expr} {es : List Expr} {ta : TA} {p pos : Pos}
/-- C(..) as a value -/
def tMkV (C : Addr) (sp : Sp) (dvs : List V) (ta : TA) : TE := fun σ H Q => ta σ H fun vs H1 => vs.length ≤ 1000 ∧ ∀ a, H1 a = none → sp (.ref a :: (vs ++ dvs)) (upd H1 a (exo a C none)) (fun v H2 => v = .non ∧ Q (.ref a) H2) fun _ _ _ => False
theorem pe_oexV {CX : CXT} {x : Str} {C fI : Addr} {k : Nat} {fd : FuncData} {ps : List Str} {sp : Sp} {ds : List Value} {dvs : List V} (T : OexC X.K C) (iC : PySem.W.findIn X.K (.ref C) "__init__" = some (some (.ref fI))) (tI : PySem.W.typeIn X.K (.ref fI) = some (.type "function"))
    (F1 : FnOk X.prog X.w X.K X.mg X.base CX k fI fd ps sp) (hr : Room (k + 1) X.A) (hb : Binds X.K fd ps ds) (hd : Vals dvs ds) (hx : Passes CX X (fun _ _ _ => False)) (hg : Gl X x) (hm : X.mg x = some (.ref C)) (ha : PA X (e :: es) ta)
    (hdb : (x == ("__debug__" : Str)) = false := by decide) (he : starEach (e :: es) X.env = (false, eval e X.env) :: starEach es X.env := by rfl) (hpl : (backTo pos (starEach es X.env)).any (·.1) = false := by rfl) :
    PE X (.Call (.Name x p) (e :: es) [] pos) (tMkV C sp dvs ta) := by
  refine ⟨fun pins s σ H Q I h => ?_⟩
  obtain ⟨nm, q, N, bs, bm, sn, sub, ab, col, dd, k0, k1, k2, k3, k5, hC, hbm⟩ := T.cls
  refine wpAny_Call_Name_kw (ld_glob I hg hm ?_ hdb)
  refine PySem.W.callWith_K (h₀ := X.base) I.ok.mod.kin T.kC (thn (ha.run pos pins s σ H _ I h) fun us s1 ⟨vs, H1, I1, r1, hz, q1⟩ => ⟨I1.kIn, ?_⟩) he hpl
  show wpAny _ _ (call (.ref C) us) _ _ _
  obtain ⟨hp, g, dr, tk, os⟩ := s1
  have hsz : hp.objs.size ≤ hp.objs.size + 1 := Nat.le_succ _
  have hn : H1 (hp.objs.size + 1) = none := I1.hok.fresh hsz
  have hq := q1 (hp.objs.size + 1) hn
  have kk : ∀ b o, hp.get? b = some o → ((hp.push (PySem.W.kdv_tup us)).push (PySem.HandSPX.excO C hp.objs.size)).get? b = some o := fun b o e => Heap.get?_push_of_some _ (Heap.get?_push_of_some _ e)
  have hget : ((hp.push (PySem.W.kdv_tup us)).push (PySem.HandSPX.excO C hp.objs.size)).get? (hp.objs.size + 1) = some (PySem.HandSPX.excO C hp.objs.size) := by heap_get
  have I2 : Inv X pins σ (upd H1 (hp.objs.size + 1) (exo (hp.objs.size + 1) C none)) ⟨(hp.push (PySem.W.kdv_tup us)).push (PySem.HandSPX.excO C hp.objs.size), g, dr, tk, os⟩ :=
    I1.laid (t' := tk) (a := hp.objs.size + 1) (o := exo (hp.objs.size + 1) C none) (h' := (hp.push (PySem.W.kdv_tup us)).push (PySem.HandSPX.excO C hp.objs.size)) kk hsz (exo_ok hget)
  have r2 : Vals (V.ref (hp.objs.size + 1) :: (vs ++ dvs)) (Value.ref (hp.objs.size + 1) :: (us ++ ds)) := .cons rfl (r1.append hd)
  have hl : (Value.ref (hp.objs.size + 1) :: us ++ ds).length = ps.length := by
    have e := r2.length
    rw [F1.len _ _ _ _ hq] at e
    exact e.symm
  have hus : us.length ≤ sizeLine := by
    rw [← Paired.length r1, sizeLine_eq]
    omega
  refine wpAny_call (PySem.HandSPX.call_own F.excBase_ValueError (fun Y => PySem.HandSPX.refsVE_contains Y bm hbm) (I1.kIn _ _ hC) (PySem.W.looks_findIn I1.kIn iC) (fun self => PySem.W.bind_fn I1.kIn self tI) hus
    (codeAny_mono (F1.run _ X.stack _ _ ⟨Value.ref (hp.objs.size + 1) :: us, []⟩ (Value.ref (hp.objs.size + 1) :: (us ++ ds)) _ _ (fun _ _ _ => False) (hr.make C us []) (I2.env0.make C us []) (hb _ (Value.ref (hp.objs.size + 1) :: us) I2.kIn hl) r2 hq) fun r s' hq' => ?_))
  cases r with
  | error er => exact hx pins σ _ _ er s' I2 hq'
  | ok fl =>
    cases fl with
    | ret u =>
      obtain ⟨v', H2, I3, rv, ev, q2⟩ := I2.after hq'
      subst ev
      exact ⟨rv, .ref _, H2, I3, rfl, q2⟩
    | next => exact False.elim hq'
    | brk => exact False.elim hq'
    | cont => exact False.elim hq'
end
end GS
/-! An error made by keyword. -/
namespace PySem.HandSPX
open PySem PySem.Spec PyProof.Rows PyProof
section
variable {M : Model} {prog : Program} {w : World} {A : Around} {E : Value → Shared → Prop} {R : Result → Shared → Prop} {h : Heap} {g : Array GenState} {d : Drawn} {t : Nat} {os : OsState}
variable {nm q : Str} {C N : Addr} {bs bm bmB : List Value} {hdct : Bool} {sn : List Str} {sub : List Value} {ab : Bool} {col : Option Bool} {dd : Option Addr} {k0 k1 k2 k3 k5 : Option Value} {B newId initId : String} {kw : List (Str × Value)}
theorem check_new_ownK (F : ExcBaseFacts B newId initId bmB) (hT : ∀ X : String, bm.contains (.type X) = bmB.contains (.type X)) {rest : List Value} {Q : Unit → Shared → Prop}
    (hC : h.get? C = some (excClassObj nm q C N bs bm hdct sn sub ab col dd k0 k1 k2 k3 k5 newId)) (hq : Q () ⟨h, g, d, t, os⟩) : wpAny M A (checkBuiltinCall newId ⟨.ref C :: rest, kw⟩) Q E ⟨h, g, d, t, os⟩ := by
  have hcont : (Value.ref C :: bm).contains (.type B) = true := by rw [List.contains_cons, hT, F.hasB, Bool.or_true]
  have hstar := F.noStar
  simp only [checkBuiltinCall, F.newKind, F.newSplit, F.newRow]
  repeat (first | refine wpAny_loadPart_at hC ?_ | (refine wpAny_isSubtype_exc hC ?_; rw [hcont]) | refine wpAny_staticBase_exc hC ?_ | refine wpAny_madeBy_exc hC ?_ | simp only [bne_self_eq_false, Bool.false_eq_true, if_false] | wp_step)
  exact hq
theorem new_ownK (F : ExcBaseFacts B newId initId bmB) (hT : ∀ X : String, bm.contains (.type X) = bmB.contains (.type X)) {rest : List Value}
    (hC : h.get? C = some (excClassObj nm q C N bs bm hdct sn sub ab col dd k0 k1 k2 k3 k5 newId))
    (hq : R (.ok (.ret (.ref (h.objs.size + 1)))) ⟨(h.push { cls := .type "tuple", data := .seq rest.toArray }).push
      { cls := .ref C, data := .fields #[.ref h.objs.size, .none, .none, .none, .bool false, .none] }, g, d, t, os⟩) (hrest : rest.length ≤ sizeLine) :
    codeAny (model prog w) A (.builtin newId ⟨.ref C :: rest, kw⟩) R ⟨h, g, d, t, os⟩ := by
  have hends := F.ends
  have hcB : (Value.ref C :: bm).contains (.type B) = true := by rw [List.contains_cons, hT, F.hasB, Bool.or_true]
  have hcA : (Value.ref C :: bm).contains (.type "AttributeError") = false := by rw [List.contains_cons, hT, F.noAttr]; rfl
  have hcN : (Value.ref C :: bm).contains (.type "NameError") = false := by rw [List.contains_cons, hT, F.noName]; rfl
  refine codeAny_builtinAt F.entry ?_
  unfold Builtin.«BaseException.__new__»
  refine wpAt_bind ?_
  show wpAt _ _ _ (stack >>= _) _ _ _
  refine wpAt_bind (wpAt_stack fun p below => wpAt_of_wpAny ?_)
  wp_walk
  refine wpAt_of_wpAny ?_
  rw [F.owner]
  repeat (first | with_reducible refine wpAny_madeHere_exc F.canon hC ?_ | with_reducible refine wpAny_loadPart_at hC ?_ | (with_reducible refine wpAny_isSubtype_exc hC ?_; first | rw [hcB] | rw [hcA] | rw [hcN]) | wp_step)
  show R _ _
  rw [Heap.size_push]
  exact hq
theorem type_call_ownK (F : ExcBaseFacts B newId initId bmB) (hT : ∀ X : String, bm.contains (.type X) = bmB.contains (.type X)) {rest : List Value} {fI : Addr} {Q : Fin → Shared → Prop}
    (hC : h.get? C = some (excClassObj nm q C N bs bm hdct sn sub ab col dd k0 k1 k2 k3 k5 newId))
    (hi : W.Looks (model prog w) h (typeLookup (.ref C) "__init__") (some (.ref fI))) (hb : ∀ self, W.Looks (model prog w) h (bindSpecial (.ref fI) self) (.ref fI, [self])) (hrest : rest.length ≤ sizeLine)
    (hq : codeAny (model prog w) A (.call (.ref fI) ⟨.ref (h.objs.size + 1) :: rest, kw⟩)
      (fun r s' => match r with | .ok (.ret v) => v = .none ∧ Q (.done (.ret (.ref (h.objs.size + 1)))) s' | .ok _ => False | .error e => E e s')
      ⟨(h.push (W.kdv_tup rest)).push (excO C h.objs.size), g, d, t, os⟩) :
    wpAny (model prog w) A (Builtin.«type.__call__» ⟨.ref C :: rest, kw⟩) Q E ⟨h, g, d, t, os⟩ := by
  repeat (first | with_reducible refine wpAny_loadPart_at hC ?_ | with_reducible refine wpAny_madeBy_exc hC ?_ | wp_step)
  refine codeAny_call_builtin_code (Code.quiet_builtin _ F.quiet) (check_new_ownK F hT hC ?_)
  refine new_ownK F hT hC ?_ hrest
  show wpAny _ _ _ _ _ _
  have k : ∀ b o, h.get? b = some o → ((h.push (W.kdv_tup rest)).push (excO C h.objs.size)).get? b = some o := fun b o e => Heap.get?_push_of_some _ (Heap.get?_push_of_some _ e)
  have hC₁ := k _ _ hC
  have hget : ((h.push (W.kdv_tup rest)).push (excO C h.objs.size)).get? (h.objs.size + 1) = some (excO C h.objs.size) := by heap_get
  have hcC : (Value.ref C :: bm).contains (.ref C) = true := by simp
  have i1 := hi.keeps k
  have b1 := (hb (.ref (h.objs.size + 1))).keeps k
  unfold isInstance
  repeat (first | with_reducible refine wpAny_loadPart_at hget ?_ | (with_reducible refine wpAny_isSubtype_exc hC₁ ?_; rw [hcC]) | wp_step)
  show wpAny _ _ (typeLookup (.ref C) _) _ _ _
  refine i1.at ?_
  refine wpAny_holding (wpAny_bind (b1.at ?_))
  refine wpAny_bind (wpAny_call (codeAny_mono hq fun r s' z => ?_))
  rcases r with e | (v | _ | _ | _) <;> first | exact z | exact z.elim | skip
  obtain ⟨rfl, z⟩ := z
  first
    | exact wpAny_pure (wpAny_pure z)
    | (wp_walk; exact z)
theorem call_ownK (F : ExcBaseFacts B newId initId bmB) (hT : ∀ X : String, bm.contains (.type X) = bmB.contains (.type X)) {rest : List Value} {fI : Addr}
    (hC : h.get? C = some (excClassObj nm q C N bs bm hdct sn sub ab col dd k0 k1 k2 k3 k5 newId))
    (hi : W.Looks (model prog w) h (typeLookup (.ref C) "__init__") (some (.ref fI))) (hb : ∀ self, W.Looks (model prog w) h (bindSpecial (.ref fI) self) (.ref fI, [self])) (hrest : rest.length ≤ sizeLine)
    (hq : codeAny (model prog w) (A.under (.builtin "type.__call__" ⟨.ref C :: rest, kw⟩)) (.call (.ref fI) ⟨.ref (h.objs.size + 1) :: rest, kw⟩) (W.InitBack (h.objs.size + 1) R)
      ⟨(h.push (W.kdv_tup rest)).push (excO C h.objs.size), g, d, t, os⟩) :
    codeAny (model prog w) A (.call (.ref C) ⟨rest, kw⟩) R ⟨h, g, d, t, os⟩ := by
  have f1 := tc_lookup
  have f2 := tc_bind (.ref C)
  have hTy : (⟨h, g, d, t, os⟩ : Shared).TypeIs (.ref C) "type" := ⟨_, hC, rfl⟩
  refine codeAny_of_tree ?_
  show wpAny _ _ (callAny (.ref C) _) _ _ _
  repeat (any_goals (first | assumption | with_reducible refine wpAny_loadPart_at hC ?_ | wp_step))
  refine ⟨rfl, ?_⟩
  refine codeAny_call_builtin_at (Code.quiet_builtin _ (by decide +kernel)) entry_typeCall (wpAny_check_type_call_sub hC (type_call_ownK F hT hC hi hb hrest ?_))
  refine codeAny_mono hq fun r s' z => ?_
  rcases r with e | (v | _ | _ | _) <;> exact z
end
end PySem.HandSPX
namespace GS
open PySem PySem.Spec PySem.Calls PyProof.Rows L2
section
variable {X : Cx} {p pos : Pos}
/-- C(k = v, ..) as a value -/
def tMkVK (C : Addr) (nk : Nat) (sp : Sp) (gV : List V → List V → List V) (tk : TA) : TE := fun σ H Q => tk σ H fun zs H1 => zs.length = nk ∧ zs.length ≤ 1000 ∧ ∀ a, H1 a = none → sp (gV [.ref a] zs) (upd H1 a (exo a C none)) (fun v H2 => v = .non ∧ Q (.ref a) H2) fun _ _ _ => False
theorem pe_oexK {CX : CXT} {x : Str} {C fI : Addr} {k : Nat} {fd : FuncData} {ps ks : List Str} {sp : Sp} {g : List Value → List Value → List Value} {gV : List V → List V → List V} {kws : List Keyword} {tk : TA} (T : OexC X.K C) (iC : PySem.W.findIn X.K (.ref C) "__init__" = some (some (.ref fI))) (tI : PySem.W.typeIn X.K (.ref fI) = some (.type "function"))
    (F1 : FnOk X.prog X.w X.K X.mg X.base CX k fI fd ps sp) (hr : Room (k + 1) X.A) (kb : KBn X.K fd ps 1 ks g gV) (hx : Passes CX X (fun _ _ _ => False)) (hg : Gl X x) (hm : X.mg x = some (.ref C)) (hw : PK X kws tk)
    (named : (backToKw pos (keywordEach kws X.env)).all (·.1.isSome) = true := by rfl) (names : (backToKw pos (keywordEach kws X.env)).filterMap (·.1) = ks := by rfl) (nodb : (x == ("__debug__" : Str)) = false := by decide)
    (plain : ((backTo pos (starEach [] X.env)).any (·.1) || (backToKw pos (keywordEach kws X.env)).any (·.1.isNone)) = false := by rfl) : PE X (.Call (.Name x p) [] kws pos) (tMkVK C ks.length sp gV tk) := by
  refine ⟨fun pins s σ H Q I h => wpAny_Call_Name_kw (ld_glob I hg hm ?_ nodb)⟩
  obtain ⟨nm, q, N, bs, bm, sn, sub, ab, col, dd, k0, k1, k2, k3, k5, hC, hbm⟩ := T.cls
  refine PySem.W.callWith_KW0 (h₀ := X.base) I.ok.mod.kin T.kC named (thn (hw.run pos pins s σ H _ I h) fun ws s1 ⟨zs, H1, I1, rz, m2, m3, q1⟩ => ⟨I1.kIn, ?_⟩) plain
  rw [names]
  obtain ⟨hp, gg, dr, tk, os⟩ := s1
  have hsz : hp.objs.size ≤ hp.objs.size + 1 := Nat.le_succ _
  have hn : H1 (hp.objs.size + 1) = none := I1.hok.fresh hsz
  have hq := q1 (hp.objs.size + 1) hn
  have kk : ∀ b o, hp.get? b = some o → ((hp.push (PySem.W.kdv_tup [])).push (PySem.HandSPX.excO C hp.objs.size)).get? b = some o := fun b o e => Heap.get?_push_of_some _ (Heap.get?_push_of_some _ e)
  have hget : ((hp.push (PySem.W.kdv_tup [])).push (PySem.HandSPX.excO C hp.objs.size)).get? (hp.objs.size + 1) = some (PySem.HandSPX.excO C hp.objs.size) := by heap_get
  have I2 : Inv X pins σ (upd H1 (hp.objs.size + 1) (exo (hp.objs.size + 1) C none)) ⟨(hp.push (PySem.W.kdv_tup [])).push (PySem.HandSPX.excO C hp.objs.size), gg, dr, tk, os⟩ :=
    I1.laid (t' := tk) (a := hp.objs.size + 1) (o := exo (hp.objs.size + 1) C none) (h' := (hp.push (PySem.W.kdv_tup [])).push (PySem.HandSPX.excO C hp.objs.size)) kk hsz (exo_ok hget)
  have l1 : ws.length = ks.length := by rw [← m2]; exact (Paired.length rz).symm
  have r2 : Vals (gV [.ref (hp.objs.size + 1)] zs) (g [Value.ref (hp.objs.size + 1)] ws) := kb.2 (.cons rfl .nil) rz
  refine wpAny_call (PySem.HandSPX.call_ownK F.excBase_ValueError (fun Y => PySem.HandSPX.refsVE_contains Y bm hbm) (I1.kIn _ _ hC) (PySem.W.looks_findIn I1.kIn iC) (fun self => PySem.W.bind_fn I1.kIn self tI) (Nat.zero_le _)
    (codeAny_mono (F1.run _ X.stack _ _ ⟨[Value.ref (hp.objs.size + 1)], ks.zip ws⟩ (g [Value.ref (hp.objs.size + 1)] ws) _ _ (fun _ _ _ => False) (hr.make C [] (ks.zip ws)) (I2.env0.make C [] (ks.zip ws)) (kb.1 _ [Value.ref (hp.objs.size + 1)] ws I2.kIn rfl l1) r2 hq) fun r s' hq' => ?_))
  cases r with
  | error er => exact hx pins σ _ _ er s' I2 hq'
  | ok fl =>
    cases fl with
    | ret u =>
      obtain ⟨v', H2, I3, rv, ev, q2⟩ := I2.after hq'
      subst ev
      exact ⟨rv, .ref _, H2, I3, rfl, q2⟩
    | next => exact False.elim hq'
    | brk => exact False.elim hq'
    | cont => exact False.elim hq'
end
end GS
/-! isinstance and fields of errors that are values. -/
namespace GS
open PySem PySem.Spec PySem.Calls PyProof.Rows L2
section
variable {X : Cx} {pins : List (Addr × Obj)} {σ : L2.St} {H : Hp} {s : Shared} {a : Addr}
theorem inst_val {C dd : Addr} {fs : List (Str × V)} (I : Inv X pins σ H s) (he : H a = some (exo a C (some dd))) (there : H dd = some (exd dd fs)) :
    ∃ oe od, PySem.W.InstAt s.heap a oe C (some od) ∧ ∀ n v, fs.lookup n = some v → ∃ u, RelV v u ∧ PySem.W.lookIn n od = some (some u) := by
  obtain ⟨mA, hns, hr⟩ := exd_at I.hok there
  obtain ⟨od, ho, hl⟩ := lookIn_ns hns
  obtain ⟨t1, ha⟩ := exo_at I.hok he
  refine ⟨_, od, ⟨ha, rfl, rfl, ho⟩, fun n v hv => ?_⟩
  obtain ⟨u, hu, ru⟩ := RelO.some_of (v := v) (o := mA n) (by rw [← hv]; exact hr n)
  exact ⟨u, ru, by rw [hl, hu]⟩
theorem inst_any {C : Addr} {d : Option Addr} (I : Inv X pins σ H s) (he : H a = some (exo a C d)) (hd : ∀ dx, d = some dx → ∃ fs, H dx = some (exd dx fs)) : ∃ oe od, PySem.W.InstAt s.heap a oe C od := by
  cases d with
  | none =>
    obtain ⟨t1, ha⟩ := exo_at I.hok he
    exact ⟨_, none, ha, rfl, rfl, trivial⟩
  | some dx =>
    obtain ⟨fs, hf⟩ := hd dx rfl
    obtain ⟨oe, od, i, _⟩ := inst_val I he hf
    exact ⟨oe, some od, i⟩
/-- an error that is a value: of class C, its fields -/
def ErV (H : Hp) (a C : Addr) (fs : List (Str × V)) : Prop := (∃ dx, H a = some (exo a C (some dx)) ∧ H dx = some (exd dx fs)) ∨ (H a = some (exo a C none) ∧ fs = [])
theorem ErV.inst {C : Addr} {fs : List (Str × V)} (I : Inv X pins σ H s) (h : ErV H a C fs) : ∃ oe od, PySem.W.InstAt s.heap a oe C od := by
  rcases h with ⟨dx, h1, h2⟩ | ⟨h, _⟩
  · exact inst_any I h1 fun dx' e => by cases e; exact ⟨fs, h2⟩
  · exact inst_any I h fun dx' e => by cases e
def rIsV (K : PySem.W.Frag) : List V → Hp → VK → Prop := fun xs H Q => ∃ (a : Addr) (c : V) (cv : Value) (b : Bool) (C : Addr) (fs : List (Str × V)), xs = [.ref a, c] ∧ (∀ u, RelV c u → u = cv) ∧ ErV H a C fs ∧ ExcC K C ∧ PySem.W.kitOne K (.ref C) cv = some b ∧ Q (.bl b) H
theorem cr_isV {K : PySem.W.Frag} (hk : X.K = K) : CallR X (.builtin "isinstance") (rIsV K) := by
  subst hk
  intro pins s σ H xs us Q I r got
  obtain ⟨a, c, cv, b, C, fs, rfl, only, he, ec, e, q⟩ := got
  obtain ⟨u1, u2, rfl, r1, r2⟩ := vals2 r
  cases r1
  rw [only _ r2]
  obtain ⟨oe, od, i⟩ := he.inst I
  exact PySem.W.kia_one (kit_err ec) I.kIn i e (fun z => nomatch z) fun tk => ⟨.bl b, H, I.kept (t' := tk) fun _ _ z => z, rfl, q⟩
def rIsVT (K : PySem.W.Frag) : List V → Hp → VK → Prop := fun xs H Q => ∃ (a tp : Addr) (cs : List V) (us : List Value) (b : Bool) (C : Addr) (fs : List (Str × V)), xs = [.ref a, .ref tp] ∧ H tp = some (.tup cs) ∧ Paired ClsV cs us ∧ ErV H a C fs ∧ ExcC K C ∧ PySem.W.kitAny K (.ref C) us = some b ∧ Q (.bl b) H
theorem cr_isVT {K : PySem.W.Frag} (hk : X.K = K) : CallR X (.builtin "isinstance") (rIsVT K) := by
  subst hk
  intro pins s σ H xs us Q I r got
  obtain ⟨a, tp, cs, ws, b, C, fs, rfl, hT, k, he, ec, e, q⟩ := got
  obtain ⟨u1, u2, rfl, r1, r2⟩ := vals2 r
  cases r1
  cases (show u2 = Value.ref tp from r2)
  obtain ⟨oe, od, i⟩ := he.inst I
  obtain ⟨_, its, rv, o, h1, h2, n, h3⟩ := (show ObjOk X.prog X.w H s.heap tp (.tup cs) from I.hok tp _ hT)
  have e3 := ClsV.all k rv
  subst e3
  obtain ⟨oc, od', dt, sl⟩ := o
  simp only at h2 h3
  subst h2 h3
  exact PySem.W.kia_tup (kit_err ec) I.kIn i h1 e (fun z => nomatch z) fun tk => ⟨.bl b, H, I.tok tk, rfl, q⟩
def tXV (K : PySem.W.Frag) (n : Str) (te : TE) : TE := fun σ H Q => te σ H fun x H1 => ∃ (a C dx : Addr) (fs : List (Str × V)) (v : V), x = .ref a ∧ H1 a = some (exo a C (some dx)) ∧ H1 dx = some (exd dx fs) ∧ XfC K C ∧ PySem.W.findIn K (.ref C) n = some none ∧ fs.lookup n = some v ∧ Q v H1
theorem pe_xV {K : PySem.W.Frag} {e : Expr} {te : TE} {pos : Pos} {n : Str} (hk : X.K = K) (he : PE X e te) (plain : attributeBase e n X.env (eval e X.env) = eval e X.env := by rfl) : PE X (.Attribute e n pos) (tXV K n te) := by
  subst hk
  refine ⟨fun pins s σ H Q I h => attr_of plain (thn (he.run pins s σ H _ I h) fun u s1 got => ?_)⟩
  obtain ⟨x, H1, I1, rx, a, C, dd, fs, v, rfl, hea, there, T, no_, l, q⟩ := got
  obtain rfl : u = Value.ref a := rx
  obtain ⟨oe, od, i, fields⟩ := inst_val I1 hea there
  obtain ⟨u, ru, hu⟩ := fields n v l
  exact PySem.HandSPX.exc_get I1.kIn i T.ga T.gg T.exC (PySem.W.findObj_own T.hdC no_ rfl hu) (handed_of ru) ⟨v, H1, I1.tok _, ru, q⟩
/-- C(), an own exception class without own __init__ -/
theorem pe_exc0 {C : Addr} {bmB : List Value} {B newId initId : String} {x : Str} {p pos : Pos} (F : ExcBaseFacts B newId initId bmB) (q : PySem.W.excIn X.K C bmB newId = true) (gC : X.mg x = some (.ref C)) (kC : PySem.W.keepIn X.K (.ref C) = true) (hg : Gl X x)
    (hdb : (x == ("__debug__" : Str)) = false := by decide) :
    PE X (.Call (.Name x p) [] [] pos) (fun σ H Q => ∀ a, H a = none → Q (.ref a) (upd H a (exo a C none))) := by
  refine ⟨fun pins s σ H Q I h => ?_⟩
  refine wpAny_Call_Name_kw (ld_glob I hg gC (PySem.W.callWith_K0 I.kIn kC ?_) hdb)
  obtain ⟨bm, N, nm, qn, bs, hdct, sn, sub, ab, col, dd, k0, k1, k2, k3, k5, mN, hC, hN, hni, T⟩ := exc_obj I.kIn q
  refine wpAny_call_exc_subT F T hC hN hni (fun h' a hm => ?_) (Nat.zero_le _)
  have hn : H a = none := I.hok.gone hm.new
  obtain ⟨t, ht, _, _⟩ := hm.there
  exact ⟨.ref a, upd H a (exo a C none), I.laidN hm.keeps hm.new hn (exo_ok ht), rfl, h a hn⟩
end
end GS
/-! != of what is the same object, or of lists of the same objects; `is` of bools. -/
namespace GS
open PySem PySem.Spec PySem.Calls PyProof.Rows L2
def Same1 (x : V) : Prop := flatB x = true ∨ ∃ a, x = .ref a
section
variable {X : Cx} {pins : List (Addr × Obj)} {σ : L2.St} {H : Hp} {s : Shared}
theorem same_at {A : Around} {x : V} {v u : Value} (h : Same1 x) (rx : RelV x v) (ry : RelV x u) : SeqAt.EqAt A s v u true := by
  rcases h with f | ⟨a, rfl⟩
  · exact eqAt_same rx ry f
  · cases (show v = Value.ref a from rx)
    cases (show u = Value.ref a from ry)
    exact SeqAt.EqAt.same _
theorem same_run {A : Around} {xs : List V} (h : ∀ x ∈ xs, Same1 x) : ∀ {us ws : List Value}, Vals xs us → Vals xs ws → ∀ j (h1 : j < us.length) (h2 : j < ws.length), SeqAt.EqAt A s us[j] ws[j] true := by
  induction xs with
  | nil =>
    intro us ws r1 r2 j h1 h2
    cases r1
    exact absurd h1 (Nat.not_lt_zero j)
  | cons x xs ih =>
    intro us ws r1 r2 j h1 h2
    cases r1 with
    | cons a1 b1 =>
      cases r2 with
      | cons a2 b2 =>
        cases j with
        | zero => exact same_at (h x List.mem_cons_self) a1 a2
        | succ j => exact ih (fun y hy => h y (List.mem_cons_of_mem _ hy)) b1 b2 j (Nat.lt_of_succ_lt_succ h1) (Nat.lt_of_succ_lt_succ h2)
theorem same_arr {A : Around} {xs : List V} {us ws : List Value} (h : ∀ x ∈ xs, Same1 x) (r1 : Vals xs us) (r2 : Vals xs ws) : ∀ j (h1 : j < us.toArray.size) (h2 : j < ws.toArray.size), SeqAt.EqAt A s us.toArray[j] ws.toArray[j] true := by
  intro j h1 h2
  have := same_run (A := A) (s := s) h r1 r2 j (by simpa using h1) (by simpa using h2)
  simpa using this
def rNeS (K : PySem.W.Frag) : R2 := fun x y H Q => rNe x y H Q ∨ (∃ a b xs, x = .ref a ∧ y = .ref b ∧ SqL K H a xs ∧ SqL K H b xs ∧ (∀ z ∈ xs, Same1 z) ∧ Q (.bl false) H) ∨ (∃ a b xs, x = .ref a ∧ y = .ref b ∧ SqT K H a xs ∧ SqT K H b xs ∧ (∀ z ∈ xs, Same1 z) ∧ Q (.bl false) H) ∨ rNeDA x y H Q
theorem op_neS (hu : X.A.units < cLine) : OpR X (compareOp .NotEq) (rNeS X.K) := by
  intro pins s σ H x y v u Q I rx ry h
  rcases h with h | ⟨a, b, xs, rfl, rfl, h1, h2, hs, q⟩ | ⟨a, b, xs, rfl, rfl, h1, h2, hs, q⟩ | h
  · exact op_ne pins s σ H x y v u Q I rx ry h
  · obtain rfl : v = Value.ref a := rx
    obtain rfl : u = Value.ref b := ry
    obtain ⟨us, r1, p1, _⟩ := I.list h1
    obtain ⟨ws, r2, p2, _⟩ := I.list h2
    have hz : us.toArray.size = ws.toArray.size := by simp [← Paired.length r1, ← Paired.length r2]
    exact PySem.EqBoolInt.of_rcne (SeqAt.RcNeAt.lists (e := fun _ => true) p1.isList p2.isList hz hu (same_arr hs r1 r2)) (fin_bl I q (by simp))
  · obtain rfl : v = Value.ref a := rx
    obtain rfl : u = Value.ref b := ry
    obtain ⟨us, r1, p1, _⟩ := I.tuple h1
    obtain ⟨ws, r2, p2, _⟩ := I.tuple h2
    have hz : us.length = ws.length := by simp [← Paired.length r1, ← Paired.length r2]
    exact PySem.EqBoolInt.of_rcne (SeqAt.RcNeAt.tuples (e := fun _ => true) p1 p2 hu (same_arr hs r1 r2)) (fin_bl I q (by simp [hz]))
  · exact op_ne_dictA hu pins s σ H x y v u Q I rx ry h
/-- a is b, both bools -/
theorem op_isB : OpR X (compareOp .Is) (fun x y H Q => ∃ a b, x = .bl a ∧ y = .bl b ∧ Q (.bl (a == b)) H) := by
  intro pins s σ H x y v u Q I rx ry h
  obtain ⟨a, b, rfl, rfl, q⟩ := h
  cases rx
  cases ry
  show wpAny _ _ ((isSame (Value.bool a) (Value.bool b)) >>= fun z => pure (Value.bool z)) _ _ s
  refine wpAny_bind (wpAny_isSame_plain (by rfl) (wpAny_pure (fin_bl I q ?_)))
  cases a <;> cases b <;> rfl
theorem op_isntB : OpR X (compareOp .IsNot) (fun x y H Q => ∃ a b, x = .bl a ∧ y = .bl b ∧ Q (.bl (!(a == b))) H) := by
  intro pins s σ H x y v u Q I rx ry h
  obtain ⟨a, b, rfl, rfl, q⟩ := h
  cases rx
  cases ry
  show wpAny _ _ ((isSame (Value.bool a) (Value.bool b)) >>= fun z => pure (Value.bool (!z))) _ _ s
  refine wpAny_bind (wpAny_isSame_plain (by rfl) (wpAny_pure (fin_bl I q ?_)))
  cases a <;> cases b <;> rfl
end
/-! facts of the head: error classes that are made and asked -/
section
open PySem.W He
variable {K : PySem.W.Frag}
/-- an error class x, made by the __init__ that the class d tells -/
def evB (x d : PySem.Str) (fs : List PySem.Str) : Chk := fun K => oexB K (ga K x) && (L2.xfB K (ga K x) && ((fs.all fun f => eqO (findIn K (.ref (ga K x)) f) (some none)) &&
  (eqO (findIn K (.ref (ga K x)) "__init__") (some (some (.ref (ma K (ga K d) "__init__")))) && (decide (typeIn K (.ref (ma K (ga K d) "__init__")) = some (.type "function")) && excB x K))))
structure EvC (K : PySem.W.Frag) (x d : PySem.Str) (fs : List PySem.Str) : Prop where
  o : L2.OexC K (ga K x)
  xf : L2.XfC K (ga K x)
  no_ : ∀ f ∈ fs, findIn K (.ref (ga K x)) f = some none
  i : findIn K (.ref (ga K x)) "__init__" = some (some (.ref (ma K (ga K d) "__init__")))
  t : typeIn K (.ref (ma K (ga K d) "__init__")) = some (.type "function")
  ex : ExcC K (ga K x)
theorem evB_ok {x d : PySem.Str} {fs : List PySem.Str} (top : topB K = true) (h : evB x d fs K = true) : EvC K x d fs := by
  obtain ⟨h1, h⟩ := Bool.and_eq_true_iff.mp h
  obtain ⟨h2, h⟩ := Bool.and_eq_true_iff.mp h
  obtain ⟨h3, h⟩ := Bool.and_eq_true_iff.mp h
  obtain ⟨h4, h⟩ := Bool.and_eq_true_iff.mp h
  obtain ⟨h5, h6⟩ := Bool.and_eq_true_iff.mp h
  exact ⟨oexB_ok h1, L2.xfB_ok h2, fun f hf => eqO_ok (List.all_eq_true.mp h3 f hf), eqO_ok h4, of_decide_eq_true h5, excB_ok top (L2.xfB_ok h2) h6⟩
/-- an error class with no __init__ of its own -/
def ezB (x : PySem.Str) : Chk := fun K => L2.xfB K (ga K x) && (excB x K && (excIn K (ga K x) [.type "ValueError", .type "Exception", .type "BaseException", .type "object"] "ValueError.__new__" && keepIn K (.ref (ga K x))))
structure EzC (K : PySem.W.Frag) (x : PySem.Str) : Prop where
  ex : ExcC K (ga K x)
  q : excIn K (ga K x) [.type "ValueError", .type "Exception", .type "BaseException", .type "object"] "ValueError.__new__" = true
  k : keepIn K (.ref (ga K x)) = true
theorem ezB_ok {x : PySem.Str} (top : topB K = true) (h : ezB x K = true) : EzC K x := by
  obtain ⟨h1, h⟩ := Bool.and_eq_true_iff.mp h
  obtain ⟨h2, h⟩ := Bool.and_eq_true_iff.mp h
  obtain ⟨h3, h4⟩ := Bool.and_eq_true_iff.mp h
  exact ⟨excB_ok top (L2.xfB_ok h1) h2, h3, h4⟩
/-- what an error of class x is an instance of: own classes, built-in ones, none of the tuple of built-in ones -/
def kinB (x : PySem.Str) (ys : List (PySem.Str × Bool)) (yes no : List String) : Chk := fun K => (ys.all fun p => decide (kitOne K (.ref (ga K x)) (.ref (ga K p.1)) = some p.2)) && ((yes.all fun t => decide (kitOne K (.ref (ga K x)) (.type t) = some true)) && decide (kitAny K (.ref (ga K x)) (no.map Value.type) = some false))
structure KinC (K : PySem.W.Frag) (x : PySem.Str) (ys : List (PySem.Str × Bool)) (yes no : List String) : Prop where
  own : ∀ p ∈ ys, kitOne K (.ref (ga K x)) (.ref (ga K p.1)) = some p.2
  yes : ∀ t ∈ yes, kitOne K (.ref (ga K x)) (.type t) = some true
  no : kitAny K (.ref (ga K x)) (no.map Value.type) = some false
theorem kinB_ok {x : PySem.Str} {ys : List (PySem.Str × Bool)} {yes no : List String} (h : kinB x ys yes no K = true) : KinC K x ys yes no := by
  obtain ⟨h1, h⟩ := Bool.and_eq_true_iff.mp h
  obtain ⟨h2, h3⟩ := Bool.and_eq_true_iff.mp h
  exact ⟨fun p hp => of_decide_eq_true (List.all_eq_true.mp h1 p hp), fun t ht => of_decide_eq_true (List.all_eq_true.mp h2 t ht), of_decide_eq_true h3⟩
end
end GS
/-! The nineteen error classes of a law, and what an error of each is. -/
namespace GS
open PySem PySem.Spec
def N19 : List PySem.Str := ["BadNumber", "BadBound", "BadPoly", "BadWeb", "BadSigns", "BadVectors", "BadLots", "BadRound", "BadDesk", "Misfit", "NoPlace", "NoTie", "NoName", "Twice", "TooMany", "Impossible", "Nothing", "BadText", "BadLine"]
def isMiss (x : PySem.Str) : Bool := (["NoPlace", "NoTie", "NoName", "Missing"] : List PySem.Str).elem x
def kinOf (x : PySem.Str) : List (PySem.Str × Bool) := N19.map (fun y => (y, y == x)) ++ ([("SignsError", true), ("Missing", isMiss x)] : List (PySem.Str × Bool))
end GS
/-! xs[::-1] within a comprehension. -/
namespace GS
open PySem PySem.Spec PyProof.Rows L2
theorem kx_revL {X : Cx} {K : PySem.W.Frag} (hK : X.K = K) {e : Expr} {te : TE} {k : Nat} {p1 p2 p3 pos : Pos} (he : PE X e te) : PE X (.Subscript e (.Slice none none (some (.UnaryOp .USub (.Constant (.int 1) k p1) p2)) p3) pos) (tRevL K te) := by
  subst hK
  exact pe_revL he
end GS
/-! a // b, b of any sign. -/
namespace GS
open PySem PySem.Spec PyProof.Rows L2
def CDivV (_ j : Int) : Prop := j ≠ 0 ∧ j.natAbs.log2 < 9000
theorem op_fdivV {X : Cx} : OpR X (binaryOp .FloorDiv) (rI CDivV fun i j => .int (i.fdiv j)) := opI fun _ _ _ _ _ _ _ hc q => floordiv_int hc.1 q (.inl (PyProof.noPylong_of_log2 hc.2))
end GS
namespace K10
open PySem PySem.Spec PyProof.Rows L2 GS LamX
def topS (i : Nat) : Stmt := PySem.Challenge.pw_goodsigns_k10_polys_of_tables.main.body.getD i (.Pass ⟨0, 0, 0, 0⟩)
abbrev s_BadNumber_init : Stmt := inClass (topS 2) 0
abbrev s_BadPoly_init : Stmt := inClass (topS 3) 0
abbrev s_BadText_init : Stmt := inClass (topS 4) 0
abbrev s_is_integer : Stmt := topS 7
abbrev s_is_within : Stmt := topS 8
abbrev s_is_row : Stmt := topS 9
abbrev s_are_integers : Stmt := topS 10
abbrev s_need_integer : Stmt := topS 11
abbrev s_items_of : Stmt := topS 14
abbrev s_is_integer_text : Stmt := topS 15
abbrev s_integer_at : Stmt := topS 16
abbrev s_need_end : Stmt := topS 17
abbrev s_integer_text : Stmt := topS 18
abbrev s_Poly_init : Stmt := inClass (topS 21) 0
abbrev s_Poly_eq : Stmt := inClass (topS 21) 1
abbrev s_Poly_str : Stmt := inClass (topS 21) 2
abbrev s_Poly_worth : Stmt := inClass (topS 21) 3
abbrev s_Poly_read : Stmt := inClass (topS 21) 4
abbrev s_product_sum : Stmt := topS 23
abbrev s_table_times : Stmt := topS 24
abbrev s_is_table : Stmt := topS 27
abbrev s_row_factors : Stmt := topS 28
abbrev s_table_numbers : Stmt := topS 29
abbrev s_table_poly : Stmt := topS 30
abbrev s__law_tub : Stmt := topS 32
abbrev s__law_scoop : Stmt := topS 33
abbrev s__law_pick : Stmt := topS 34
abbrev s__law_stirred : Stmt := topS 35
abbrev s__law_number : Stmt := topS 36
abbrev s__law_table : Stmt := topS 37
abbrev s__law_orders : Stmt := topS 38
abbrev s__law_multiplied : Stmt := topS 39
abbrev s__law_by_orders : Stmt := topS 40
abbrev s__law_determinant : Stmt := topS 41
abbrev s__law_less : Stmt := topS 42
abbrev s__law_worth : Stmt := topS 43
abbrev s__law_is_poly : Stmt := topS 44
abbrev s__law_small_right : Stmt := topS 45
abbrev s__law_great_right : Stmt := topS 46
abbrev s__law_beside_right : Stmt := topS 47
abbrev s__law_heard : Stmt := topS 48
abbrev s__law_refused_right : Stmt := topS 49
abbrev s_law : Stmt := topS 50
theorem sc_BadNumber_init : FnScope ["self", "part"] ["self", "part"] (defScope s_BadNumber_init) := ⟨rfl, rfl, rfl, by decide +kernel, rfl, by decide +kernel, by decide +kernel⟩
theorem sc_BadPoly_init : FnScope ["self", "part"] ["self", "part"] (defScope s_BadPoly_init) := ⟨rfl, rfl, rfl, by decide +kernel, rfl, by decide +kernel, by decide +kernel⟩
theorem sc_BadText_init : FnScope ["self", "line", "item"] ["self", "line", "item"] (defScope s_BadText_init) := ⟨rfl, rfl, rfl, by decide +kernel, rfl, by decide +kernel, by decide +kernel⟩
theorem sc_is_integer : FnScope ["value"] ["value"] (defScope s_is_integer) := ⟨rfl, rfl, rfl, by decide +kernel, rfl, by decide +kernel, by decide +kernel⟩
theorem sc_is_within : FnScope ["value", "least", "most"] ["value", "least", "most"] (defScope s_is_within) := ⟨rfl, rfl, rfl, by decide +kernel, rfl, by decide +kernel, by decide +kernel⟩
theorem sc_is_row : FnScope ["value"] ["value"] (defScope s_is_row) := ⟨rfl, rfl, rfl, by decide +kernel, rfl, by decide +kernel, by decide +kernel⟩
theorem sc_are_integers : FnScope ["value", "each"] ["value"] (defScope s_are_integers) := ⟨rfl, rfl, rfl, by decide +kernel, rfl, by decide +kernel, by decide +kernel⟩
theorem sc_need_integer : FnScope ["value", "part", "least", "most"] ["value", "part", "least", "most"] (defScope s_need_integer) := ⟨rfl, rfl, rfl, by decide +kernel, rfl, by decide +kernel, by decide +kernel⟩
theorem sc_items_of : FnScope ["text"] ["text"] (defScope s_items_of) := ⟨rfl, rfl, rfl, by decide +kernel, rfl, by decide +kernel, by decide +kernel⟩
theorem sc_is_integer_text : FnScope ["item", "digits", "each"] ["item"] (defScope s_is_integer_text) := ⟨rfl, rfl, rfl, by decide +kernel, rfl, by decide +kernel, by decide +kernel⟩
theorem sc_integer_at : FnScope ["items", "at", "least", "most", "number"] ["items", "at", "least", "most"] (defScope s_integer_at) := ⟨rfl, rfl, rfl, by decide +kernel, rfl, by decide +kernel, by decide +kernel⟩
theorem sc_need_end : FnScope ["items", "many"] ["items", "many"] (defScope s_need_end) := ⟨rfl, rfl, rfl, by decide +kernel, rfl, by decide +kernel, by decide +kernel⟩
theorem sc_integer_text : FnScope ["number", "chunk", "left", "parts", "sign"] ["number"] (defScope s_integer_text) := ⟨rfl, rfl, rfl, by decide +kernel, rfl, by decide +kernel, by decide +kernel⟩
theorem sc_Poly_init : FnScope ["self", "numbers"] ["self", "numbers"] (defScope s_Poly_init) := ⟨rfl, rfl, rfl, by decide +kernel, rfl, by decide +kernel, by decide +kernel⟩
theorem sc_Poly_eq : FnScope ["self", "other"] ["self", "other"] (defScope s_Poly_eq) := ⟨rfl, rfl, rfl, by decide +kernel, rfl, by decide +kernel, by decide +kernel⟩
theorem sc_Poly_str : FnScope ["self", "number"] ["self"] (defScope s_Poly_str) := ⟨rfl, rfl, rfl, by decide +kernel, rfl, by decide +kernel, by decide +kernel⟩
theorem sc_Poly_worth : FnScope ["self", "x", "total", "number"] ["self", "x"] (defScope s_Poly_worth) := ⟨rfl, rfl, rfl, by decide +kernel, rfl, by decide +kernel, by decide +kernel⟩
theorem sc_Poly_read : FnScope ["text", "items", "numbers", "at"] ["text"] (defScope s_Poly_read) := ⟨rfl, rfl, rfl, by decide +kernel, rfl, by decide +kernel, by decide +kernel⟩
theorem sc_product_sum : FnScope ["one", "other", "mine", "its"] ["one", "other"] (defScope s_product_sum) := ⟨rfl, rfl, rfl, by decide +kernel, rfl, by decide +kernel, by decide +kernel⟩
theorem sc_table_times : FnScope ["table", "row", "each"] ["table", "row"] (defScope s_table_times) := ⟨rfl, rfl, rfl, by decide +kernel, rfl, by decide +kernel, by decide +kernel⟩
theorem sc_is_table : FnScope ["value", "row", "i", "j"] ["value"] (defScope s_is_table) := ⟨rfl, rfl, rfl, by decide +kernel, rfl, by decide +kernel, by decide +kernel⟩
theorem sc_row_factors : FnScope ["table", "size", "ahead", "powers", "_", "products", "k", "number"] ["table", "size"] (defScope s_row_factors) := ⟨rfl, rfl, rfl, by decide +kernel, rfl, by decide +kernel, by decide +kernel⟩
theorem sc_table_numbers : FnScope ["table", "numbers", "size", "factors", "at"] ["table"] (defScope s_table_numbers) := ⟨rfl, rfl, rfl, by decide +kernel, rfl, by decide +kernel, by decide +kernel⟩
theorem sc_table_poly : FnScope ["table"] ["table"] (defScope s_table_poly) := ⟨rfl, rfl, rfl, by decide +kernel, rfl, by decide +kernel, by decide +kernel⟩
theorem sc__law_tub : FnScope ["script", "cell"] ["script"] (defScope s__law_tub) := ⟨rfl, rfl, rfl, by decide +kernel, rfl, by decide +kernel, by decide +kernel⟩
theorem sc__law_scoop : FnScope ["tub", "many", "rest", "turn", "cell", "mixed"] ["tub", "many"] (defScope s__law_scoop) := ⟨rfl, rfl, rfl, by decide +kernel, rfl, by decide +kernel, by decide +kernel⟩
theorem sc__law_pick : FnScope ["tub", "some"] ["tub", "some"] (defScope s__law_pick) := ⟨rfl, rfl, rfl, by decide +kernel, rfl, by decide +kernel, by decide +kernel⟩
theorem sc__law_stirred : FnScope ["tub", "some", "left", "found"] ["tub", "some"] (defScope s__law_stirred) := ⟨rfl, rfl, rfl, by decide +kernel, rfl, by decide +kernel, by decide +kernel⟩
theorem sc__law_number : FnScope ["tub", "most", "number"] ["tub"] (defScope s__law_number) := ⟨rfl, rfl, rfl, by decide +kernel, rfl, by decide +kernel, by decide +kernel⟩
theorem sc__law_table : FnScope ["tub", "size", "kind", "rows", "row", "one", "other", "number"] ["tub", "size", "kind"] (defScope s__law_table) := ⟨rfl, rfl, rfl, by decide +kernel, rfl, by decide +kernel, by decide +kernel⟩
theorem sc__law_orders : FnScope ["size", "found", "at", "later", "row", "turn", "cut"] ["size"] (defScope s__law_orders) := ⟨rfl, rfl, rfl, by decide +kernel, rfl, by decide +kernel, by decide +kernel⟩
theorem sc__law_multiplied : FnScope ["one", "other", "found", "at", "number", "by", "more"] ["one", "other"] (defScope s__law_multiplied) := ⟨rfl, rfl, rfl, by decide +kernel, rfl, by decide +kernel, by decide +kernel⟩
theorem sc__law_by_orders : FnScope ["table", "size", "found", "row", "turn", "poly", "at", "power", "number"] ["table"] (defScope s__law_by_orders) := ⟨rfl, rfl, rfl, by decide +kernel, rfl, by decide +kernel, by decide +kernel⟩
theorem sc__law_determinant : FnScope ["table", "rows", "last", "turn", "row", "at", "below", "lead", "head", "rest", "one", "two"] ["table"] (defScope s__law_determinant) := ⟨rfl, rfl, rfl, by decide +kernel, rfl, by decide +kernel, by decide +kernel⟩
theorem sc__law_less : FnScope ["table", "x", "size", "other", "one"] ["table", "x"] (defScope s__law_less) := ⟨rfl, rfl, rfl, by decide +kernel, rfl, by decide +kernel, by decide +kernel⟩
theorem sc__law_worth : FnScope ["numbers", "x", "found", "number"] ["numbers", "x"] (defScope s__law_worth) := ⟨rfl, rfl, rfl, by decide +kernel, rfl, by decide +kernel, by decide +kernel⟩
theorem sc__law_is_poly : FnScope ["poly", "due"] ["poly", "due"] (defScope s__law_is_poly) := ⟨rfl, rfl, rfl, by decide +kernel, rfl, by decide +kernel, by decide +kernel⟩
theorem sc__law_small_right : FnScope ["tub", "size", "table", "due", "handed", "row", "order", "turned", "other", "one"] ["tub", "size"] (defScope s__law_small_right) := ⟨rfl, rfl, rfl, by decide +kernel, rfl, by decide +kernel, by decide +kernel⟩
theorem sc__law_great_right : FnScope ["tub", "size", "kind", "table", "poly", "at", "x", "number"] ["tub", "size", "kind"] (defScope s__law_great_right) := ⟨rfl, rfl, rfl, by decide +kernel, rfl, by decide +kernel, by decide +kernel⟩
theorem sc__law_beside_right : FnScope ["tub", "one", "other", "first", "second", "both", "row", "due"] ["tub", "one", "other"] (defScope s__law_beside_right) := ⟨rfl, rfl, rfl, by decide +kernel, rfl, by decide +kernel, by decide +kernel⟩
theorem sc__law_heard : FnScope ["ask", "heard", "error"] ["ask"] (defScope s__law_heard) := ⟨rfl, rfl, rfl, by decide +kernel, rfl, by decide +kernel, by decide +kernel⟩
theorem sc__law_refused_right : FnScope ["tub", "size", "table", "at", "other", "spoil", "bad", "row", "odd"] ["tub", "size"] (defScope s__law_refused_right) := ⟨rfl, rfl, rfl, by decide +kernel, rfl, by decide +kernel, by decide +kernel⟩
theorem sc_law : FnScope ["script", "tub", "turn"] ["script"] (defScope s_law) := ⟨rfl, rfl, rfl, by decide +kernel, rfl, by decide +kernel, by decide +kernel⟩
abbrev tys : List String := ["int", "bool", "str", "NoneType", "list", "tuple", "dict"]
def fa_0 : List He.Fa := [.glo "is_integer",
  .glo "is_within",
  .glo "is_row",
  .glo "are_integers",
  .glo "need_integer",
  .glo "items_of",
  .glo "is_integer_text",
  .glo "integer_at",
  .glo "need_end",
  .glo "integer_text",
  .glo "product_sum",
  .glo "table_times",
  .glo "is_table",
  .glo "row_factors",
  .glo "table_numbers",
  .glo "table_poly",
  .glo "_law_tub",
  .glo "_law_scoop",
  .glo "_law_pick",
  .glo "_law_stirred",
  .glo "_law_number",
  .glo "_law_table",
  .glo "_law_orders",
  .glo "_law_multiplied",
  .glo "_law_by_orders",
  .glo "_law_determinant",
  .glo "_law_less",
  .glo "_law_worth",
  .glo "_law_is_poly",
  .glo "_law_small_right"]
def fa_1 : List He.Fa := [.glo "_law_great_right",
  .glo "_law_beside_right",
  .glo "_law_heard",
  .glo "_law_refused_right",
  .glo "law",
  .glo "SignsError",
  .glo "BadNumber",
  .glo "BadPoly",
  .glo "BadText",
  .glo "Poly",
  .keep "is_integer",
  .keep "is_within",
  .keep "is_row",
  .keep "are_integers",
  .keep "need_integer",
  .keep "items_of",
  .keep "is_integer_text",
  .keep "integer_at",
  .keep "need_end",
  .keep "integer_text",
  .keep "product_sum",
  .keep "table_times",
  .keep "is_table",
  .keep "row_factors",
  .keep "table_numbers",
  .keep "table_poly",
  .keep "_law_tub",
  .keep "_law_scoop",
  .keep "_law_pick",
  .keep "_law_stirred"]
def fa_2 : List He.Fa := [.keep "_law_number",
  .keep "_law_table",
  .keep "_law_orders",
  .keep "_law_multiplied",
  .keep "_law_by_orders",
  .keep "_law_determinant",
  .keep "_law_less",
  .keep "_law_worth",
  .keep "_law_is_poly",
  .keep "_law_small_right",
  .keep "_law_great_right",
  .keep "_law_beside_right",
  .keep "_law_heard",
  .keep "_law_refused_right",
  .keep "law",
  .free "isinstance",
  .free "int",
  .free "bool",
  .free "str",
  .free "list",
  .free "tuple",
  .free "len",
  .free "abs",
  .free "range",
  .free "all",
  .free "enumerate",
  .free "zip",
  .free "sum",
  .free "min",
  .free "repr"]
def fa_3 : List He.Fa := [.free "ValueError",
  .str "DIGITS" "0123456789",
  .int "MOST_DIGITS" 60,
  .int "MOST_NUMBERS" 64,
  .int "MOST_ROWS" 24,
  .cls "Poly",
  .noat "Poly" "numbers",
  .noat "Poly" "degree",
  .mkr "Poly",
  .meth "Poly" "__eq__"]
def fa_all : List He.Fa := fa_0 ++ fa_1 ++ fa_2 ++ fa_3
def ex_0 : List Chk := [clsB "Poly" tys,
  neB "Poly",
  topB,
  errB "BadNumber" ["part"] ["BadNumber", "SignsError"] ["BadPoly"],
  errB "BadPoly" ["part"] ["BadPoly", "SignsError"] ["BadNumber"],
  excB "BadNumber",
  excB "BadPoly",
  kiB "BadNumber" "BadNumber" true]
def ex_all : List Chk := ex_0
def fn_0 : List He5.DefA := [⟨fun K => He.ma K (He.ga K "BadNumber") "__init__", "__init__", "BadNumber.__init__", defArgs s_BadNumber_init, defBody s_BadNumber_init, defScope s_BadNumber_init, [], []⟩,
  ⟨fun K => He.ma K (He.ga K "BadPoly") "__init__", "__init__", "BadPoly.__init__", defArgs s_BadPoly_init, defBody s_BadPoly_init, defScope s_BadPoly_init, [], []⟩,
  ⟨fun K => He.ma K (He.ga K "BadText") "__init__", "__init__", "BadText.__init__", defArgs s_BadText_init, defBody s_BadText_init, defScope s_BadText_init, [], []⟩,
  ⟨fun K => He.ga K "is_integer", "is_integer", "is_integer", defArgs s_is_integer, defBody s_is_integer, defScope s_is_integer, [], []⟩,
  ⟨fun K => He.ga K "is_within", "is_within", "is_within", defArgs s_is_within, defBody s_is_within, defScope s_is_within, [], []⟩,
  ⟨fun K => He.ga K "is_row", "is_row", "is_row", defArgs s_is_row, defBody s_is_row, defScope s_is_row, [], []⟩,
  ⟨fun K => He.ga K "are_integers", "are_integers", "are_integers", defArgs s_are_integers, defBody s_are_integers, defScope s_are_integers, [], []⟩,
  ⟨fun K => He.ga K "need_integer", "need_integer", "need_integer", defArgs s_need_integer, defBody s_need_integer, defScope s_need_integer, [], []⟩,
  ⟨fun K => He.ga K "items_of", "items_of", "items_of", defArgs s_items_of, defBody s_items_of, defScope s_items_of, [], []⟩,
  ⟨fun K => He.ga K "is_integer_text", "is_integer_text", "is_integer_text", defArgs s_is_integer_text, defBody s_is_integer_text, defScope s_is_integer_text, [], []⟩,
  ⟨fun K => He.ga K "integer_at", "integer_at", "integer_at", defArgs s_integer_at, defBody s_integer_at, defScope s_integer_at, [], []⟩,
  ⟨fun K => He.ga K "need_end", "need_end", "need_end", defArgs s_need_end, defBody s_need_end, defScope s_need_end, [], []⟩,
  ⟨fun K => He.ga K "integer_text", "integer_text", "integer_text", defArgs s_integer_text, defBody s_integer_text, defScope s_integer_text, [], []⟩,
  ⟨fun K => He.ma K (He.ga K "Poly") "__init__", "__init__", "Poly.__init__", defArgs s_Poly_init, defBody s_Poly_init, defScope s_Poly_init, [], []⟩,
  ⟨fun K => He.ma K (He.ga K "Poly") "__eq__", "__eq__", "Poly.__eq__", defArgs s_Poly_eq, defBody s_Poly_eq, defScope s_Poly_eq, [], []⟩,
  ⟨fun K => He.ma K (He.ga K "Poly") "__str__", "__str__", "Poly.__str__", defArgs s_Poly_str, defBody s_Poly_str, defScope s_Poly_str, [], []⟩,
  ⟨fun K => He.ma K (He.ga K "Poly") "worth", "worth", "Poly.worth", defArgs s_Poly_worth, defBody s_Poly_worth, defScope s_Poly_worth, [], []⟩,
  ⟨fun K => He5.wf K (He.ga K "Poly") "staticmethod" "read", "read", "Poly.read", defArgs s_Poly_read, defBody s_Poly_read, defScope s_Poly_read, [], []⟩,
  ⟨fun K => He.ga K "product_sum", "product_sum", "product_sum", defArgs s_product_sum, defBody s_product_sum, defScope s_product_sum, [], []⟩,
  ⟨fun K => He.ga K "table_times", "table_times", "table_times", defArgs s_table_times, defBody s_table_times, defScope s_table_times, [], []⟩,
  ⟨fun K => He.ga K "is_table", "is_table", "is_table", defArgs s_is_table, defBody s_is_table, defScope s_is_table, [], []⟩,
  ⟨fun K => He.ga K "row_factors", "row_factors", "row_factors", defArgs s_row_factors, defBody s_row_factors, defScope s_row_factors, [], []⟩,
  ⟨fun K => He.ga K "table_numbers", "table_numbers", "table_numbers", defArgs s_table_numbers, defBody s_table_numbers, defScope s_table_numbers, [], []⟩,
  ⟨fun K => He.ga K "table_poly", "table_poly", "table_poly", defArgs s_table_poly, defBody s_table_poly, defScope s_table_poly, [], []⟩,
  ⟨fun K => He.ga K "_law_tub", "_law_tub", "_law_tub", defArgs s__law_tub, defBody s__law_tub, defScope s__law_tub, [], []⟩,
  ⟨fun K => He.ga K "_law_scoop", "_law_scoop", "_law_scoop", defArgs s__law_scoop, defBody s__law_scoop, defScope s__law_scoop, [], []⟩,
  ⟨fun K => He.ga K "_law_pick", "_law_pick", "_law_pick", defArgs s__law_pick, defBody s__law_pick, defScope s__law_pick, [], []⟩,
  ⟨fun K => He.ga K "_law_stirred", "_law_stirred", "_law_stirred", defArgs s__law_stirred, defBody s__law_stirred, defScope s__law_stirred, [], []⟩,
  ⟨fun K => He.ga K "_law_number", "_law_number", "_law_number", defArgs s__law_number, defBody s__law_number, defScope s__law_number, [], []⟩,
  ⟨fun K => He.ga K "_law_table", "_law_table", "_law_table", defArgs s__law_table, defBody s__law_table, defScope s__law_table, [], []⟩]
def fn_1 : List He5.DefA := [⟨fun K => He.ga K "_law_orders", "_law_orders", "_law_orders", defArgs s__law_orders, defBody s__law_orders, defScope s__law_orders, [], []⟩,
  ⟨fun K => He.ga K "_law_multiplied", "_law_multiplied", "_law_multiplied", defArgs s__law_multiplied, defBody s__law_multiplied, defScope s__law_multiplied, [], []⟩,
  ⟨fun K => He.ga K "_law_by_orders", "_law_by_orders", "_law_by_orders", defArgs s__law_by_orders, defBody s__law_by_orders, defScope s__law_by_orders, [], []⟩,
  ⟨fun K => He.ga K "_law_determinant", "_law_determinant", "_law_determinant", defArgs s__law_determinant, defBody s__law_determinant, defScope s__law_determinant, [], []⟩,
  ⟨fun K => He.ga K "_law_less", "_law_less", "_law_less", defArgs s__law_less, defBody s__law_less, defScope s__law_less, [], []⟩,
  ⟨fun K => He.ga K "_law_worth", "_law_worth", "_law_worth", defArgs s__law_worth, defBody s__law_worth, defScope s__law_worth, [], []⟩,
  ⟨fun K => He.ga K "_law_is_poly", "_law_is_poly", "_law_is_poly", defArgs s__law_is_poly, defBody s__law_is_poly, defScope s__law_is_poly, [], []⟩,
  ⟨fun K => He.ga K "_law_small_right", "_law_small_right", "_law_small_right", defArgs s__law_small_right, defBody s__law_small_right, defScope s__law_small_right, [], []⟩,
  ⟨fun K => He.ga K "_law_great_right", "_law_great_right", "_law_great_right", defArgs s__law_great_right, defBody s__law_great_right, defScope s__law_great_right, [], []⟩,
  ⟨fun K => He.ga K "_law_beside_right", "_law_beside_right", "_law_beside_right", defArgs s__law_beside_right, defBody s__law_beside_right, defScope s__law_beside_right, [], []⟩,
  ⟨fun K => He.ga K "_law_heard", "_law_heard", "_law_heard", defArgs s__law_heard, defBody s__law_heard, defScope s__law_heard, [], []⟩,
  ⟨fun K => He.ga K "_law_refused_right", "_law_refused_right", "_law_refused_right", defArgs s__law_refused_right, defBody s__law_refused_right, defScope s__law_refused_right, [], []⟩,
  ⟨fun K => He.ga K "law", "law", "law", defArgs s_law, defBody s_law, defScope s_law, [], []⟩]
def fn_all : List He5.DefA := fn_0 ++ fn_1
structure Txt (K : PySem.W.Frag) (mg : Str → Option Value) : Prop where
  g_is_integer : mg "is_integer" = some (.ref (He.ga K "is_integer"))
  g_is_within : mg "is_within" = some (.ref (He.ga K "is_within"))
  g_is_row : mg "is_row" = some (.ref (He.ga K "is_row"))
  g_are_integers : mg "are_integers" = some (.ref (He.ga K "are_integers"))
  g_need_integer : mg "need_integer" = some (.ref (He.ga K "need_integer"))
  g_items_of : mg "items_of" = some (.ref (He.ga K "items_of"))
  g_is_integer_text : mg "is_integer_text" = some (.ref (He.ga K "is_integer_text"))
  g_integer_at : mg "integer_at" = some (.ref (He.ga K "integer_at"))
  g_need_end : mg "need_end" = some (.ref (He.ga K "need_end"))
  g_integer_text : mg "integer_text" = some (.ref (He.ga K "integer_text"))
  g_product_sum : mg "product_sum" = some (.ref (He.ga K "product_sum"))
  g_table_times : mg "table_times" = some (.ref (He.ga K "table_times"))
  g_is_table : mg "is_table" = some (.ref (He.ga K "is_table"))
  g_row_factors : mg "row_factors" = some (.ref (He.ga K "row_factors"))
  g_table_numbers : mg "table_numbers" = some (.ref (He.ga K "table_numbers"))
  g_table_poly : mg "table_poly" = some (.ref (He.ga K "table_poly"))
  g__law_tub : mg "_law_tub" = some (.ref (He.ga K "_law_tub"))
  g__law_scoop : mg "_law_scoop" = some (.ref (He.ga K "_law_scoop"))
  g__law_pick : mg "_law_pick" = some (.ref (He.ga K "_law_pick"))
  g__law_stirred : mg "_law_stirred" = some (.ref (He.ga K "_law_stirred"))
  g__law_number : mg "_law_number" = some (.ref (He.ga K "_law_number"))
  g__law_table : mg "_law_table" = some (.ref (He.ga K "_law_table"))
  g__law_orders : mg "_law_orders" = some (.ref (He.ga K "_law_orders"))
  g__law_multiplied : mg "_law_multiplied" = some (.ref (He.ga K "_law_multiplied"))
  g__law_by_orders : mg "_law_by_orders" = some (.ref (He.ga K "_law_by_orders"))
  g__law_determinant : mg "_law_determinant" = some (.ref (He.ga K "_law_determinant"))
  g__law_less : mg "_law_less" = some (.ref (He.ga K "_law_less"))
  g__law_worth : mg "_law_worth" = some (.ref (He.ga K "_law_worth"))
  g__law_is_poly : mg "_law_is_poly" = some (.ref (He.ga K "_law_is_poly"))
  g__law_small_right : mg "_law_small_right" = some (.ref (He.ga K "_law_small_right"))
  g__law_great_right : mg "_law_great_right" = some (.ref (He.ga K "_law_great_right"))
  g__law_beside_right : mg "_law_beside_right" = some (.ref (He.ga K "_law_beside_right"))
  g__law_heard : mg "_law_heard" = some (.ref (He.ga K "_law_heard"))
  g__law_refused_right : mg "_law_refused_right" = some (.ref (He.ga K "_law_refused_right"))
  g_law : mg "law" = some (.ref (He.ga K "law"))
  g_SignsError : mg "SignsError" = some (.ref (He.ga K "SignsError"))
  g_BadNumber : mg "BadNumber" = some (.ref (He.ga K "BadNumber"))
  g_BadPoly : mg "BadPoly" = some (.ref (He.ga K "BadPoly"))
  g_BadText : mg "BadText" = some (.ref (He.ga K "BadText"))
  g_Poly : mg "Poly" = some (.ref (He.ga K "Poly"))
  k_is_integer : PySem.W.keepIn K (.ref (He.ga K "is_integer")) = true
  k_is_within : PySem.W.keepIn K (.ref (He.ga K "is_within")) = true
  k_is_row : PySem.W.keepIn K (.ref (He.ga K "is_row")) = true
  k_are_integers : PySem.W.keepIn K (.ref (He.ga K "are_integers")) = true
  k_need_integer : PySem.W.keepIn K (.ref (He.ga K "need_integer")) = true
  k_items_of : PySem.W.keepIn K (.ref (He.ga K "items_of")) = true
  k_is_integer_text : PySem.W.keepIn K (.ref (He.ga K "is_integer_text")) = true
  k_integer_at : PySem.W.keepIn K (.ref (He.ga K "integer_at")) = true
  k_need_end : PySem.W.keepIn K (.ref (He.ga K "need_end")) = true
  k_integer_text : PySem.W.keepIn K (.ref (He.ga K "integer_text")) = true
  k_product_sum : PySem.W.keepIn K (.ref (He.ga K "product_sum")) = true
  k_table_times : PySem.W.keepIn K (.ref (He.ga K "table_times")) = true
  k_is_table : PySem.W.keepIn K (.ref (He.ga K "is_table")) = true
  k_row_factors : PySem.W.keepIn K (.ref (He.ga K "row_factors")) = true
  k_table_numbers : PySem.W.keepIn K (.ref (He.ga K "table_numbers")) = true
  k_table_poly : PySem.W.keepIn K (.ref (He.ga K "table_poly")) = true
  k__law_tub : PySem.W.keepIn K (.ref (He.ga K "_law_tub")) = true
  k__law_scoop : PySem.W.keepIn K (.ref (He.ga K "_law_scoop")) = true
  k__law_pick : PySem.W.keepIn K (.ref (He.ga K "_law_pick")) = true
  k__law_stirred : PySem.W.keepIn K (.ref (He.ga K "_law_stirred")) = true
  k__law_number : PySem.W.keepIn K (.ref (He.ga K "_law_number")) = true
  k__law_table : PySem.W.keepIn K (.ref (He.ga K "_law_table")) = true
  k__law_orders : PySem.W.keepIn K (.ref (He.ga K "_law_orders")) = true
  k__law_multiplied : PySem.W.keepIn K (.ref (He.ga K "_law_multiplied")) = true
  k__law_by_orders : PySem.W.keepIn K (.ref (He.ga K "_law_by_orders")) = true
  k__law_determinant : PySem.W.keepIn K (.ref (He.ga K "_law_determinant")) = true
  k__law_less : PySem.W.keepIn K (.ref (He.ga K "_law_less")) = true
  k__law_worth : PySem.W.keepIn K (.ref (He.ga K "_law_worth")) = true
  k__law_is_poly : PySem.W.keepIn K (.ref (He.ga K "_law_is_poly")) = true
  k__law_small_right : PySem.W.keepIn K (.ref (He.ga K "_law_small_right")) = true
  k__law_great_right : PySem.W.keepIn K (.ref (He.ga K "_law_great_right")) = true
  k__law_beside_right : PySem.W.keepIn K (.ref (He.ga K "_law_beside_right")) = true
  k__law_heard : PySem.W.keepIn K (.ref (He.ga K "_law_heard")) = true
  k__law_refused_right : PySem.W.keepIn K (.ref (He.ga K "_law_refused_right")) = true
  k_law : PySem.W.keepIn K (.ref (He.ga K "law")) = true
  b_isinstance : mg "isinstance" = none
  b_int : mg "int" = none
  b_bool : mg "bool" = none
  b_str : mg "str" = none
  b_list : mg "list" = none
  b_tuple : mg "tuple" = none
  b_len : mg "len" = none
  b_abs : mg "abs" = none
  b_range : mg "range" = none
  b_all : mg "all" = none
  b_enumerate : mg "enumerate" = none
  b_zip : mg "zip" = none
  b_sum : mg "sum" = none
  b_min : mg "min" = none
  b_repr : mg "repr" = none
  b_ValueError : mg "ValueError" = none
  c_DIGITS : ∃ t, mg "DIGITS" = some (.str "0123456789" t)
  c_MOST_DIGITS : ∃ t, mg "MOST_DIGITS" = some (.int 60 t)
  c_MOST_NUMBERS : ∃ t, mg "MOST_NUMBERS" = some (.int 64 t)
  c_MOST_ROWS : ∃ t, mg "MOST_ROWS" = some (.int 24 t)
  cl_Poly : Cls K (He.ga K "Poly")
  na_Poly_numbers : NoAttr K (He.ga K "Poly") "numbers"
  na_Poly_degree : NoAttr K (He.ga K "Poly") "degree"
  mk_Poly : Mk K (He.ga K "Poly") (He.ma K (He.ga K "Poly") "__init__")
  me_Poly_eq : Meth K (He.ga K "Poly") "__eq__" (He.ma K (He.ga K "Poly") "__eq__")
  cc_Poly : ClsC K "Poly" tys
  ne_Poly : PySem.W.findIn K (.ref (He.ga K "Poly")) "__ne__" = some (some (.builtin "object.__ne__"))
  top : topB K = true
  e_BadNumber : ErrC K "BadNumber" ["part"] ["BadNumber", "SignsError"] ["BadPoly"]
  e_BadPoly : ErrC K "BadPoly" ["part"] ["BadPoly", "SignsError"] ["BadNumber"]
  x_BadNumber : ExcC K (He.ga K "BadNumber")
  x_BadPoly : ExcC K (He.ga K "BadPoly")
  ki_BadNumber_BadNumber : PySem.W.kitOne K (.ref (He.ga K "BadNumber")) (.ref (He.ga K "BadNumber")) = some true
  d_BadNumber_init : ∃ fd, FunD K "__init__" "BadNumber.__init__" (defArgs s_BadNumber_init) (defBody s_BadNumber_init) (defScope s_BadNumber_init) [] [] (He.ma K (He.ga K "BadNumber") "__init__") fd
  d_BadPoly_init : ∃ fd, FunD K "__init__" "BadPoly.__init__" (defArgs s_BadPoly_init) (defBody s_BadPoly_init) (defScope s_BadPoly_init) [] [] (He.ma K (He.ga K "BadPoly") "__init__") fd
  d_BadText_init : ∃ fd, FunD K "__init__" "BadText.__init__" (defArgs s_BadText_init) (defBody s_BadText_init) (defScope s_BadText_init) [] [] (He.ma K (He.ga K "BadText") "__init__") fd
  d_is_integer : ∃ fd, FunD K "is_integer" "is_integer" (defArgs s_is_integer) (defBody s_is_integer) (defScope s_is_integer) [] [] (He.ga K "is_integer") fd
  d_is_within : ∃ fd, FunD K "is_within" "is_within" (defArgs s_is_within) (defBody s_is_within) (defScope s_is_within) [] [] (He.ga K "is_within") fd
  d_is_row : ∃ fd, FunD K "is_row" "is_row" (defArgs s_is_row) (defBody s_is_row) (defScope s_is_row) [] [] (He.ga K "is_row") fd
  d_are_integers : ∃ fd, FunD K "are_integers" "are_integers" (defArgs s_are_integers) (defBody s_are_integers) (defScope s_are_integers) [] [] (He.ga K "are_integers") fd
  d_need_integer : ∃ fd, FunD K "need_integer" "need_integer" (defArgs s_need_integer) (defBody s_need_integer) (defScope s_need_integer) [] [] (He.ga K "need_integer") fd
  d_items_of : ∃ fd, FunD K "items_of" "items_of" (defArgs s_items_of) (defBody s_items_of) (defScope s_items_of) [] [] (He.ga K "items_of") fd
  d_is_integer_text : ∃ fd, FunD K "is_integer_text" "is_integer_text" (defArgs s_is_integer_text) (defBody s_is_integer_text) (defScope s_is_integer_text) [] [] (He.ga K "is_integer_text") fd
  d_integer_at : ∃ fd, FunD K "integer_at" "integer_at" (defArgs s_integer_at) (defBody s_integer_at) (defScope s_integer_at) [] [] (He.ga K "integer_at") fd
  d_need_end : ∃ fd, FunD K "need_end" "need_end" (defArgs s_need_end) (defBody s_need_end) (defScope s_need_end) [] [] (He.ga K "need_end") fd
  d_integer_text : ∃ fd, FunD K "integer_text" "integer_text" (defArgs s_integer_text) (defBody s_integer_text) (defScope s_integer_text) [] [] (He.ga K "integer_text") fd
  d_Poly_init : ∃ fd, FunD K "__init__" "Poly.__init__" (defArgs s_Poly_init) (defBody s_Poly_init) (defScope s_Poly_init) [] [] (He.ma K (He.ga K "Poly") "__init__") fd
  d_Poly_eq : ∃ fd, FunD K "__eq__" "Poly.__eq__" (defArgs s_Poly_eq) (defBody s_Poly_eq) (defScope s_Poly_eq) [] [] (He.ma K (He.ga K "Poly") "__eq__") fd
  d_Poly_str : ∃ fd, FunD K "__str__" "Poly.__str__" (defArgs s_Poly_str) (defBody s_Poly_str) (defScope s_Poly_str) [] [] (He.ma K (He.ga K "Poly") "__str__") fd
  d_Poly_worth : ∃ fd, FunD K "worth" "Poly.worth" (defArgs s_Poly_worth) (defBody s_Poly_worth) (defScope s_Poly_worth) [] [] (He.ma K (He.ga K "Poly") "worth") fd
  d_Poly_read : ∃ fd, FunD K "read" "Poly.read" (defArgs s_Poly_read) (defBody s_Poly_read) (defScope s_Poly_read) [] [] (He5.wf K (He.ga K "Poly") "staticmethod" "read") fd
  d_product_sum : ∃ fd, FunD K "product_sum" "product_sum" (defArgs s_product_sum) (defBody s_product_sum) (defScope s_product_sum) [] [] (He.ga K "product_sum") fd
  d_table_times : ∃ fd, FunD K "table_times" "table_times" (defArgs s_table_times) (defBody s_table_times) (defScope s_table_times) [] [] (He.ga K "table_times") fd
  d_is_table : ∃ fd, FunD K "is_table" "is_table" (defArgs s_is_table) (defBody s_is_table) (defScope s_is_table) [] [] (He.ga K "is_table") fd
  d_row_factors : ∃ fd, FunD K "row_factors" "row_factors" (defArgs s_row_factors) (defBody s_row_factors) (defScope s_row_factors) [] [] (He.ga K "row_factors") fd
  d_table_numbers : ∃ fd, FunD K "table_numbers" "table_numbers" (defArgs s_table_numbers) (defBody s_table_numbers) (defScope s_table_numbers) [] [] (He.ga K "table_numbers") fd
  d_table_poly : ∃ fd, FunD K "table_poly" "table_poly" (defArgs s_table_poly) (defBody s_table_poly) (defScope s_table_poly) [] [] (He.ga K "table_poly") fd
  d__law_tub : ∃ fd, FunD K "_law_tub" "_law_tub" (defArgs s__law_tub) (defBody s__law_tub) (defScope s__law_tub) [] [] (He.ga K "_law_tub") fd
  d__law_scoop : ∃ fd, FunD K "_law_scoop" "_law_scoop" (defArgs s__law_scoop) (defBody s__law_scoop) (defScope s__law_scoop) [] [] (He.ga K "_law_scoop") fd
  d__law_pick : ∃ fd, FunD K "_law_pick" "_law_pick" (defArgs s__law_pick) (defBody s__law_pick) (defScope s__law_pick) [] [] (He.ga K "_law_pick") fd
  d__law_stirred : ∃ fd, FunD K "_law_stirred" "_law_stirred" (defArgs s__law_stirred) (defBody s__law_stirred) (defScope s__law_stirred) [] [] (He.ga K "_law_stirred") fd
  d__law_number : ∃ fd, FunD K "_law_number" "_law_number" (defArgs s__law_number) (defBody s__law_number) (defScope s__law_number) [] [] (He.ga K "_law_number") fd
  d__law_table : ∃ fd, FunD K "_law_table" "_law_table" (defArgs s__law_table) (defBody s__law_table) (defScope s__law_table) [] [] (He.ga K "_law_table") fd
  d__law_orders : ∃ fd, FunD K "_law_orders" "_law_orders" (defArgs s__law_orders) (defBody s__law_orders) (defScope s__law_orders) [] [] (He.ga K "_law_orders") fd
  d__law_multiplied : ∃ fd, FunD K "_law_multiplied" "_law_multiplied" (defArgs s__law_multiplied) (defBody s__law_multiplied) (defScope s__law_multiplied) [] [] (He.ga K "_law_multiplied") fd
  d__law_by_orders : ∃ fd, FunD K "_law_by_orders" "_law_by_orders" (defArgs s__law_by_orders) (defBody s__law_by_orders) (defScope s__law_by_orders) [] [] (He.ga K "_law_by_orders") fd
  d__law_determinant : ∃ fd, FunD K "_law_determinant" "_law_determinant" (defArgs s__law_determinant) (defBody s__law_determinant) (defScope s__law_determinant) [] [] (He.ga K "_law_determinant") fd
  d__law_less : ∃ fd, FunD K "_law_less" "_law_less" (defArgs s__law_less) (defBody s__law_less) (defScope s__law_less) [] [] (He.ga K "_law_less") fd
  d__law_worth : ∃ fd, FunD K "_law_worth" "_law_worth" (defArgs s__law_worth) (defBody s__law_worth) (defScope s__law_worth) [] [] (He.ga K "_law_worth") fd
  d__law_is_poly : ∃ fd, FunD K "_law_is_poly" "_law_is_poly" (defArgs s__law_is_poly) (defBody s__law_is_poly) (defScope s__law_is_poly) [] [] (He.ga K "_law_is_poly") fd
  d__law_small_right : ∃ fd, FunD K "_law_small_right" "_law_small_right" (defArgs s__law_small_right) (defBody s__law_small_right) (defScope s__law_small_right) [] [] (He.ga K "_law_small_right") fd
  d__law_great_right : ∃ fd, FunD K "_law_great_right" "_law_great_right" (defArgs s__law_great_right) (defBody s__law_great_right) (defScope s__law_great_right) [] [] (He.ga K "_law_great_right") fd
  d__law_beside_right : ∃ fd, FunD K "_law_beside_right" "_law_beside_right" (defArgs s__law_beside_right) (defBody s__law_beside_right) (defScope s__law_beside_right) [] [] (He.ga K "_law_beside_right") fd
  d__law_heard : ∃ fd, FunD K "_law_heard" "_law_heard" (defArgs s__law_heard) (defBody s__law_heard) (defScope s__law_heard) [] [] (He.ga K "_law_heard") fd
  d__law_refused_right : ∃ fd, FunD K "_law_refused_right" "_law_refused_right" (defArgs s__law_refused_right) (defBody s__law_refused_right) (defScope s__law_refused_right) [] [] (He.ga K "_law_refused_right") fd
  d_law : ∃ fd, FunD K "law" "law" (defArgs s_law) (defBody s_law) (defScope s_law) [] [] (He.ga K "law") fd
theorem txt_of {K : PySem.W.Frag} {mg : Str → Option Value} {h : Heap} (X : K.In h) (G : h.Ns mainGlobals mg) (c : SaysM fa_all ex_all fn_all K) : Txt K mg where
  g_is_integer := He.glo_ok X G (c.fact 0)
  g_is_within := He.glo_ok X G (c.fact 1)
  g_is_row := He.glo_ok X G (c.fact 2)
  g_are_integers := He.glo_ok X G (c.fact 3)
  g_need_integer := He.glo_ok X G (c.fact 4)
  g_items_of := He.glo_ok X G (c.fact 5)
  g_is_integer_text := He.glo_ok X G (c.fact 6)
  g_integer_at := He.glo_ok X G (c.fact 7)
  g_need_end := He.glo_ok X G (c.fact 8)
  g_integer_text := He.glo_ok X G (c.fact 9)
  g_product_sum := He.glo_ok X G (c.fact 10)
  g_table_times := He.glo_ok X G (c.fact 11)
  g_is_table := He.glo_ok X G (c.fact 12)
  g_row_factors := He.glo_ok X G (c.fact 13)
  g_table_numbers := He.glo_ok X G (c.fact 14)
  g_table_poly := He.glo_ok X G (c.fact 15)
  g__law_tub := He.glo_ok X G (c.fact 16)
  g__law_scoop := He.glo_ok X G (c.fact 17)
  g__law_pick := He.glo_ok X G (c.fact 18)
  g__law_stirred := He.glo_ok X G (c.fact 19)
  g__law_number := He.glo_ok X G (c.fact 20)
  g__law_table := He.glo_ok X G (c.fact 21)
  g__law_orders := He.glo_ok X G (c.fact 22)
  g__law_multiplied := He.glo_ok X G (c.fact 23)
  g__law_by_orders := He.glo_ok X G (c.fact 24)
  g__law_determinant := He.glo_ok X G (c.fact 25)
  g__law_less := He.glo_ok X G (c.fact 26)
  g__law_worth := He.glo_ok X G (c.fact 27)
  g__law_is_poly := He.glo_ok X G (c.fact 28)
  g__law_small_right := He.glo_ok X G (c.fact 29)
  g__law_great_right := He.glo_ok X G (c.fact 30)
  g__law_beside_right := He.glo_ok X G (c.fact 31)
  g__law_heard := He.glo_ok X G (c.fact 32)
  g__law_refused_right := He.glo_ok X G (c.fact 33)
  g_law := He.glo_ok X G (c.fact 34)
  g_SignsError := He.glo_ok X G (c.fact 35)
  g_BadNumber := He.glo_ok X G (c.fact 36)
  g_BadPoly := He.glo_ok X G (c.fact 37)
  g_BadText := He.glo_ok X G (c.fact 38)
  g_Poly := He.glo_ok X G (c.fact 39)
  k_is_integer := He.keep_ok (c.fact 40)
  k_is_within := He.keep_ok (c.fact 41)
  k_is_row := He.keep_ok (c.fact 42)
  k_are_integers := He.keep_ok (c.fact 43)
  k_need_integer := He.keep_ok (c.fact 44)
  k_items_of := He.keep_ok (c.fact 45)
  k_is_integer_text := He.keep_ok (c.fact 46)
  k_integer_at := He.keep_ok (c.fact 47)
  k_need_end := He.keep_ok (c.fact 48)
  k_integer_text := He.keep_ok (c.fact 49)
  k_product_sum := He.keep_ok (c.fact 50)
  k_table_times := He.keep_ok (c.fact 51)
  k_is_table := He.keep_ok (c.fact 52)
  k_row_factors := He.keep_ok (c.fact 53)
  k_table_numbers := He.keep_ok (c.fact 54)
  k_table_poly := He.keep_ok (c.fact 55)
  k__law_tub := He.keep_ok (c.fact 56)
  k__law_scoop := He.keep_ok (c.fact 57)
  k__law_pick := He.keep_ok (c.fact 58)
  k__law_stirred := He.keep_ok (c.fact 59)
  k__law_number := He.keep_ok (c.fact 60)
  k__law_table := He.keep_ok (c.fact 61)
  k__law_orders := He.keep_ok (c.fact 62)
  k__law_multiplied := He.keep_ok (c.fact 63)
  k__law_by_orders := He.keep_ok (c.fact 64)
  k__law_determinant := He.keep_ok (c.fact 65)
  k__law_less := He.keep_ok (c.fact 66)
  k__law_worth := He.keep_ok (c.fact 67)
  k__law_is_poly := He.keep_ok (c.fact 68)
  k__law_small_right := He.keep_ok (c.fact 69)
  k__law_great_right := He.keep_ok (c.fact 70)
  k__law_beside_right := He.keep_ok (c.fact 71)
  k__law_heard := He.keep_ok (c.fact 72)
  k__law_refused_right := He.keep_ok (c.fact 73)
  k_law := He.keep_ok (c.fact 74)
  b_isinstance := He.free_ok X G (c.fact 75)
  b_int := He.free_ok X G (c.fact 76)
  b_bool := He.free_ok X G (c.fact 77)
  b_str := He.free_ok X G (c.fact 78)
  b_list := He.free_ok X G (c.fact 79)
  b_tuple := He.free_ok X G (c.fact 80)
  b_len := He.free_ok X G (c.fact 81)
  b_abs := He.free_ok X G (c.fact 82)
  b_range := He.free_ok X G (c.fact 83)
  b_all := He.free_ok X G (c.fact 84)
  b_enumerate := He.free_ok X G (c.fact 85)
  b_zip := He.free_ok X G (c.fact 86)
  b_sum := He.free_ok X G (c.fact 87)
  b_min := He.free_ok X G (c.fact 88)
  b_repr := He.free_ok X G (c.fact 89)
  b_ValueError := He.free_ok X G (c.fact 90)
  c_DIGITS := He.str_ok X G (c.fact 91)
  c_MOST_DIGITS := He.int_ok X G (c.fact 92)
  c_MOST_NUMBERS := He.int_ok X G (c.fact 93)
  c_MOST_ROWS := He.int_ok X G (c.fact 94)
  cl_Poly := He.cls_ok (c.fact 95)
  na_Poly_numbers := He.noat_ok (c.fact 96)
  na_Poly_degree := He.noat_ok (c.fact 97)
  mk_Poly := He.mkr_ok (c.fact 98)
  me_Poly_eq := He.meth_ok (c.fact 99)
  cc_Poly := clsB_ok (c.chk 0)
  ne_Poly := He.eqO_ok (c.chk 1)
  top := c.chk 2
  e_BadNumber := errB_ok (c.chk 3)
  e_BadPoly := errB_ok (c.chk 4)
  x_BadNumber := excB_ok (c.chk 2) (errB_ok (c.chk 3)).xf (c.chk 5)
  x_BadPoly := excB_ok (c.chk 2) (errB_ok (c.chk 4)).xf (c.chk 6)
  ki_BadNumber_BadNumber := kiB_ok (c.chk 7)
  d_BadNumber_init := c.def_ 0
  d_BadPoly_init := c.def_ 1
  d_BadText_init := c.def_ 2
  d_is_integer := c.def_ 3
  d_is_within := c.def_ 4
  d_is_row := c.def_ 5
  d_are_integers := c.def_ 6
  d_need_integer := c.def_ 7
  d_items_of := c.def_ 8
  d_is_integer_text := c.def_ 9
  d_integer_at := c.def_ 10
  d_need_end := c.def_ 11
  d_integer_text := c.def_ 12
  d_Poly_init := c.def_ 13
  d_Poly_eq := c.def_ 14
  d_Poly_str := c.def_ 15
  d_Poly_worth := c.def_ 16
  d_Poly_read := c.def_ 17
  d_product_sum := c.def_ 18
  d_table_times := c.def_ 19
  d_is_table := c.def_ 20
  d_row_factors := c.def_ 21
  d_table_numbers := c.def_ 22
  d_table_poly := c.def_ 23
  d__law_tub := c.def_ 24
  d__law_scoop := c.def_ 25
  d__law_pick := c.def_ 26
  d__law_stirred := c.def_ 27
  d__law_number := c.def_ 28
  d__law_table := c.def_ 29
  d__law_orders := c.def_ 30
  d__law_multiplied := c.def_ 31
  d__law_by_orders := c.def_ 32
  d__law_determinant := c.def_ 33
  d__law_less := c.def_ 34
  d__law_worth := c.def_ 35
  d__law_is_poly := c.def_ 36
  d__law_small_right := c.def_ 37
  d__law_great_right := c.def_ 38
  d__law_beside_right := c.def_ 39
  d__law_heard := c.def_ 40
  d__law_refused_right := c.def_ 41
  d_law := c.def_ 42
abbrev lamT (K : PySem.W.Frag) : List (Addr × Str) := [((He.cT K ("_law_refused_right", none)).2, ((("_law_refused_right" : Str) ++ ".<locals>.") ++ "<lambda>"))]
theorem lam_mem__law_refused_right (K : PySem.W.Frag) : ((He.cT K ("_law_refused_right", none)).2, ((("_law_refused_right" : Str) ++ ".<locals>.") ++ "<lambda>")) ∈ lamT K := List.mem_cons_self
theorem lam_uq__law_refused_right {K : PySem.W.Frag} {mg : Str → Option Value} (T : Txt K mg) : ∀ p ∈ lamT K, p.1 = (He.cT K ("_law_refused_right", none)).2 → p.2 = ((("_law_refused_right" : Str) ++ ".<locals>.") ++ "<lambda>") := by
  intro p hp e
  simp only [lamT, List.mem_cons, List.mem_nil_iff, or_false] at hp
  rcases hp with rfl
  · rfl
end K10
set_option maxHeartbeats 0
namespace K10
open PySem PySem.W PySem.Spec PyProof.Rows L2 GS LamX
abbrev R : PySem.W.OpenRow := PySem.W.OpenLaw.row PySem.Challenge.rw_goodsigns_k10_polys_of_tables
abbrev tfs : List He.Defn := [("_law_refused_right", none)]
abbrev hk : PySem.W.Hook := hookL 5 fa_all ex_all fn_all tfs
def ob (s : PySem.W.SharedT) : He.AlD × Bool := obsLG 5 fa_all ex_all fn_all tfs (HandSHeadRun.getT s)
theorem ob_eq (s : PySem.W.SharedT) : ob s = hk.obs s.abs := obsLG_eq (HandSHeadRun.getT_eq s)
def loose : List PySem.Str := (["SignsError", "BadNumber", "BadPoly", "BadText", "DIGITS", "is_integer", "is_within", "is_row", "are_integers", "need_integer"] : List PySem.Str) ++ (["MOST_DIGITS", "items_of", "is_integer_text", "integer_at", "need_end", "integer_text", "MOST_NUMBERS", "Poly", "product_sum", "table_times"] : List PySem.Str) ++ (["MOST_ROWS", "is_table", "row_factors", "table_numbers", "table_poly", "_law_tub", "_law_scoop", "_law_pick", "_law_stirred", "_law_number"] : List PySem.Str) ++ (["_law_table", "_law_orders", "_law_multiplied", "_law_by_orders", "_law_determinant", "_law_less", "_law_worth", "_law_is_poly", "_law_small_right", "_law_great_right"] : List PySem.Str) ++ (["_law_beside_right", "_law_heard", "_law_refused_right"] : List PySem.Str)
theorem run (w : World) : HandSHeadRun.RunEq R (PySem.W.view R.prog [50]) hk ob 12000 loose w := by
  intro os
  kernel_rfl
end K10
namespace K10
open PySem PySem.Spec PyProof.Rows L2 GS TL LamX
local macro_rules | `(tactic| walk_at "rd") => `(tactic| (repeat (first
  | with_reducible refine r_next ?_
  | with_reducible refine r_seq ?_
  | with_reducible refine r_ret ?_
  | with_reducible refine r_ifS ?_
  | with_reducible refine r_asg ?_
  | with_reducible refine r_drop ?_
  | with_reducible refine r_op ?_
  | with_reducible refine r_un ?_
  | with_reducible refine r_cbInt ?_
  | with_reducible refine r_cbAbs ?_
  | with_reducible refine r_cbLen ?_
  | with_reducible refine r_cbList ?_
  | with_reducible refine r_cbTup ?_
  | with_reducible refine r_iEnT ?_
  | with_reducible refine r_iEnL ?_
  | with_reducible refine r_zipA ?_
  | with_reducible refine r_zipX ?_
  | with_reducible refine r_augS ?_
  | with_reducible refine r_cb ?_
  | with_reducible refine r_call ?_
  | with_reducible refine r_make ?_
  | with_reducible refine r_callN0 ?_
  | with_reducible refine r_makeK0 ?_
  | with_reducible refine r_makeS ?_
  | with_reducible refine r_callS ?_
  | with_reducible refine r_cons ?_
  | with_reducible refine r_nil ?_
  | with_reducible refine r_test ?_
  | with_reducible refine r_B ?_
  | with_reducible refine r_and ?_
  | with_reducible refine r_or ?_
  | with_reducible refine r_not ?_
  | with_reducible refine r_andV ?_
  | with_reducible refine r_orV ?_
  | with_reducible refine r_notV ?_
  | with_reducible refine r_if ?_
  | with_reducible refine r_tup ?_
  | with_reducible refine r_lst ?_
  | with_reducible refine r_c ?_
  | with_reducible refine r_lc ?_
  | with_reducible refine r_chain ?_
  | with_reducible refine r_iT ?_
  | with_reducible refine r_iL ?_
  | with_reducible refine r_iR1 ?_
  | with_reducible refine r_iR2 ?_
  | with_reducible refine r_iR3 ?_
  | with_reducible refine r_asgG ?_
  | with_reducible refine r_gSub ?_
  | with_reducible refine r_for ?_
  | with_reducible refine r_smeth ?_
  | with_reducible refine r_par ?_
  | with_reducible refine r_parK ?_
  | with_reducible refine r_gCons ?_
  | with_reducible refine r_gNil ?_
  | with_reducible refine r_gName ?_
  | with_reducible refine r_intI ?_
  | with_reducible refine r_intB ?_
  | with_reducible refine r_absI ?_
  | with_reducible refine r_k ?_
  | with_reducible refine r_kV ?_
  | ((with_reducible show tVar _ _ _ _); refine r_var3 ?_ (by rfl))
  | with_reducible refine r_I0 ?_
  | with_reducible refine r_U ?_
  | with_reducible refine r_eqI ?_
  | with_reducible refine r_neI ?_
  | dsimp only)))
local macro_rules | `(tactic| walk_at "rx") => `(tactic| (repeat (first
  | with_reducible refine r_next ?_
  | with_reducible refine r_ret ?_
  | with_reducible refine r_ifS ?_
  | with_reducible refine r_asg ?_
  | with_reducible refine r_drop ?_
  | with_reducible refine r_op ?_
  | with_reducible refine r_un ?_
  | with_reducible refine r_cbInt ?_
  | with_reducible refine r_cbAbs ?_
  | with_reducible refine r_cbLen ?_
  | with_reducible refine r_cbList ?_
  | with_reducible refine r_cbTup ?_
  | with_reducible refine r_iEnT ?_
  | with_reducible refine r_iEnL ?_
  | with_reducible refine r_zipA ?_
  | with_reducible refine r_zipX ?_
  | with_reducible refine r_augS ?_
  | with_reducible refine r_cb ?_
  | with_reducible refine r_call ?_
  | with_reducible refine r_make ?_
  | with_reducible refine r_callN0 ?_
  | with_reducible refine r_makeK0 ?_
  | with_reducible refine r_makeS ?_
  | with_reducible refine r_callS ?_
  | with_reducible refine r_cons ?_
  | with_reducible refine r_nil ?_
  | with_reducible refine r_test ?_
  | with_reducible refine r_B ?_
  | with_reducible refine r_and ?_
  | with_reducible refine r_or ?_
  | with_reducible refine r_not ?_
  | with_reducible refine r_andV ?_
  | with_reducible refine r_orV ?_
  | with_reducible refine r_notV ?_
  | with_reducible refine r_if ?_
  | with_reducible refine r_tup ?_
  | with_reducible refine r_lst ?_
  | with_reducible refine r_c ?_
  | with_reducible refine r_lc ?_
  | with_reducible refine r_chain ?_
  | with_reducible refine r_iT ?_
  | with_reducible refine r_iL ?_
  | with_reducible refine r_iR1 ?_
  | with_reducible refine r_iR2 ?_
  | with_reducible refine r_iR3 ?_
  | with_reducible refine r_asgG ?_
  | with_reducible refine r_gSub ?_
  | with_reducible refine r_for ?_
  | with_reducible refine r_smeth ?_
  | with_reducible refine r_par ?_
  | with_reducible refine r_parK ?_
  | with_reducible refine r_gCons ?_
  | with_reducible refine r_gNil ?_
  | with_reducible refine r_gName ?_
  | with_reducible refine r_intI ?_
  | with_reducible refine r_intB ?_
  | with_reducible refine r_absI ?_
  | with_reducible refine r_k ?_
  | with_reducible refine r_kV ?_
  | ((with_reducible show tVar _ _ _ _); refine r_var3 ?_ (by rfl))
  | with_reducible refine r_I0 ?_
  | with_reducible refine r_U ?_
  | with_reducible refine r_eqI ?_
  | with_reducible refine r_neI ?_
  | dsimp only)))
/-! ### values -/
/-- a poly: its numbers stand in a tuple -/
def pf (t : Addr) (n : Int) : List (Str × V) := [("numbers", .ref t), ("degree", .int n)]
def Pl (K : PySem.W.Frag) (H : Hp) (a : Addr) (ns : List Int) : Prop := 1 ≤ ns.length ∧ ns.length ≤ 64 ∧ 0 < ns.headD 0 ∧ ∃ dx t, H a = some (.ins (He.ga K "Poly") dx (pf t ((ns.length : Int) - 1))) ∧ H t = some (.tup (ns.map V.int))
theorem Pl.ex {K : PySem.W.Frag} {H H' : Hp} {a : Addr} {ns : List Int} (h : Pl K H a ns) (e : Ex H H') : Pl K H' a ns := let ⟨h1, h2, h3, dx, t, h4, h5⟩ := h; ⟨h1, h2, h3, dx, t, e _ _ h4, e _ _ h5⟩
/-- an instance of a class of the program's -/
abbrev owns : List Str := ["Poly"]
def Own (K : PySem.W.Frag) (H : Hp) (v : V) : Prop := ∃ a C dx fs, v = .ref a ∧ C ∈ owns ∧ H a = some (.ins (He.ga K C) dx fs)
theorem Pl.own {K : PySem.W.Frag} {H : Hp} {a : Addr} {ns : List Int} (h : Pl K H a ns) : Own K H (.ref a) := let ⟨_, _, _, dx, _, h, _⟩ := h; ⟨a, "Poly", dx, _, rfl, by decide, h⟩
/-- a value whose kind is known -/
def Kn (K : PySem.W.Frag) (H : Hp) (v : V) : Prop := (∃ T ∈ tys, TyOf K H v (.type T)) ∨ Own K H v
theorem TyOf.ex' {K : PySem.W.Frag} {H H' : Hp} {v : V} {T : String} (b : TyOf K H v (.type T)) (e : ∀ a, v = .ref a → ∀ o, H a = some o → H' a = some o) : TyOf K H' v (.type T) := by
  cases b with
  | non => exact .non
  | bl b => exact .bl b
  | int i => exact .int i
  | str i => exact .str i
  | flt i => exact .flt i
  | lst q => exact .lst (e _ rfl _ q)
  | frz q => exact .frz (e _ rfl _ q)
  | tup q => exact .tup (e _ rfl _ q)
  | dK q => exact .dK (e _ rfl _ q)
  | dT q => exact .dT (e _ rfl _ q)
theorem TyOf.there {K : PySem.W.Frag} {H : Hp} {a : Addr} {T : String} (b : TyOf K H (.ref a) (.type T)) : ∃ o, H a = some o ∧ ∀ C dx fs, o ≠ .ins C dx fs := by
  cases b with
  | lst q => exact ⟨_, q, fun _ _ _ z => by cases z⟩
  | frz q => exact ⟨_, q, fun _ _ _ z => by cases z⟩
  | tup q => exact ⟨_, q, fun _ _ _ z => by cases z⟩
  | dK q => exact ⟨_, q, fun _ _ _ z => by cases z⟩
  | dT q => exact ⟨_, q, fun _ _ _ z => by cases z⟩
theorem Kn.ex {K : PySem.W.Frag} {H H' : Hp} {v : V} (h : Kn K H v) (e : Ex H H') : Kn K H' v := by
  rcases h with ⟨T, hT, h⟩ | ⟨a, C, dx, fs, h, hC, b⟩
  · exact .inl ⟨T, hT, TyOf.ex' h fun a _ o q => e a o q⟩
  · exact .inr ⟨a, C, dx, fs, h, hC, e _ _ b⟩
theorem kn_int {K : PySem.W.Frag} {H : Hp} (i : Int) : Kn K H (.int i) := .inl ⟨"int", by decide, .int i⟩
def isI : V → Bool
  | .int _ => true
  | _ => false
/-- an own class, for isinstance -/
theorem own_facts {K : PySem.W.Frag} {mg : Str → Option Value} (T : Txt K mg) {C : Str} (h : C ∈ owns) : Cls K (He.ga K C) ∧ ClsC K C tys := by
  rw [List.mem_singleton.mp h]
  exact ⟨T.cl_Poly, T.cc_Poly⟩
theorem ty_own {K : PySem.W.Frag} {mg : Str → Option Value} {H : Hp} {a dx : Addr} {C : Str} {fs : List (Str × V)} (T : Txt K mg) (h : C ∈ owns) (e : H a = some (.ins (He.ga K C) dx fs)) : TyX K H (.ref a) (.ref (He.ga K C)) := by
  obtain ⟨h1, h2⟩ := He.ba T.top
  obtain ⟨c1, c2⟩ := own_facts T h
  exact .base (.ins e c1 c2.ha (He.eqO_ok h1) (of_decide_eq_true h2) c2.hm)
def kitR (T1 T0 : String) : Bool := decide (T1 = T0) || (decide (T1 = "bool") && decide (T0 = "int"))
theorem kit_all : ∀ T1 ∈ tys, ∀ T0 ∈ tys, kitB T1 T0 = some (kitR T1 T0) := by decide +kernel
/-- isinstance(v, T0), T0 built-in -/
theorem kn_kit {K : PySem.W.Frag} {mg : Str → Option Value} {H : Hp} {v : V} (T : Txt K mg) (h : Kn K H v) {T0 : String} (h0 : T0 ∈ tys) : ∃ t b, TyX K H v t ∧ PySem.W.kitOne K t (.type T0) = some b ∧ ((∃ T1 ∈ tys, t = .type T1 ∧ kitR T1 T0 = b) ∨ (b = false ∧ (∃ C, t = .ref (He.ga K C)) ∧ ∃ a, v = .ref a)) := by
  rcases h with ⟨T1, hT, h⟩ | ⟨a, C, dx, fs, rfl, hC, b⟩
  · exact ⟨_, _, .base h, kit_ty (kit_all T1 hT T0 h0), .inl ⟨T1, hT, rfl, rfl⟩⟩
  · exact ⟨_, false, ty_own T hC b, ((own_facts T hC).2.ty T0 h0).2.1, .inr ⟨rfl, ⟨C, rfl⟩, a, rfl⟩⟩
/-- the type of an int is int; what has the type int is one -/
theorem ty_int {K : PySem.W.Frag} {H : Hp} {v : V} {T : String} (h : TyX K H v (.type T)) : (T = "int") ↔ isI v = true := by
  cases h with
  | base b => cases b <;> simp [isI]
  | _ => simp [isI]
def isBl : V → Bool
  | .bl _ => true
  | _ => false
theorem ty_bool {K : PySem.W.Frag} {H : Hp} {v : V} {T : String} (h : TyX K H v (.type T)) : (T = "bool") ↔ isBl v = true := by
  cases h with
  | base b => cases b <;> simp [isBl]
  | _ => simp [isBl]
/-! ### errors -/
def spErr (K : PySem.W.Frag) (x f : Str) : Sp := sp2 fun a v H Q _ => ∃ e, a = .ref e ∧ H e = some (exo e (He.ga K x) none) ∧ ∀ dx, H dx = none → dx ≠ e → Q .non (upd (upd H dx (exd dx [(f, v)])) e (exo e (He.ga K x) (some dx)))
/-- an error of the class x with its field -/
def Raised (K : PySem.W.Frag) (x f : Str) (v : V) (H : Hp) (E : XK) : Prop := ∀ d H', Ex H H' → H' d = some (.xd [(f, v)]) → E (.ref (He.ga K x)) (some d) H'
theorem r_err {K : PySem.W.Frag} {x f : Str} {v : V} {H : Hp} {E : XK} {vs : List V} (hv : vs = [v]) (q : Raised K x f v H E) : vs.length ≤ 1000 ∧ ∀ a, H a = none → spErr K x f (.ref a :: (vs ++ [])) (upd H a (exo a (He.ga K x) none))
    (fun v H2 => v = .non ∧ ∃ (d : Addr) (fs : List (Str × V)), H2 a = some (exo a (He.ga K x) (some d)) ∧ H2 d = some (exd d fs) ∧ H d = none ∧ E (.ref (He.ga K x)) (some d) (upd (del H2 a) d (.xd fs))) (fun _ _ _ => False) := by
  subst hv
  refine ⟨by simp, fun a ha => ⟨a, rfl, upd_same, fun dx hd hne => ⟨rfl, dx, [(f, v)], upd_same, ?_, ?_, ?_⟩⟩⟩
  · rw [upd_ne hne, upd_same]
  · rw [upd_ne hne] at hd
    exact hd
  · rw [upd_ne hne] at hd
    refine q dx _ (fun b o hb => ?_) upd_same
    have n1 : b ≠ dx := ne_of_none hb hd
    have n2 : b ≠ a := ne_of_none hb ha
    rw [upd_ne n1, del_ne n2, upd_ne n2, upd_ne n1, upd_ne n2]
    exact hb
theorem ok_BadNumber_init {P : Program} {w : World} {K : PySem.W.Frag} {mg : Str → Option Value} {base : Heap} (T : Txt K mg) : ∃ fd, FnOk P w K mg base (L2.CX P w) 1 (He.ma K (He.ga K "BadNumber") "__init__") fd ["self", "part"] (spErr K "BadNumber" "part") ∧ Binds K fd ["self", "part"] [] := by
  obtain ⟨fd, F⟩ := T.d_BadNumber_init
  refine ⟨fd, F.ok sc_BadNumber_init sp2_len (fun cdv A outer s H vs Q E hr h => ?_), F.bindsN fun _ _ _ _ _ _ us hl => match us, hl with | [_, _], _ => rfl⟩
  obtain ⟨a, v, rfl, e, rfl, he, k⟩ := sp2_is h
  refine ⟨_, (pss_one (ps_ost (pv 0) (pv 1))), ?_⟩
  exact ⟨_, rfl, _, rfl, e, _, rfl, T.e_BadNumber.o, T.e_BadNumber.no_ _ (by simp), .inl ⟨he, fun dx h1 h2 => k dx h1 h2⟩⟩
theorem ok_BadPoly_init {P : Program} {w : World} {K : PySem.W.Frag} {mg : Str → Option Value} {base : Heap} (T : Txt K mg) : ∃ fd, FnOk P w K mg base (L2.CX P w) 1 (He.ma K (He.ga K "BadPoly") "__init__") fd ["self", "part"] (spErr K "BadPoly" "part") ∧ Binds K fd ["self", "part"] [] := by
  obtain ⟨fd, F⟩ := T.d_BadPoly_init
  refine ⟨fd, F.ok sc_BadPoly_init sp2_len (fun cdv A outer s H vs Q E hr h => ?_), F.bindsN fun _ _ _ _ _ _ us hl => match us, hl with | [_, _], _ => rfl⟩
  obtain ⟨a, v, rfl, e, rfl, he, k⟩ := sp2_is h
  refine ⟨_, (pss_one (ps_ost (pv 0) (pv 1))), ?_⟩
  exact ⟨_, rfl, _, rfl, e, _, rfl, T.e_BadPoly.o, T.e_BadPoly.no_ _ (by simp), .inl ⟨he, fun dx h1 h2 => k dx h1 h2⟩⟩
/-! ### checks -/
def spIsInt (K : PySem.W.Frag) : Sp := sp1 fun v H Q _ => Kn K H v ∧ Q (.bl (isI v)) H
theorem ok_is_integer {P : Program} {w : World} {K : PySem.W.Frag} {mg : Str → Option Value} {base : Heap} (T : Txt K mg) : ∃ fd, FnOk P w K mg base (L2.CX P w) 1 (He.ga K "is_integer") fd ["value"] (spIsInt K) ∧ Binds K fd ["value"] [] := by
  obtain ⟨fd, F⟩ := T.d_is_integer
  refine ⟨fd, F.ok sc_is_integer sp1_len (fun cdv A outer s H vs Q E hr h => ?_), F.bindsN fun _ _ _ _ _ _ us hl => match us, hl with | [_], _ => rfl⟩
  obtain ⟨v, rfl, kv, q⟩ := sp1_is h
  refine ⟨_, (pss_one (ps_ret (pe_and (pe_callB (cr_isi rfl) (by rfl) T.b_isinstance (by decide +kernel) (pa_cons (pv 0) (pa_cons (pe_bltn (v := .ty "int") (by rfl) T.b_int (by decide +kernel) rfl) pa_nil))) (pe_one (pe_not (pe_callB (cr_isi rfl) (by rfl) T.b_isinstance (by decide +kernel) (pa_cons (pv 0) (pa_cons (pe_bltn (v := .ty "bool") (by rfl) T.b_bool (by decide +kernel) rfl) pa_nil)))))))), ?_⟩
  obtain ⟨t, b, ht, hb, hc⟩ := kn_kit T kv (T0 := "int") (by decide)
  obtain ⟨t', b', ht', hb', hc'⟩ := kn_kit T kv (T0 := "bool") (by decide)
  have e : (b && !b') = isI v := by
    rcases hc with ⟨T1, m1, rfl, rfl⟩ | ⟨rfl, ⟨C, rfl⟩, a, rfl⟩
    · have c1 := ty_int ht
      rcases hc' with ⟨T2, m2, rfl, rfl⟩ | ⟨rfl, ⟨C, rfl⟩, a, rfl⟩
      · have c2 := ty_int ht'
        cases hv : isI v with
        | true =>
          obtain rfl := c1.mpr hv
          obtain rfl := c2.mpr hv
          decide
        | false =>
          have n1 : T1 ≠ "int" := fun z => by have := c1.mp z; rw [hv] at this; cases this
          have n2 : T1 = "bool" → T2 = "bool" := fun z => (ty_bool ht').mpr ((ty_bool ht).mp z)
          by_cases z : T1 = "bool"
          · obtain rfl := n2 z
            subst z
            decide
          · simp [kitR, n1, z]
      · cases hv : isI (V.ref a) with
        | true => cases hv
        | false =>
          have n1 : T1 ≠ "int" := fun z => by have := c1.mp z; rw [hv] at this; cases this
          have n2 : T1 ≠ "bool" := fun z => by have := (ty_bool ht).mp z; cases this
          simp [kitR, n1, n2]
    · simp [isI]
  refine ⟨_, rfl, v, .ty "int", t, _, b, rfl, .ty "int", ht, hb, b, rfl, ?_⟩
  cases b with
  | false =>
    rw [if_neg Bool.false_ne_true]
    rw [← e] at q
    exact q
  | true =>
    rw [if_pos rfl]
    rw [← e] at q
    exact ⟨_, rfl, v, .ty "bool", t', _, b', rfl, .ty "bool", ht', hb', b', rfl, q⟩
/-- least, most: none or a bound -/
def bnd : V → Option (Option Int)
  | .non => some none
  | .int i => some (some i)
  | _ => none
def loB (i : Int) : Option Int → Bool
  | none => true
  | some l => decide (l ≤ i)
def upB (i : Int) : Option Int → Bool
  | none => true
  | some m => decide (i ≤ m)
def inB (v : V) (l m : Option Int) : Bool := match v with
  | .int i => loB i l && upB i m
  | _ => false
def spWithin (K : PySem.W.Frag) : Sp := sp3 fun v l m H Q _ => Kn K H v ∧ ∃ l' m', bnd l = some l' ∧ bnd m = some m' ∧ Q (.bl (inB v l' m')) H
theorem bnd_is {v : V} {l : Option Int} (h : bnd v = some l) : (v = .non ∧ l = none) ∨ ∃ i, v = .int i ∧ l = some i := by
  cases v <;> simp [bnd] at h <;> subst h <;> simp
theorem ok_is_within {P : Program} {w : World} {K : PySem.W.Frag} {mg : Str → Option Value} {base : Heap} (T : Txt K mg) : ∃ fd, FnOk P w K mg base (L2.CX P w) 2 (He.ga K "is_within") fd ["value", "least", "most"] (spWithin K) ∧ Binds K fd ["value", "least", "most"] [] := by
  obtain ⟨fd, F⟩ := T.d_is_within
  obtain ⟨fd_is_integer, F_is_integer, B_is_integer⟩ := ok_is_integer (P := P) (w := w) (base := base) T
  refine ⟨fd, F.ok sc_is_within sp3_len (fun cdv A outer s H vs Q E hr h => ?_), F.bindsN fun _ _ _ _ _ _ us hl => match us, hl with | [_, _, _], _ => rfl⟩
  have hr_is_integer : Room 1 _ := hr.mono (by decide)
  obtain ⟨v, l, m, rfl, kv, l', m', hl, hm, q⟩ := sp3_is h
  refine ⟨_, (pss_cons (ps_if (PW.pt (pw_or (pt_not (pt_val (pe_call F_is_integer hr_is_integer (by rfl) T.g_is_integer T.k_is_integer B_is_integer .nil passL (pa_cons (pv 0) pa_nil)))) (pw_or1 (PW.pt (pw_and (pt_cmpR op_notN (pv 1) pe_non (nomark _)) (pw_and1 (pt_cmpR op_lt (pv 0) (pv 1) (nomark _)))))))) (pss_one (ps_ret pe_bl)) pss_nil)
      (pss_one (ps_ret (pe_or (pe_cmpR op_isN (pv 2) pe_non (nomark _)) (pe_one (pe_cmpR op_le (pv 0) (pv 2) (nomark _))))))), ?_⟩
  refine ⟨_, rfl, kv, ⟨_, rfl, ?_⟩⟩
  cases hv : isI v with
  | false =>
    have e : inB v l' m' = false := by cases v <;> first | rfl | cases hv
    rw [e] at q
    exact ite_t rfl (ite_t rfl q)
  | true =>
    obtain ⟨i, rfl⟩ : ∃ i, v = .int i := by cases v <;> first | exact ⟨_, rfl⟩ | cases hv
    refine ite_f rfl ?_
    have last : ∀ {Q' : VK}, Q' (.bl (upB i m')) H → (tOrV (tOp (fun x y H Q => y = .non ∧ Q (.bl (decide (x = .non))) H) (tVar 2) (tC .non)) (tOp (rI0 fun i j => .bl (decide (i ≤ j))) (tVar 0) (tVar 2))) [some (.int i), some l, some m] H Q' := fun {Q'} q' => by
      refine ⟨_, rfl, rfl, _, rfl, ?_⟩
      rcases bnd_is hm with ⟨rfl, rfl⟩ | ⟨j, rfl, rfl⟩
      · exact ite_t (by simp) q'
      · exact ite_f (by simp) ⟨_, rfl, _, rfl, i, j, rfl, rfl, q'⟩
    rcases bnd_is hl with ⟨rfl, rfl⟩ | ⟨j, rfl, rfl⟩
    · refine ⟨_, rfl, rfl, _, rfl, ite_f (by simp) (ite_f rfl (last ?_))⟩
      simpa [inB, loB] using q
    · refine ⟨_, rfl, rfl, _, rfl, ite_t (by simp) ⟨_, rfl, _, rfl, i, j, rfl, rfl, _, rfl, ?_⟩⟩
      by_cases c : i < j
      · refine ite_t (by simp [c]) ?_
        have e : inB (.int i) (some j) m' = false := by simp [inB, loB, show ¬ j ≤ i by omega]
        rw [e] at q
        exact q
      · refine ite_f (by simp [c]) (last ?_)
        have e : inB (.int i) (some j) m' = upB i m' := by simp [inB, loB, show j ≤ i by omega]
        rw [← e]
        exact q

end K10
namespace K10
open PySem PySem.Spec PyProof.Rows L2 GS TL LamX
local macro_rules | `(tactic| walk_at "rd") => `(tactic| (repeat (first
  | with_reducible refine r_next ?_
  | with_reducible refine r_seq ?_
  | with_reducible refine r_ret ?_
  | with_reducible refine r_ifS ?_
  | with_reducible refine r_asg ?_
  | with_reducible refine r_drop ?_
  | with_reducible refine r_op ?_
  | with_reducible refine r_un ?_
  | with_reducible refine r_cbInt ?_
  | with_reducible refine r_cbAbs ?_
  | with_reducible refine r_cbLen ?_
  | with_reducible refine r_cbList ?_
  | with_reducible refine r_cbTup ?_
  | with_reducible refine r_iEnT ?_
  | with_reducible refine r_iEnL ?_
  | with_reducible refine r_zipA ?_
  | with_reducible refine r_zipX ?_
  | with_reducible refine r_augS ?_
  | with_reducible refine r_cb ?_
  | with_reducible refine r_call ?_
  | with_reducible refine r_make ?_
  | with_reducible refine r_callN0 ?_
  | with_reducible refine r_makeK0 ?_
  | with_reducible refine r_makeS ?_
  | with_reducible refine r_callS ?_
  | with_reducible refine r_cons ?_
  | with_reducible refine r_nil ?_
  | with_reducible refine r_test ?_
  | with_reducible refine r_B ?_
  | with_reducible refine r_and ?_
  | with_reducible refine r_or ?_
  | with_reducible refine r_not ?_
  | with_reducible refine r_andV ?_
  | with_reducible refine r_orV ?_
  | with_reducible refine r_notV ?_
  | with_reducible refine r_if ?_
  | with_reducible refine r_tup ?_
  | with_reducible refine r_lst ?_
  | with_reducible refine r_c ?_
  | with_reducible refine r_lc ?_
  | with_reducible refine r_chain ?_
  | with_reducible refine r_iT ?_
  | with_reducible refine r_iL ?_
  | with_reducible refine r_iR1 ?_
  | with_reducible refine r_iR2 ?_
  | with_reducible refine r_iR3 ?_
  | with_reducible refine r_asgG ?_
  | with_reducible refine r_gSub ?_
  | with_reducible refine r_for ?_
  | with_reducible refine r_smeth ?_
  | with_reducible refine r_par ?_
  | with_reducible refine r_parK ?_
  | with_reducible refine r_gCons ?_
  | with_reducible refine r_gNil ?_
  | with_reducible refine r_gName ?_
  | with_reducible refine r_intI ?_
  | with_reducible refine r_intB ?_
  | with_reducible refine r_absI ?_
  | with_reducible refine r_k ?_
  | with_reducible refine r_kV ?_
  | ((with_reducible show tVar _ _ _ _); refine r_var3 ?_ (by rfl))
  | with_reducible refine r_I0 ?_
  | with_reducible refine r_U ?_
  | with_reducible refine r_eqI ?_
  | with_reducible refine r_neI ?_
  | dsimp only)))
local macro_rules | `(tactic| walk_at "rx") => `(tactic| (repeat (first
  | with_reducible refine r_next ?_
  | with_reducible refine r_ret ?_
  | with_reducible refine r_ifS ?_
  | with_reducible refine r_asg ?_
  | with_reducible refine r_drop ?_
  | with_reducible refine r_op ?_
  | with_reducible refine r_un ?_
  | with_reducible refine r_cbInt ?_
  | with_reducible refine r_cbAbs ?_
  | with_reducible refine r_cbLen ?_
  | with_reducible refine r_cbList ?_
  | with_reducible refine r_cbTup ?_
  | with_reducible refine r_iEnT ?_
  | with_reducible refine r_iEnL ?_
  | with_reducible refine r_zipA ?_
  | with_reducible refine r_zipX ?_
  | with_reducible refine r_augS ?_
  | with_reducible refine r_cb ?_
  | with_reducible refine r_call ?_
  | with_reducible refine r_make ?_
  | with_reducible refine r_callN0 ?_
  | with_reducible refine r_makeK0 ?_
  | with_reducible refine r_makeS ?_
  | with_reducible refine r_callS ?_
  | with_reducible refine r_cons ?_
  | with_reducible refine r_nil ?_
  | with_reducible refine r_test ?_
  | with_reducible refine r_B ?_
  | with_reducible refine r_and ?_
  | with_reducible refine r_or ?_
  | with_reducible refine r_not ?_
  | with_reducible refine r_andV ?_
  | with_reducible refine r_orV ?_
  | with_reducible refine r_notV ?_
  | with_reducible refine r_if ?_
  | with_reducible refine r_tup ?_
  | with_reducible refine r_lst ?_
  | with_reducible refine r_c ?_
  | with_reducible refine r_lc ?_
  | with_reducible refine r_chain ?_
  | with_reducible refine r_iT ?_
  | with_reducible refine r_iL ?_
  | with_reducible refine r_iR1 ?_
  | with_reducible refine r_iR2 ?_
  | with_reducible refine r_iR3 ?_
  | with_reducible refine r_asgG ?_
  | with_reducible refine r_gSub ?_
  | with_reducible refine r_for ?_
  | with_reducible refine r_smeth ?_
  | with_reducible refine r_par ?_
  | with_reducible refine r_parK ?_
  | with_reducible refine r_gCons ?_
  | with_reducible refine r_gNil ?_
  | with_reducible refine r_gName ?_
  | with_reducible refine r_intI ?_
  | with_reducible refine r_intB ?_
  | with_reducible refine r_absI ?_
  | with_reducible refine r_k ?_
  | with_reducible refine r_kV ?_
  | ((with_reducible show tVar _ _ _ _); refine r_var3 ?_ (by rfl))
  | with_reducible refine r_I0 ?_
  | with_reducible refine r_U ?_
  | with_reducible refine r_eqI ?_
  | with_reducible refine r_neI ?_
  | dsimp only)))
/-! ### rows of integers -/
/-- the items of a list or a tuple -/
def Sq (H : Hp) (v : V) (xs : List V) : Prop := ∃ a, v = .ref a ∧ (H a = some (.lst xs) ∨ H a = some (.tup xs))
theorem Sq.ex {H H' : Hp} {v : V} {xs : List V} (h : Sq H v xs) (e : Ex H H') : Sq H' v xs := by
  obtain ⟨a, rfl, h | h⟩ := h
  · exact ⟨a, rfl, .inl (e _ _ h)⟩
  · exact ⟨a, rfl, .inr (e _ _ h)⟩
theorem Sq.kn {K : PySem.W.Frag} {H : Hp} {v : V} {xs : List V} (h : Sq H v xs) : Kn K H v := by
  obtain ⟨a, rfl, h | h⟩ := h
  · exact .inl ⟨"list", by decide, .lst h⟩
  · exact .inl ⟨"tuple", by decide, .tup h⟩
theorem Own.ex {K : PySem.W.Frag} {H H' : Hp} {v : V} (h : Own K H v) (e : Ex H H') : Own K H' v := let ⟨a, C, dx, fs, h1, h2, h3⟩ := h; ⟨a, C, dx, fs, h1, h2, e _ _ h3⟩
/-- whether it is a list or a tuple -/
def RowB (K : PySem.W.Frag) (H : Hp) (v : V) (b : Bool) : Prop := (∃ T ∈ tys, TyOf K H v (.type T) ∧ b = (T == "list" || T == "tuple")) ∨ (Own K H v ∧ b = false)
theorem RowB.ex {K : PySem.W.Frag} {H H' : Hp} {v : V} {b : Bool} (h : RowB K H v b) (e : Ex H H') : RowB K H' v b := by
  rcases h with ⟨T, hT, h, hb⟩ | ⟨h, hb⟩
  · exact .inl ⟨T, hT, TyOf.ex' h fun a _ o q => e a o q, hb⟩
  · exact .inr ⟨h.ex e, hb⟩
theorem Kn.row {K : PySem.W.Frag} {H : Hp} {v : V} (h : Kn K H v) : ∃ b, RowB K H v b := by
  rcases h with ⟨T, hT, h⟩ | h
  · exact ⟨_, .inl ⟨T, hT, h, rfl⟩⟩
  · exact ⟨false, .inr ⟨h, rfl⟩⟩
theorem Sq.row {K : PySem.W.Frag} {H : Hp} {v : V} {xs : List V} (h : Sq H v xs) : RowB K H v true := by
  obtain ⟨a, rfl, h | h⟩ := h
  · exact .inl ⟨"list", by decide, .lst h, rfl⟩
  · exact .inl ⟨"tuple", by decide, .tup h, rfl⟩
theorem row_kit : ∀ T ∈ tys, kitR T "list" = (T == "list") ∧ kitR T "tuple" = (T == "tuple") := by decide
def spRow (K : PySem.W.Frag) : Sp := sp1 fun v H Q _ => ∃ b, RowB K H v b ∧ ∀ H', Ex H H' → Q (.bl b) H'
theorem ok_is_row {P : Program} {w : World} {K : PySem.W.Frag} {mg : Str → Option Value} {base : Heap} (T : Txt K mg) : ∃ fd, FnOk P w K mg base (L2.CX P w) 1 (He.ga K "is_row") fd ["value"] (spRow K) ∧ Binds K fd ["value"] [] := by
  obtain ⟨fd, F⟩ := T.d_is_row
  refine ⟨fd, F.ok sc_is_row sp1_len (fun cdv A outer s H vs Q E hr h => ?_), F.bindsN fun _ _ _ _ _ _ us hl => match us, hl with | [_], _ => rfl⟩
  obtain ⟨v, rfl, b, hv, k⟩ := sp1_is h
  refine ⟨_, (pss_one (ps_ret (pe_callB call_isiT (by rfl) T.b_isinstance (by decide +kernel) (pa_cons (pv 0) (pa_cons (pe_tup (pa_cons (pe_bltn (v := .ty "list") (by rfl) T.b_list (by decide +kernel) rfl) (pa_cons (pe_bltn (v := .ty "tuple") (by rfl) T.b_tuple (by decide +kernel) rfl) pa_nil))) pa_nil))))), ?_⟩
  walk_at "rd"
  refine r_newT (sz_le (by simp)) fun t H1 _ e1 h1 => ?_
  have hv1 := hv.ex e1
  have any : ∃ t, TyX K H1 v t ∧ PySem.W.kitAny K t [.type "list", .type "tuple"] = some b := by
    rcases hv1 with ⟨T1, hT, hy, rfl⟩ | ⟨⟨a, C, dx, fs, rfl, hC, ha⟩, rfl⟩
    · refine ⟨_, .base hy, ?_⟩
      have k1 := kit_ty (K := K) (kit_all T1 hT "list" (by decide))
      have k2 := kit_ty (K := K) (kit_all T1 hT "tuple" (by decide))
      obtain ⟨r1, r2⟩ := row_kit T1 hT
      rw [r1] at k1
      rw [r2] at k2
      unfold PySem.W.kitAny
      rw [k1]
      cases T1 == "list" with
      | true => rfl
      | false =>
        show PySem.W.kitAny K _ [_] = _
        unfold PySem.W.kitAny
        rw [k2]
        cases T1 == "tuple" <;> rfl
    · refine ⟨_, ty_own T hC ha, ?_⟩
      have k1 := ((own_facts T hC).2.ty "list" (by decide)).2.1
      have k2 := ((own_facts T hC).2.ty "tuple" (by decide)).2.1
      unfold PySem.W.kitAny
      rw [k1]
      show PySem.W.kitAny K _ [_] = _
      unfold PySem.W.kitAny
      rw [k2]
      rfl
  obtain ⟨t0, ty, ka⟩ := any
  exact ⟨v, t, _, t0, _, b, rfl, h1, .cons (.ty "list") (.cons (.ty "tuple") .nil), ty, ka, k H1 e1⟩
theorem getD_map {α : Type} (xs : List V) (f : V → α) : ((List.range xs.length).map fun j => f (xs.getD j .non)) = xs.map f := by
  refine List.ext_getElem (by simp) fun i h1 h2 => ?_
  simp at h1
  simp [h1]
def spInts (K : PySem.W.Frag) : Sp := sp1 fun v H Q _ => (∃ xs, Sq H v xs ∧ xs.length ≤ 50000 ∧ (∀ x ∈ xs, Kn K H x) ∧ ∀ H', Ex H H' → Q (.bl (xs.all isI)) H') ∨ (RowB K H v false ∧ ∀ H', Ex H H' → Q (.bl false) H')
theorem ok_are_integers {P : Program} {w : World} {K : PySem.W.Frag} {mg : Str → Option Value} {base : Heap} (T : Txt K mg) : ∃ fd, FnOk P w K mg base (L2.CX P w) 2 (He.ga K "are_integers") fd ["value"] (spInts K) ∧ Binds K fd ["value"] [] := by
  obtain ⟨fd, F⟩ := T.d_are_integers
  obtain ⟨fd_is_integer, F_is_integer, B_is_integer⟩ := ok_is_integer (P := P) (w := w) (base := base) T
  obtain ⟨fd_is_row, F_is_row, B_is_row⟩ := ok_is_row (P := P) (w := w) (base := base) T
  refine ⟨fd, F.ok sc_are_integers sp1_len (fun cdv A outer s H vs Q E hr h => ?_), F.bindsN fun _ _ _ _ _ _ us hl => match us, hl with | [_], _ => rfl⟩
  have hr_is_integer : Room 1 _ := hr.mono (by decide)
  have hr_is_row : Room 1 _ := hr.mono (by decide)
  obtain ⟨v, rfl, hh⟩ := sp1_is h
  refine ⟨_, (pss_one (ps_ret (pe_and (pe_call F_is_row hr_is_row (by rfl) T.g_is_row T.k_is_row B_is_row .nil passL (pa_cons (pv 0) pa_nil)) (pe_one (pe_callB (cr_all rfl) (by rfl) T.b_all (by decide +kernel) (pa_cons (pe_lc (own := [("each", 1)]) (g := gName 1) (tt := tYes)  rfl sc_are_integers.nd (pi_seq (pv 0)) (blkOk_by (own := [("each", 1)]) (N := ["value", "each"]) (sc := defScope s_are_integers) (by decide +kernel)) (fun _ _ _ _ _ => (pg_name (i := 1) sc_are_integers.nd rfl (Or.inl rfl))) (fun _ _ _ _ _ => pts_nil) (fun _ _ _ _ _ => (pe_call F_is_integer hr_is_integer (by rfl) T.g_is_integer T.k_is_integer B_is_integer .nil passL (pa_cons (pv 1) pa_nil)))) pa_nil)))))), ?_⟩
  walk_at "rd"
  rcases hh with ⟨xs, hs, hl, hk, k⟩ | ⟨hr, k⟩
  · refine ⟨true, hs.row, fun H1 e1 => ?_⟩
    walk_at "rd"
    refine ite_t rfl ?_
    walk_at "rd"
    have go : ∀ {J : It} {a : Addr} {G : Hp → Prop}, v = .ref a → Walk J xs.length G (YAt xs) → (∀ H', Ex H1 H' → G H') → lcB J (gName 1) tYes (tCall (spIsInt K) [] E0 (tCons (tVar 1) tNil)) [1] [some v, none] (fun x H2 => rAll K [x] H2 Q) H1 := by
      intro J a G ev w hG
      refine r_lcM w (fun j => .bl (isI (xs.getD j .non))) hl hG (fun _ => rfl) ?_ ?_
      · rintro j y H0 H' hj e0 ⟨rfl, hy⟩
        refine ⟨Ex.refl _, fun H3 e3 R r => ?_⟩
        have : y = xs.getD j .non := by
          rw [List.getD_eq_getElem?_getD, hy]
          rfl
        subst this
        walk_at "rd"
        exact ⟨((hk _ (List.mem_of_getElem? hy)).ex (e1.trans (e0.trans e3))), r H3 (Ex.refl _)⟩
      · intro p H' hp e h'
        rw [getD_map xs fun x => V.bl (isI x)] at h'
        refine ⟨p, xs.map isI, rfl, SqL.of (by rw [List.map_map]; exact h'), ?_⟩
        have e : (xs.map isI).all id = xs.all isI := by rw [List.all_map]; rfl
        rw [e]
        exact k H' (e1.trans ‹Ex H1 H'›)
    obtain ⟨a, rfl, ha | ha⟩ := hs.ex e1
    · refine ⟨_, rfl, ?_⟩
      exact ⟨a, rfl, .inl ⟨⟨_, SqL.of ha⟩, go rfl walk_list fun H' e => SqL.of (e _ _ ha)⟩⟩
    · refine ⟨_, rfl, ?_⟩
      exact ⟨a, rfl, .inr ⟨⟨_, SqT.of ha⟩, go rfl walk_tup fun H' e => SqT.of (e _ _ ha)⟩⟩
  · refine ⟨false, hr, fun H1 e1 => ?_⟩
    walk_at "rd"
    exact ite_f rfl (k H1 e1)
/-! ### the class Poly -/
theorem Bu.new {p q : Addr} {H : Hp} {o : HO} (h : H q = none) : Bu p H (upd H q o) := Bu.of (Ex.new h)
def RaisedB (K : PySem.W.Frag) (x : Str) (p : Addr) (z : Str) (H : Hp) (E : XK) : Prop := ∀ d H', Bu p H H' → H' d = some (.xd [(("part" : Str), .str z)]) → E (.ref (He.ga K x)) (some d) H'
/-- rows that hold integers alone, from 1 to 64, the first above 0 -/
def okN (ns : List Int) : Prop := 1 ≤ ns.length ∧ ns.length ≤ 64 ∧ 0 < ns.headD 0
def spPInit (K : PySem.W.Frag) : Sp := sp2 fun a v H Q E => ∃ p dx, a = .ref p ∧ H p = some (.ins (He.ga K "Poly") dx []) ∧
  ((∃ ns : List Int, Sq H v (ns.map V.int) ∧ ns.length ≤ 50000 ∧ (okN ns → ∀ t H', Bu p H H' → H' t = some (.tup (ns.map V.int)) → t ≠ p → H' p = some (.ins (He.ga K "Poly") dx (pf t ((ns.length : Int) - 1))) → Q .non H') ∧
      (¬ (1 ≤ ns.length ∧ ns.length ≤ 64) → RaisedB K "BadPoly" p "numbers" H E) ∧ (1 ≤ ns.length ∧ ns.length ≤ 64 → ¬ 0 < ns.headD 0 → RaisedB K "BadPoly" p "first" H E)) ∨
   (((∃ xs, Sq H v xs ∧ xs.length ≤ 50000 ∧ (∀ x ∈ xs, Kn K H x) ∧ xs.all isI = false) ∨ RowB K H v false) ∧ RaisedB K "BadPoly" p "numbers" H E))
theorem ok_Poly_init {P : Program} {w : World} {K : PySem.W.Frag} {mg : Str → Option Value} {base : Heap} (T : Txt K mg) : ∃ fd, FnOk P w K mg base (L2.CX P w) 3 (He.ma K (He.ga K "Poly") "__init__") fd ["self", "numbers"] (spPInit K) ∧ Binds K fd ["self", "numbers"] [] := by
  obtain ⟨fd, F⟩ := T.d_Poly_init
  obtain ⟨fd_BadPoly_init, F_BadPoly_init, B_BadPoly_init⟩ := ok_BadPoly_init (P := P) (w := w) (base := base) T
  obtain ⟨fd_are_integers, F_are_integers, B_are_integers⟩ := ok_are_integers (P := P) (w := w) (base := base) T
  refine ⟨fd, F.ok sc_Poly_init sp2_len (fun cdv A outer s H vs Q E hr h => ?_), F.bindsN fun _ _ _ _ _ _ us hl => match us, hl with | [_, _], _ => rfl⟩
  have hr_BadPoly_init : Room 2 _ := hr.mono (by decide)
  have hr_are_integers : Room 2 _ := hr.mono (by decide)
  obtain ⟨a, v, rfl, p, dx, rfl, hp, hh⟩ := sp2_is h
  refine ⟨_, (pss_cons (ps_if (PW.pt (pw_or (pt_not (pt_val (pe_call F_are_integers hr_are_integers (by rfl) T.g_are_integers T.k_are_integers B_are_integers .nil passL (pa_cons (pv 1) pa_nil)))) (pw_or1 (pt_not (pt_chain op_le op_le pe_int (pe_callB (kx_lens rfl) (by rfl) T.b_len PySem.boot_len (pa_cons (pv 1) pa_nil)) (pe_gint rfl T.c_MOST_NUMBERS)))))) (pss_one (ps_raise rfl (takes_of rfl rfl rfl rfl) (pmk_oex T.e_BadPoly.o T.e_BadPoly.i T.e_BadPoly.t F_BadPoly_init hr_BadPoly_init B_BadPoly_init .nil passL rfl T.g_BadPoly (pa_cons pe_str pa_nil)))) pss_nil)
      (pss_cons (ps_if (pt_cmpR op_le (pe_ix ix_seq (pv 1) pe_int (fun _ _ => rfl)) pe_int (nomark _)) (pss_one (ps_raise rfl (takes_of rfl rfl rfl rfl) (pmk_oex T.e_BadPoly.o T.e_BadPoly.i T.e_BadPoly.t F_BadPoly_init hr_BadPoly_init B_BadPoly_init .nil passL rfl T.g_BadPoly (pa_cons pe_str pa_nil)))) pss_nil)
      (pss_cons (ps_fld (pv 0) (pe_callTy (kx_tupOf (K := K) rfl) (by rfl) T.b_tuple (by decide +kernel) (pa_cons (pv 1) pa_nil)) rfl)
      (pss_one (ps_fld (pv 0) (pe_op op_sub (pe_callB (kx_lens rfl) (by rfl) T.b_len PySem.boot_len (pa_cons (pv 1) pa_nil)) pe_int) rfl))))), ?_⟩
  walk_at "rd"
  rcases hh with ⟨ns, hs, hl, k1, k2, k3⟩ | ⟨hbad, k⟩
  · refine .inl ⟨_, hs, by simpa using hl, fun x hx => ?_, fun H1 e1 => ?_⟩
    · obtain ⟨i, _, rfl⟩ := List.mem_map.mp hx
      exact .inl ⟨"int", by decide, .int i⟩
    · have all : (ns.map V.int).all isI = true := by rw [List.all_map]; exact List.all_eq_true.mpr fun _ _ => rfl
      rw [all]
      walk_at "rd"
      refine ite_f rfl ?_
      walk_at "rd"
      obtain ⟨b, rfl, hb⟩ := hs.ex e1
      have sq : SqL K H1 b (ns.map V.int) ∨ SqT K H1 b (ns.map V.int) := hb.imp SqL.of SqT.of
      have ix : ∀ {Q' : VK} {i : Int}, ns.head? = some i → Q' (.int i) H1 → rIx K (.ref b) (.int 0) H1 Q' := fun {Q' i} hi q => by
        have e : atI (ns.map V.int) 0 = some (.int i) := atI_nat (j := 0) (by cases ns with | nil => cases hi | cons n r => cases hi; rfl)
        rcases sq with sq | sq
        · exact .inl ⟨b, _, _, _, rfl, rfl, sq, e, q⟩
        · exact .inr (.inl ⟨b, _, _, _, rfl, rfl, sq, e, q⟩)
      refine ⟨b, _, rfl, sq, ?_⟩
      rw [List.length_map]
      walk_at "rd"
      by_cases c1 : 1 ≤ ns.length
      · refine ite_t (decide_eq_true (by omega)) ?_
        walk_at "rd"
        by_cases c2 : ns.length ≤ 64
        · rw [decide_eq_true (show (ns.length : Int) ≤ 64 by omega)]
          refine ite_f rfl ?_
          walk_at "rd"
          obtain ⟨i, hi⟩ : ∃ i, ns.head? = some i := by
            cases ns with
            | nil => simp at c1
            | cons n r => exact ⟨n, rfl⟩
          have hd : ns.headD 0 = i := by rw [List.headD_eq_head?_getD, hi]; rfl
          refine ix hi ?_
          walk_at "rd"
          by_cases c3 : 0 < i
          · refine ite_f (decide_eq_false (by omega)) ?_
            have ok : okN ns := ⟨c1, c2, by rw [hd]; exact c3⟩
            have fin : ∀ (t : Addr) (H2 : Hp), Ex H1 H2 → H2 t = some (.tup (ns.map V.int)) → sFld K (tVar 0) (tC (.ref t)) "numbers" { nx := sFld K (tVar 0) (tOp (rI0 fun i j => .int (i - j)) (tCB (fun xs H Q => ∃ p ys, xs = [V.ref p] ∧ (SqL K H p ys ∨ SqT K H p ys) ∧ Q (V.int ys.length) H) (tCons (tVar 1) tNil)) (tC (.int 1))) "degree" { nx := fun _ H' => Q .non H', rt := Q }, rt := Q } [some (.ref p), some (.ref b)] H2 := by
              intro t H2 e2 ht
              have hp2 := e2 _ _ (e1 _ _ hp)
              have tn : t ≠ p := by rintro rfl; rw [hp2] at ht; cases ht
              have bn : b ≠ p := by
                rintro rfl
                rcases hb with hb | hb <;> rw [e1 _ _ hp] at hb <;> cases hb
              refine ⟨_, rfl, p, _, dx, [], rfl, hp2, T.cl_Poly, T.na_Poly_numbers, by decide, ?_⟩
              walk_at "rd"
              refine ⟨_, rfl, b, ns.map V.int, rfl, ?_, ?_⟩
              · rcases hb with hb | hb
                · exact .inl (SqL.of (by rw [upd_ne bn]; exact e2 _ _ hb))
                · exact .inr (SqT.of (by rw [upd_ne bn]; exact e2 _ _ hb))
              walk_at "rd"
              rw [List.length_map]
              refine ⟨p, _, dx, _, rfl, upd_same, T.cl_Poly, T.na_Poly_degree, (by show 1 < 1000; decide), ?_⟩
              refine k1 ok t _ (((Bu.of (e1.trans e2)).trans Bu.upd).trans Bu.upd) ?_ tn ?_
              · rw [upd_ne tn, upd_ne tn]; exact ht
              · rw [upd_same]
                rfl
            walk_at "rd"
            refine ⟨_, rfl, b, ns.map V.int, rfl, ?_⟩
            rcases hb with hb | hb
            · exact .inl ⟨SqL.of hb, fun l hl => fin l _ (Ex.new hl) upd_same⟩
            · exact .inr ⟨SqT.of hb, fin b _ (Ex.refl _) hb⟩
          · refine ite_t (decide_eq_true (by omega)) (r_err rfl fun d H' e hd => k3 ⟨c1, c2⟩ (by rw [‹ns.headD 0 = i›]; exact c3) d H' (Bu.of (e1.trans e)) hd)
        · rw [decide_eq_false (show ¬ (ns.length : Int) ≤ 64 by omega)]
          exact ite_t rfl (r_err rfl fun d H' e hd => k2 (fun z => c2 z.2) d H' (Bu.of (e1.trans e)) hd)
      · refine ite_f (decide_eq_false (by omega)) ?_
        walk_at "rd"
        exact (ite_t rfl (r_err rfl fun d H' e hd => k2 (fun z => c1 z.1) d H' (Bu.of (e1.trans e)) hd))
  · have no : ∀ H1, Ex H H1 → Raised K "BadPoly" "part" (.str "numbers") H1 E := fun H1 e1 d H' e hd => k d H' (Bu.of (e1.trans e)) hd
    rcases hbad with ⟨xs, hs, hl, hk, hn⟩ | hr
    · refine .inl ⟨xs, hs, hl, hk, fun H1 e1 => ?_⟩
      rw [hn]
      walk_at "rd"
      refine ite_t rfl ?_
      walk_at "rd"
      exact ite_t rfl (r_err rfl (no H1 e1))
    · refine .inr ⟨hr, fun H1 e1 => ?_⟩
      walk_at "rd"
      refine ite_t rfl ?_
      walk_at "rd"
      exact ite_t rfl (r_err rfl (no H1 e1))
theorem bu_ex {p : Addr} {H H0 H' : Hp} (e0 : Ex H H0) (hp : H p = none) (e : Bu p H0 H') : Ex H H' := fun a o h => e a o (ne_of_none h hp) (e0 a o h)
theorem put_own {H : Hp} {x dx : Addr} {o u : HO} (h1 : H x = none) (h2 : H dx = none) : Ex H (upd (upd H dx o) x u) := fun a v h => by
  rw [upd_ne (ne_of_none h h1), upd_ne (ne_of_none h h2)]
  exact h
/-- Poly(ns) -/
theorem r_Poly {K : PySem.W.Frag} {H : Hp} {Q : VK} {E : XK} {v : V} {ns : List Int} (hs : Sq H v (ns.map V.int)) (ok : okN ns) (q : ∀ p H', H p = none → Ex H H' → Pl K H' p ns → Q (.ref p) H') : mkK (He.ga K "Poly") (spPInit K) E Q [v] H := by
  intro x dx hx hd hn
  have e0 : Ex H (upd (upd H dx (.own x)) x (.ins (He.ga K "Poly") dx [])) := put_own hx hd
  refine ⟨x, dx, rfl, upd_same, .inl ⟨ns, hs.ex e0, Nat.le_trans ok.2.1 (by decide), fun _ t H' bu ht tn hi => ⟨rfl, ?_⟩, fun z => absurd ⟨ok.1, ok.2.1⟩ z, fun _ z => absurd ok.2.2 z⟩⟩
  exact q x H' hx (bu_ex e0 hx bu) ⟨ok.1, ok.2.1, ok.2.2, dx, t, hi, ht⟩
/-- a value of a built-in kind, or of another class -/
def No (K : PySem.W.Frag) (C : Str) (H : Hp) (v : V) : Prop := (∃ T ∈ tys, TyOf K H v (.type T)) ∨ ∃ a D dx fs, v = .ref a ∧ D ∈ owns ∧ D ≠ C ∧ H a = some (.ins (He.ga K D) dx fs)
theorem No.ex {K : PySem.W.Frag} {C : Str} {H H' : Hp} {v : V} (h : No K C H v) (e : Ex H H') : No K C H' v := by
  rcases h with ⟨T, hT, h⟩ | ⟨a, D, dx, fs, h1, h2, h3, h4⟩
  · exact .inl ⟨T, hT, TyOf.ex' h fun a _ o q => e a o q⟩
  · exact .inr ⟨a, D, dx, fs, h1, h2, h3, e _ _ h4⟩
/-- isinstance(v, C) is False -/
theorem no_not {K : PySem.W.Frag} {mg : Str → Option Value} {H : Hp} {v : V} {C : Str} (T : Txt K mg) (hC : C ∈ owns) (h : No K C H v) : ∃ t, TyX K H v t ∧ PySem.W.kitOne K t (.ref (He.ga K C)) = some false ∧ PySem.W.notFirst K (He.ga K C) t = true := by
  rcases h with ⟨T1, h1, h2⟩ | ⟨a, D, dx, fs, rfl, hD, ne, ha⟩
  · exact ⟨_, .base h2, ((own_facts T hC).2.ty T1 h1).1, ((own_facts T hC).2.ty T1 h1).2.2⟩
  · rw [List.mem_singleton.mp hC, List.mem_singleton.mp hD] at *
    exact absurd rfl ne
/-! ### rows of integers -/
theorem ints_kn {K : PySem.W.Frag} {H : Hp} {ns : List Int} : ∀ x ∈ ns.map V.int, Kn K H x := fun x hx => by
  obtain ⟨i, _, rfl⟩ := List.mem_map.mp hx
  exact kn_int i
theorem int_at {ns : List Int} {i : Nat} {x : V} (hx : (ns.map V.int)[i]? = some x) : ∃ n, ns[i]? = some n ∧ x = .int n := by
  rw [List.getElem?_map] at hx
  cases q : ns[i]? with
  | none => rw [q] at hx; cases hx
  | some n => rw [q] at hx; exact ⟨n, rfl, (Option.some.inj hx).symm⟩
theorem ints_all (ns : List Int) : (ns.map V.int).all isI = true := by rw [List.all_map]; exact List.all_eq_true.mpr fun _ _ => rfl
/-! ### fields of a Poly -/
section
variable {K : PySem.W.Frag} {mg : Str → Option Value} {H : Hp} {σ : L2.St} {n : Nat} {a : Addr} {ns : List Int} {Q : VK}
theorem r_fn (T : Txt K mg) (h : Pl K H a ns) (q : ∀ t, H t = some (.tup (ns.map V.int)) → Q (.ref t) H) (hs : σ[n]? = some (some (.ref a)) := by rfl) : tFld K (tVar n) "numbers" σ H Q := by
  obtain ⟨_, _, _, dx, t, h, ht⟩ := h
  exact ⟨_, hs, a, _, dx, _, _, rfl, h, T.cl_Poly, T.na_Poly_numbers, rfl, q t ht⟩
theorem r_fd (T : Txt K mg) (h : Pl K H a ns) (q : Q (.int ((ns.length : Int) - 1)) H) (hs : σ[n]? = some (some (.ref a)) := by rfl) : tFld K (tVar n) "degree" σ H Q := by
  obtain ⟨_, _, _, dx, t, h, ht⟩ := h
  exact ⟨_, hs, a, _, dx, _, _, rfl, h, T.cl_Poly, T.na_Poly_degree, rfl, q⟩
end
theorem Pl.inst {K : PySem.W.Frag} {H : Hp} {a : Addr} {ns : List Int} (h : Pl K H a ns) : ∃ dx fs, H a = some (.ins (He.ga K "Poly") dx fs) := let ⟨_, _, _, dx, _, h, _⟩ := h; ⟨dx, _, h⟩
/-! ### == -/
def spPEq (K : PySem.W.Frag) : Sp := sp2 fun v o H Q E => ∃ a ns, v = .ref a ∧ Pl K H a ns ∧ ((∃ b ms, o = .ref b ∧ Pl K H b ms ∧ Q (.bl (decide (ns = ms))) H) ∨ (No K "Poly" H o ∧ Q (.bl false) H))
theorem ok_Poly_eq {P : Program} {w : World} {K : PySem.W.Frag} {mg : Str → Option Value} {base : Heap} (T : Txt K mg) : ∃ fd, FnOk P w K mg base (L2.CX P w) 1 (He.ma K (He.ga K "Poly") "__eq__") fd ["self", "other"] (spPEq K) ∧ Binds K fd ["self", "other"] [] := by
  obtain ⟨fd, F⟩ := T.d_Poly_eq
  refine ⟨fd, F.ok sc_Poly_eq sp2_len (fun cdv A outer s H vs Q E hr h => ?_), F.bindsN fun _ _ _ _ _ _ us hl => match us, hl with | [_, _], _ => rfl⟩
  obtain ⟨v, o, rfl, a, ns, rfl, ha, hh⟩ := sp2_is h
  refine ⟨_, (pss_one (ps_ret (pe_and (pe_callB (cr_isi rfl) (by rfl) T.b_isinstance (by decide +kernel) (pa_cons (pv 1) (pa_cons (pe_glob (v := .ref (He.ga K "Poly")) rfl T.g_Poly rfl) pa_nil))) (pe_one (pe_cmpR (op_eqD hr.units) (kx_fld rfl (pv 0) rfl) (kx_fld rfl (pv 1) rfl) (nomark _)))))), ?_⟩
  walk_at "rd"
  rcases hh with ⟨b, ms, rfl, hb, k⟩ | ⟨hb, k⟩
  · obtain ⟨dx, fs, hi⟩ := hb.inst
    refine ⟨_, _, _, _, true, rfl, .own _, ty_own T (by decide) hi, T.cc_Poly.me, ?_⟩
    walk_at "rd"
    refine ite_t rfl ?_
    walk_at "rd"
    refine r_fn T ha fun t1 h1 => ?_
    refine r_fn T hb fun t2 h2 => ?_
    exact r_eqInts h1 h2 k
  · obtain ⟨t, ht, hk, _⟩ := no_not T (by decide) hb
    refine ⟨_, _, _, _, false, rfl, .own _, ht, hk, ?_⟩
    walk_at "rd"
    exact ite_f rfl k

end K10
namespace K10
open PySem PySem.Spec PyProof.Rows L2 GS TL LamX
local macro_rules | `(tactic| walk_at "rd") => `(tactic| (repeat (first
  | with_reducible refine r_next ?_
  | with_reducible refine r_seq ?_
  | with_reducible refine r_ret ?_
  | with_reducible refine r_ifS ?_
  | with_reducible refine r_asg ?_
  | with_reducible refine r_drop ?_
  | with_reducible refine r_op ?_
  | with_reducible refine r_un ?_
  | with_reducible refine r_cbInt ?_
  | with_reducible refine r_cbAbs ?_
  | with_reducible refine r_cbLen ?_
  | with_reducible refine r_cbList ?_
  | with_reducible refine r_cbTup ?_
  | with_reducible refine r_iEnT ?_
  | with_reducible refine r_iEnL ?_
  | with_reducible refine r_zipA ?_
  | with_reducible refine r_zipX ?_
  | with_reducible refine r_augS ?_
  | with_reducible refine r_cb ?_
  | with_reducible refine r_call ?_
  | with_reducible refine r_make ?_
  | with_reducible refine r_callN0 ?_
  | with_reducible refine r_makeK0 ?_
  | with_reducible refine r_makeS ?_
  | with_reducible refine r_callS ?_
  | with_reducible refine r_cons ?_
  | with_reducible refine r_nil ?_
  | with_reducible refine r_test ?_
  | with_reducible refine r_B ?_
  | with_reducible refine r_and ?_
  | with_reducible refine r_or ?_
  | with_reducible refine r_not ?_
  | with_reducible refine r_andV ?_
  | with_reducible refine r_orV ?_
  | with_reducible refine r_notV ?_
  | with_reducible refine r_if ?_
  | with_reducible refine r_tup ?_
  | with_reducible refine r_lst ?_
  | with_reducible refine r_c ?_
  | with_reducible refine r_lc ?_
  | with_reducible refine r_chain ?_
  | with_reducible refine r_iT ?_
  | with_reducible refine r_iL ?_
  | with_reducible refine r_iR1 ?_
  | with_reducible refine r_iR2 ?_
  | with_reducible refine r_iR3 ?_
  | with_reducible refine r_asgG ?_
  | with_reducible refine r_gSub ?_
  | with_reducible refine r_for ?_
  | with_reducible refine r_smeth ?_
  | with_reducible refine r_par ?_
  | with_reducible refine r_parK ?_
  | with_reducible refine r_gCons ?_
  | with_reducible refine r_gNil ?_
  | with_reducible refine r_gName ?_
  | with_reducible refine r_intI ?_
  | with_reducible refine r_intB ?_
  | with_reducible refine r_absI ?_
  | with_reducible refine r_k ?_
  | with_reducible refine r_kV ?_
  | ((with_reducible show tVar _ _ _ _); refine r_var3 ?_ (by rfl))
  | with_reducible refine r_I0 ?_
  | with_reducible refine r_U ?_
  | with_reducible refine r_eqI ?_
  | with_reducible refine r_neI ?_
  | dsimp only)))
local macro_rules | `(tactic| walk_at "rx") => `(tactic| (repeat (first
  | with_reducible refine r_next ?_
  | with_reducible refine r_ret ?_
  | with_reducible refine r_ifS ?_
  | with_reducible refine r_asg ?_
  | with_reducible refine r_drop ?_
  | with_reducible refine r_op ?_
  | with_reducible refine r_un ?_
  | with_reducible refine r_cbInt ?_
  | with_reducible refine r_cbAbs ?_
  | with_reducible refine r_cbLen ?_
  | with_reducible refine r_cbList ?_
  | with_reducible refine r_cbTup ?_
  | with_reducible refine r_iEnT ?_
  | with_reducible refine r_iEnL ?_
  | with_reducible refine r_zipA ?_
  | with_reducible refine r_zipX ?_
  | with_reducible refine r_augS ?_
  | with_reducible refine r_cb ?_
  | with_reducible refine r_call ?_
  | with_reducible refine r_make ?_
  | with_reducible refine r_callN0 ?_
  | with_reducible refine r_makeK0 ?_
  | with_reducible refine r_makeS ?_
  | with_reducible refine r_callS ?_
  | with_reducible refine r_cons ?_
  | with_reducible refine r_nil ?_
  | with_reducible refine r_test ?_
  | with_reducible refine r_B ?_
  | with_reducible refine r_and ?_
  | with_reducible refine r_or ?_
  | with_reducible refine r_not ?_
  | with_reducible refine r_andV ?_
  | with_reducible refine r_orV ?_
  | with_reducible refine r_notV ?_
  | with_reducible refine r_if ?_
  | with_reducible refine r_tup ?_
  | with_reducible refine r_lst ?_
  | with_reducible refine r_c ?_
  | with_reducible refine r_lc ?_
  | with_reducible refine r_chain ?_
  | with_reducible refine r_iT ?_
  | with_reducible refine r_iL ?_
  | with_reducible refine r_iR1 ?_
  | with_reducible refine r_iR2 ?_
  | with_reducible refine r_iR3 ?_
  | with_reducible refine r_asgG ?_
  | with_reducible refine r_gSub ?_
  | with_reducible refine r_for ?_
  | with_reducible refine r_smeth ?_
  | with_reducible refine r_par ?_
  | with_reducible refine r_parK ?_
  | with_reducible refine r_gCons ?_
  | with_reducible refine r_gNil ?_
  | with_reducible refine r_gName ?_
  | with_reducible refine r_intI ?_
  | with_reducible refine r_intB ?_
  | with_reducible refine r_absI ?_
  | with_reducible refine r_k ?_
  | with_reducible refine r_kV ?_
  | ((with_reducible show tVar _ _ _ _); refine r_var3 ?_ (by rfl))
  | with_reducible refine r_I0 ?_
  | with_reducible refine r_U ?_
  | with_reducible refine r_eqI ?_
  | with_reducible refine r_neI ?_
  | dsimp only)))
/-! ### loops over rows of integers -/
section
variable {K : PySem.W.Frag} {ns : List Int} {a : Addr} {g1 g2 : Nat} {tb : TS} {D : Ends} {σ : L2.St} {H : Hp}
theorem SqT.ints {K : PySem.W.Frag} {H : Hp} {a : Addr} {xs : List V} (h : H a = some (.tup xs)) : SqT K H a xs := SqT.of h
theorem for_enT (Pv : Nat → L2.St → Hp → Prop) (h0 : Pv 0 σ H) (hG : ∀ i σ H, i ≤ ns.length → Pv i σ H → H a = some (.tup (ns.map V.int)))
    (hs : ∀ i n σ H H', ns[i]? = some n → Pv i σ H → Ex H H' → tb { D with nx := Pv (i + 1), ct := Pv (i + 1), bk := D.nx } ((σ.set g1 (some (.int (i : Nat)))).set g2 (some (.int n))) H') (hd : ∀ σ H, Pv ns.length σ H → D.nx σ H) :
    forB (IteT K a) (gTup K 2 (gCons (gName g1) (gCons (gName g2) gNil))) tb D σ H := by
  refine for_of (walk_enumT (xs := ns.map V.int)) Pv h0 (fun i σ H hi p => SqT.of (hG i σ H (by simpa using hi) p)) ?_ (by rw [List.length_map]; exact hd)
  rintro i x σ H H' hi p ⟨T, x1, x2, rfl, hT, rfl, e1, e2⟩
  cases e1
  obtain ⟨n, hn, rfl⟩ := int_at e2
  exact r_gTup upd_same rfl (r_gCons (r_gName (r_gCons (r_gName (r_gNil (hs i n σ H _ hn p (Ex.new hT)))))))
theorem for_enL (Pv : Nat → L2.St → Hp → Prop) (h0 : Pv 0 σ H) (hG : ∀ i σ H, i ≤ ns.length → Pv i σ H → H a = some (.lst (ns.map V.int)))
    (hs : ∀ i n σ H H', ns[i]? = some n → Pv i σ H → Ex H H' → tb { D with nx := Pv (i + 1), ct := Pv (i + 1), bk := D.nx } ((σ.set g1 (some (.int (i : Nat)))).set g2 (some (.int n))) H') (hd : ∀ σ H, Pv ns.length σ H → D.nx σ H) :
    forB (Ite K a) (gTup K 2 (gCons (gName g1) (gCons (gName g2) gNil))) tb D σ H := by
  refine for_of (walk_enum (xs := ns.map V.int)) Pv h0 (fun i σ H hi p => SqL.of (hG i σ H (by simpa using hi) p)) ?_ (by rw [List.length_map]; exact hd)
  rintro i x σ H H' hi p ⟨T, x1, x2, rfl, hT, rfl, e1, e2⟩
  cases e1
  obtain ⟨n, hn, rfl⟩ := int_at e2
  exact r_gTup upd_same rfl (r_gCons (r_gName (r_gCons (r_gName (r_gNil (hs i n σ H _ hn p (Ex.new hT)))))))
theorem for_tI (Pv : Nat → L2.St → Hp → Prop) (h0 : Pv 0 σ H) (hG : ∀ i σ H, i ≤ ns.length → Pv i σ H → H a = some (.tup (ns.map V.int)))
    (hs : ∀ i n σ H, ns[i]? = some n → Pv i σ H → tb { D with nx := Pv (i + 1), ct := Pv (i + 1), bk := D.nx } (σ.set g1 (some (.int n))) H) (hd : ∀ σ H, Pv ns.length σ H → D.nx σ H) :
    forB (Itt K a) (gName g1) tb D σ H := by
  refine for_of (walk_tup (xs := ns.map V.int)) Pv h0 (fun i σ H hi p => SqT.of (hG i σ H (by simpa using hi) p)) ?_ (by rw [List.length_map]; exact hd)
  rintro i x σ H H' hi p ⟨rfl, e2⟩
  obtain ⟨n, hn, rfl⟩ := int_at e2
  exact hs i n σ H' hn p
theorem for_lI (Pv : Nat → L2.St → Hp → Prop) (h0 : Pv 0 σ H) (hG : ∀ i σ H, i ≤ ns.length → Pv i σ H → H a = some (.lst (ns.map V.int)))
    (hs : ∀ i n σ H, ns[i]? = some n → Pv i σ H → tb { D with nx := Pv (i + 1), ct := Pv (i + 1), bk := D.nx } (σ.set g1 (some (.int n))) H) (hd : ∀ σ H, Pv ns.length σ H → D.nx σ H) :
    forB (Itl K a) (gName g1) tb D σ H := by
  refine for_of (walk_list (xs := ns.map V.int)) Pv h0 (fun i σ H hi p => SqL.of (hG i σ H (by simpa using hi) p)) ?_ (by rw [List.length_map]; exact hd)
  rintro i x σ H H' hi p ⟨rfl, e2⟩
  obtain ⟨n, hn, rfl⟩ := int_at e2
  exact hs i n σ H' hn p
theorem r_iEnT {ta : TA} {R : It → Hp → Prop} (q : ta σ H fun vs H1 => ∃ a xs, vs = [.ref a] ∧ SqT K H1 a xs ∧ R (IteT K a) H1) : iEnumT K ta σ H R := q
theorem r_iEnL {ta : TA} {R : It → Hp → Prop} (q : ta σ H fun vs H1 => ∃ a xs, vs = [.ref a] ∧ SqL K H1 a xs ∧ R (Ite K a) H1) : iEnum K ta σ H R := q
theorem r_augS {to ti te : TE} {tget : V → V → Hp → VK → Prop} {tip : TIp} {tset : TSet} (q : to σ H fun o H1 => ti σ H1 fun i H2 => tget o i H2 fun x H3 => te σ H3 fun y H4 => tip x y H4 fun z H5 => tset o i z H5 fun H6 => D.nx σ H6) : tAugS to ti te tget tip tset D σ H := q
end
theorem ixN_nat {n j : Nat} (h : j < n) : ixN n ((j : Nat) : Int) = some j := by
  unfold ixN
  rw [if_pos (Int.natCast_nonneg j), if_pos (by omega), Int.toNat_natCast]
theorem rep_ints (k : Nat) : List.replicate k (V.int 0) = (GM.zr k).map V.int := by simp [GM.zr]
theorem set_ints (l : List Int) (j : Nat) (v : Int) : (l.map V.int).set j (.int v) = (l.set j v).map V.int := by rw [List.map_set]
theorem Bu.ins {K : PySem.W.Frag} {H H' : Hp} {p a : Addr} {ns xs : List Int} (h : Pl K H a ns) (b : Bu p H H') (hp : H p = some (.lst (xs.map V.int))) : Pl K H' a ns := by
  obtain ⟨h1, h2, h3, dx, t, h4, h5⟩ := h
  refine ⟨h1, h2, h3, dx, t, b _ _ ?_ h4, b _ _ ?_ h5⟩
  · rintro rfl; rw [hp] at h4; cases h4
  · rintro rfl; rw [hp] at h5; cases h5
theorem rep_flat (m : Nat) : (List.replicate m [V.int 0]).flatten = List.replicate m (V.int 0) := by
  induction m with
  | zero => rfl
  | succ m ih => rw [List.replicate_succ, List.flatten_cons, ih, List.replicate_succ]; rfl
theorem r_zeros {H : Hp} {Q : VK} {q : Addr} {k : Int} {m : Nat} (h : H q = some (.lst [.int 0])) (hk : k = (m : Nat)) (hm : m ≤ 1000) (g : ∀ p H', H p = none → Ex H H' → H' p = some (.lst ((GM.zr m).map V.int)) → Q (.ref p) H') : rRep (.ref q) (.int k) H Q := by
  subst hk
  refine ⟨q, m, [.int 0], rfl, rfl, h, by omega, by omega, sz_le (by simp; omega), fun p hp => g p _ hp (Ex.new hp) ?_⟩
  rw [upd_same, Int.toNat_natCast, rep_flat, rep_ints]
theorem Pl.bu {K : PySem.W.Frag} {H H' : Hp} {p a : Addr} {ns xs : List Int} (h : Pl K H a ns) (b : Bu p H H') (hp : H p = some (.lst (xs.map V.int))) : Pl K H' a ns := Bu.ins h b hp
theorem Pl.ok {K : PySem.W.Frag} {H : Hp} {a : Addr} {ns : List Int} (h : Pl K H a ns) : okN ns := ⟨h.1, h.2.1, h.2.2.1⟩
/-! ### sums of products -/
def dotL (l r : List Int) : Int := (List.zipWith (· * ·) l r).sum
theorem dot_sm : ∀ (r l : List Int), r.length ≤ l.length → dotL l r = GM.sm r.length (fun i => l.getD i 0 * r.getD i 0)
  | [], l, _ => by simp [dotL, GM.sm]
  | b :: r, [], h => by simp at h
  | b :: r, a :: l, h => by
    have e := dot_sm r l (by simpa using h)
    rw [List.length_cons, GM.sm_cons]
    show a * b + dotL l r = a * b + _
    rw [e]
    rfl
theorem sum_z {n : Nat} : ∀ (l : List Int) (m : Nat), l.length ≤ 2 ^ m → (∀ c ∈ l, Z n c) → Z (n + m) l.sum := by
  have key : ∀ (l : List Int), (∀ c ∈ l, Z n c) → l.sum.natAbs ≤ l.length * 2 ^ n := by
    intro l
    induction l with
    | nil => intro _; simp
    | cons a l ih =>
      intro h
      have h1 : a.natAbs < 2 ^ n := h a (by simp)
      have h2 := ih fun c m => h c (by simp [m])
      rw [List.sum_cons, List.length_cons, Nat.add_mul]
      have := Int.natAbs_add_le a l.sum
      omega
  intro l m hl h
  cases l with
  | nil => show (0 : Int).natAbs < _; exact Nat.pow_pos (by decide)
  | cons a l =>
    have a1 : a.natAbs < 2 ^ n := h a (by simp)
    have k := key l fun c m => h c (by simp [m])
    have : (a + l.sum).natAbs ≤ a.natAbs + l.sum.natAbs := Int.natAbs_add_le _ _
    show (a + l.sum).natAbs < 2 ^ (n + m)
    have e : 2 ^ (n + m) = 2 ^ n * 2 ^ m := Nat.pow_add ..
    have l2 : (l.length + 1) * 2 ^ n ≤ 2 ^ m * 2 ^ n := Nat.mul_le_mul_right _ hl
    rw [Nat.add_mul] at l2
    rw [e, Nat.mul_comm (2 ^ n)]
    omega
def spDot (K : PySem.W.Frag) : Sp := sp2 fun v w H Q _ => ∃ (t1 t2 : Bool) (a b : Addr) (ns ms : List Int), v = .ref a ∧ w = .ref b ∧ SqX K H t1 a (ns.map V.int) ∧ SqX K H t2 b (ms.map V.int) ∧ ns.length ≤ 1000 ∧ (∀ c ∈ ns, Z 20000 c) ∧ (∀ c ∈ ms, Z 20000 c) ∧ ∀ H', Ex H H' → Q (.int (dotL ns ms)) H'
theorem ok_product_sum {P : Program} {w : World} {K : PySem.W.Frag} {mg : Str → Option Value} {base : Heap} (T : Txt K mg) : ∃ fd, FnOk P w K mg base (L2.CX P w) 1 (He.ga K "product_sum") fd ["one", "other"] (spDot K) ∧ Binds K fd ["one", "other"] [] := by
  obtain ⟨fd, F⟩ := T.d_product_sum
  refine ⟨fd, F.ok sc_product_sum sp2_len (fun cdv A outer s H vs Q E hr h => ?_), F.bindsN fun _ _ _ _ _ _ us hl => match us, hl with | [_, _], _ => rfl⟩
  obtain ⟨v, w', rfl, t1, t2, a, b, ns, ms, rfl, rfl, ha, hb, hl, z1, z2, k⟩ := sp2_is h
  refine ⟨_, (pss_one (ps_ret (pe_callB (kx_sum (K := K) rfl rfl) (by rfl) T.b_sum (by decide +kernel) (pa_cons (pe_lc (own := [("mine", 2), ("its", 3)]) (g := gTup K 2 (gCons (gName 2) (gCons (gName 3) (gNil)))) (tt := tYes)  rfl sc_product_sum.nd (pi_zipX (by rfl) T.b_zip (pa_cons (pv 0) (pa_cons (pv 1) pa_nil))) (blkOk_by (own := [("mine", 2), ("its", 3)]) (N := ["one", "other", "mine", "its"]) (sc := defScope s_product_sum) (by decide +kernel)) (fun _ _ _ _ _ => (pg_tup rfl (pgs_cons (pg_name (i := 2) sc_product_sum.nd rfl (Or.inl rfl)) (pgs_cons (pg_name (i := 3) sc_product_sum.nd rfl (Or.inl rfl)) pgs_nil)))) (fun _ _ _ _ _ => pts_nil) (fun _ _ _ _ _ => (pe_op op_mulW (pv 2) (pv 3)))) pa_nil)))), ?_⟩
  walk_at "rd"
  refine ⟨t1, t2, a, b, ns.map V.int, ms.map V.int, rfl, ha, hb, ?_⟩
  refine r_lcZ (n := min ns.length ms.length) (walk_zipX (xs := ns.map V.int) (ys := ms.map V.int) (by simp)) (List.zipWith (· * ·) ns ms) (by simp) (by omega) (fun H' e => ⟨sqX_ex e ha, sqX_ex e hb⟩) ?_ ?_
  · rintro i x H1 H2 hi e1 ⟨T0, x1, x2, rfl, hT, rfl, g1, g2⟩ N hN
    obtain ⟨n1, hn1, rfl⟩ := int_at g1
    obtain ⟨n2, hn2, rfl⟩ := int_at g2
    refine r_gTup upd_same rfl (r_gCons (r_gName (r_gCons (r_gName (r_gNil ⟨rfl, ?_⟩)))))
    walk_at "rd"
    refine r_I (mulOk (z1 n1 (List.mem_of_getElem? hn1)) (z2 n2 (List.mem_of_getElem? hn2)) (by decide) (by decide) (by decide)) ?_
    have e : (List.zipWith (· * ·) ns ms).getD i 0 = n1 * n2 := by
      rw [List.getD_eq_getElem?_getD, List.getElem?_zipWith, hn1, hn2]
      rfl
    rw [← e]
    exact hN _ (Ex.new hT)
  · intro D H1 hD e1 hl1
    exact ⟨D, _, rfl, SqL.of hl1, k H1 e1⟩

end K10
namespace K10
open PySem PySem.Spec PyProof.Rows L2 GS TL LamX
local macro_rules | `(tactic| walk_at "rd") => `(tactic| (repeat (first
  | with_reducible refine r_next ?_
  | with_reducible refine r_seq ?_
  | with_reducible refine r_ret ?_
  | with_reducible refine r_ifS ?_
  | with_reducible refine r_asg ?_
  | with_reducible refine r_drop ?_
  | with_reducible refine r_op ?_
  | with_reducible refine r_un ?_
  | with_reducible refine r_cbInt ?_
  | with_reducible refine r_cbAbs ?_
  | with_reducible refine r_cbLen ?_
  | with_reducible refine r_cbList ?_
  | with_reducible refine r_cbTup ?_
  | with_reducible refine r_iEnT ?_
  | with_reducible refine r_iEnL ?_
  | with_reducible refine r_zipA ?_
  | with_reducible refine r_zipX ?_
  | with_reducible refine r_augS ?_
  | with_reducible refine r_cb ?_
  | with_reducible refine r_call ?_
  | with_reducible refine r_make ?_
  | with_reducible refine r_callN0 ?_
  | with_reducible refine r_makeK0 ?_
  | with_reducible refine r_makeS ?_
  | with_reducible refine r_callS ?_
  | with_reducible refine r_cons ?_
  | with_reducible refine r_nil ?_
  | with_reducible refine r_test ?_
  | with_reducible refine r_B ?_
  | with_reducible refine r_and ?_
  | with_reducible refine r_or ?_
  | with_reducible refine r_not ?_
  | with_reducible refine r_andV ?_
  | with_reducible refine r_orV ?_
  | with_reducible refine r_notV ?_
  | with_reducible refine r_if ?_
  | with_reducible refine r_tup ?_
  | with_reducible refine r_lst ?_
  | with_reducible refine r_c ?_
  | with_reducible refine r_lc ?_
  | with_reducible refine r_chain ?_
  | with_reducible refine r_iT ?_
  | with_reducible refine r_iL ?_
  | with_reducible refine r_iR1 ?_
  | with_reducible refine r_iR2 ?_
  | with_reducible refine r_iR3 ?_
  | with_reducible refine r_asgG ?_
  | with_reducible refine r_gSub ?_
  | with_reducible refine r_for ?_
  | with_reducible refine r_smeth ?_
  | with_reducible refine r_par ?_
  | with_reducible refine r_parK ?_
  | with_reducible refine r_gCons ?_
  | with_reducible refine r_gNil ?_
  | with_reducible refine r_gName ?_
  | with_reducible refine r_intI ?_
  | with_reducible refine r_intB ?_
  | with_reducible refine r_absI ?_
  | with_reducible refine r_k ?_
  | with_reducible refine r_kV ?_
  | ((with_reducible show tVar _ _ _ _); refine r_var3 ?_ (by rfl))
  | with_reducible refine r_I0 ?_
  | with_reducible refine r_U ?_
  | with_reducible refine r_eqI ?_
  | with_reducible refine r_neI ?_
  | dsimp only)))
local macro_rules | `(tactic| walk_at "rx") => `(tactic| (repeat (first
  | with_reducible refine r_next ?_
  | with_reducible refine r_ret ?_
  | with_reducible refine r_ifS ?_
  | with_reducible refine r_asg ?_
  | with_reducible refine r_drop ?_
  | with_reducible refine r_op ?_
  | with_reducible refine r_un ?_
  | with_reducible refine r_cbInt ?_
  | with_reducible refine r_cbAbs ?_
  | with_reducible refine r_cbLen ?_
  | with_reducible refine r_cbList ?_
  | with_reducible refine r_cbTup ?_
  | with_reducible refine r_iEnT ?_
  | with_reducible refine r_iEnL ?_
  | with_reducible refine r_zipA ?_
  | with_reducible refine r_zipX ?_
  | with_reducible refine r_augS ?_
  | with_reducible refine r_cb ?_
  | with_reducible refine r_call ?_
  | with_reducible refine r_make ?_
  | with_reducible refine r_callN0 ?_
  | with_reducible refine r_makeK0 ?_
  | with_reducible refine r_makeS ?_
  | with_reducible refine r_callS ?_
  | with_reducible refine r_cons ?_
  | with_reducible refine r_nil ?_
  | with_reducible refine r_test ?_
  | with_reducible refine r_B ?_
  | with_reducible refine r_and ?_
  | with_reducible refine r_or ?_
  | with_reducible refine r_not ?_
  | with_reducible refine r_andV ?_
  | with_reducible refine r_orV ?_
  | with_reducible refine r_notV ?_
  | with_reducible refine r_if ?_
  | with_reducible refine r_tup ?_
  | with_reducible refine r_lst ?_
  | with_reducible refine r_c ?_
  | with_reducible refine r_lc ?_
  | with_reducible refine r_chain ?_
  | with_reducible refine r_iT ?_
  | with_reducible refine r_iL ?_
  | with_reducible refine r_iR1 ?_
  | with_reducible refine r_iR2 ?_
  | with_reducible refine r_iR3 ?_
  | with_reducible refine r_asgG ?_
  | with_reducible refine r_gSub ?_
  | with_reducible refine r_for ?_
  | with_reducible refine r_smeth ?_
  | with_reducible refine r_par ?_
  | with_reducible refine r_parK ?_
  | with_reducible refine r_gCons ?_
  | with_reducible refine r_gNil ?_
  | with_reducible refine r_gName ?_
  | with_reducible refine r_intI ?_
  | with_reducible refine r_intB ?_
  | with_reducible refine r_absI ?_
  | with_reducible refine r_k ?_
  | with_reducible refine r_kV ?_
  | ((with_reducible show tVar _ _ _ _); refine r_var3 ?_ (by rfl))
  | with_reducible refine r_I0 ?_
  | with_reducible refine r_U ?_
  | with_reducible refine r_eqI ?_
  | with_reducible refine r_neI ?_
  | dsimp only)))
/-! ### lists of rows -/
def LA (H : Hp) (ts : List Addr) (rs : List (List Int)) : Prop := ts.length = rs.length ∧ ∀ (j : Nat) (t : Addr) (r : List Int), ts[j]? = some t → rs[j]? = some r → H t = some (.lst (r.map V.int))
theorem LA.ex {H H' : Hp} {ts : List Addr} {rs : List (List Int)} (h : LA H ts rs) (e : Ex H H') : LA H' ts rs := ⟨h.1, fun j t r h1 h2 => e _ _ (h.2 j t r h1 h2)⟩
theorem ref_at {ts : List Addr} {i : Nat} {x : V} (hx : (ts.map V.ref)[i]? = some x) : ∃ t, ts[i]? = some t ∧ x = .ref t := by
  rw [List.getElem?_map] at hx
  cases q : ts[i]? with
  | none => rw [q] at hx; cases hx
  | some n => rw [q] at hx; exact ⟨n, rfl, (Option.some.inj hx).symm⟩
theorem LA.nil {H : Hp} : LA H [] [] := ⟨rfl, fun j t r h => by simp at h⟩
theorem LA.at {H : Hp} {ts : List Addr} {rs : List (List Int)} (h : LA H ts rs) {j : Nat} {t : Addr} (ht : ts[j]? = some t) : ∃ r, rs[j]? = some r ∧ H t = some (.lst (r.map V.int)) := by
  have hj : j < rs.length := by rw [← h.1]; exact (List.getElem?_eq_some_iff.mp ht).1
  exact ⟨rs[j], by simp [hj], h.2 j t _ ht (by simp [hj])⟩
theorem LA.col {H : Hp} {ts : List Addr} {rs : List (List Int)} (h : LA H ts rs) {j : Nat} {r : List Int} (hr : rs[j]? = some r) : ∃ t, ts[j]? = some t ∧ H t = some (.lst (r.map V.int)) := by
  have hj : j < ts.length := by rw [h.1]; exact (List.getElem?_eq_some_iff.mp hr).1
  exact ⟨ts[j], by simp [hj], h.2 j _ r (by simp [hj]) hr⟩
theorem LA.cons {H : Hp} {t : Addr} {ts : List Addr} {r : List Int} {rs : List (List Int)} (h : H t = some (.lst (r.map V.int))) (g : LA H ts rs) : LA H (t :: ts) (r :: rs) := by
  refine ⟨by simp [g.1], fun j t' r' h1 h2 => ?_⟩
  cases j with
  | zero => cases h1; cases h2; exact h
  | succ j => exact g.2 j t' r' (by simpa using h1) (by simpa using h2)
theorem LA.app {H : Hp} {ts us : List Addr} {rs qs : List (List Int)} (h : LA H ts rs) (g : LA H us qs) : LA H (ts ++ us) (rs ++ qs) := by
  refine ⟨by simp [h.1, g.1], fun j t r h1 h2 => ?_⟩
  rcases Nat.lt_or_ge j ts.length with c | c
  · rw [List.getElem?_append_left c] at h1
    rw [List.getElem?_append_left (by rw [← h.1]; exact c)] at h2
    exact h.2 j t r h1 h2
  · rw [List.getElem?_append_right c] at h1
    rw [List.getElem?_append_right (by rw [← h.1]; exact c), ← h.1] at h2
    exact g.2 _ t r h1 h2
theorem LA.take {H : Hp} {ts : List Addr} {rs : List (List Int)} (h : LA H ts rs) (n : Nat) : LA H (ts.take n) (rs.take n) := by
  refine ⟨by simp [h.1], fun j t r h1 h2 => ?_⟩
  rw [List.getElem?_take] at h1 h2
  split at h1
  · rename_i c
    rw [if_pos c] at h2
    exact h.2 j t r h1 h2
  · cases h1
theorem LA.upd {H : Hp} {q : Addr} {o : HO} {ts : List Addr} {rs : List (List Int)} (h : LA H ts rs) (n : q ∉ ts) : LA (upd H q o) ts rs := ⟨h.1, fun j t r h1 h2 => by rw [upd_ne (fun z => n (by rw [← z]; exact List.mem_of_getElem? h1))]; exact h.2 j t r h1 h2⟩
theorem la_rows {H : Hp} {ts : List Addr} {n : Nat} {f : Nat → List Int} (hl : ts.length = n) (h : ∀ (j : Nat) (t : Addr), ts[j]? = some t → H t = some (.lst ((f j).map V.int))) : LA H ts ((List.range n).map f) := by
  refine ⟨by simp [hl], fun j t r ht hr => ?_⟩
  have hj : j < n := by rw [← hl]; exact (List.getElem?_eq_some_iff.mp ht).1
  simp [hj] at hr
  rw [h j t ht, hr]
def LL (H : Hp) (v : V) (rs : List (List Int)) : Prop := ∃ (p : Addr) (cs : List Addr), v = .ref p ∧ H p = some (.lst (cs.map V.ref)) ∧ LA H cs rs
/-- a row that is a list or a tuple -/
def IL (H : Hp) (t : Addr) (r : List Int) : Prop := H t = some (.lst (r.map V.int)) ∨ H t = some (.tup (r.map V.int))
theorem IL.ex {H H' : Hp} {t : Addr} {r : List Int} (h : IL H t r) (e : Ex H H') : IL H' t r := h.elim (fun z => .inl (e _ _ z)) fun z => .inr (e _ _ z)
theorem IL.sq {K : PySem.W.Frag} {H : Hp} {t : Addr} {r : List Int} (h : IL H t r) : ∃ b, SqX K H b t (r.map V.int) := h.elim (fun z => ⟨false, SqL.of z⟩) fun z => ⟨true, SqT.of z⟩
theorem IL.upd {H : Hp} {q : Addr} {o : HO} {t : Addr} {r : List Int} (h : IL H t r) (n : t ≠ q) : IL (upd H q o) t r := by
  unfold IL
  rw [upd_ne n]
  exact h
theorem IL.ne {H : Hp} {t : Addr} {r : List Int} (h : IL H t r) (z : H t = none) : False := by
  rcases h with h | h <;> rw [z] at h <;> cases h
/-- rows that are lists or tuples -/
def RA (H : Hp) (ts : List Addr) (rs : List (List Int)) : Prop := ts.length = rs.length ∧ ∀ (j : Nat) (t : Addr) (r : List Int), ts[j]? = some t → rs[j]? = some r → IL H t r
theorem LA.ra {H : Hp} {ts : List Addr} {rs : List (List Int)} (h : LA H ts rs) : RA H ts rs := ⟨h.1, fun j t r h1 h2 => .inl (h.2 j t r h1 h2)⟩
theorem RA.ex {H H' : Hp} {ts : List Addr} {rs : List (List Int)} (h : RA H ts rs) (e : Ex H H') : RA H' ts rs := ⟨h.1, fun j t r h1 h2 => (h.2 j t r h1 h2).ex e⟩
theorem RA.nil {H : Hp} : RA H [] [] := ⟨rfl, fun j t r h => by simp at h⟩
theorem RA.at {H : Hp} {ts : List Addr} {rs : List (List Int)} (h : RA H ts rs) {j : Nat} {t : Addr} (ht : ts[j]? = some t) : ∃ r, rs[j]? = some r ∧ IL H t r := by
  have hj : j < rs.length := by rw [← h.1]; exact (List.getElem?_eq_some_iff.mp ht).1
  exact ⟨rs[j], by simp [hj], h.2 j t _ ht (by simp [hj])⟩
theorem RA.col {H : Hp} {ts : List Addr} {rs : List (List Int)} (h : RA H ts rs) {j : Nat} {r : List Int} (hr : rs[j]? = some r) : ∃ t, ts[j]? = some t ∧ IL H t r := by
  have hj : j < ts.length := by rw [h.1]; exact (List.getElem?_eq_some_iff.mp hr).1
  exact ⟨ts[j], by simp [hj], h.2 j _ r (by simp [hj]) hr⟩
theorem RA.cons {H : Hp} {t : Addr} {ts : List Addr} {r : List Int} {rs : List (List Int)} (h : IL H t r) (g : RA H ts rs) : RA H (t :: ts) (r :: rs) := by
  refine ⟨by simp [g.1], fun j t' r' h1 h2 => ?_⟩
  cases j with
  | zero => cases h1; cases h2; exact h
  | succ j => exact g.2 j t' r' (by simpa using h1) (by simpa using h2)
theorem RA.app {H : Hp} {ts us : List Addr} {rs qs : List (List Int)} (h : RA H ts rs) (g : RA H us qs) : RA H (ts ++ us) (rs ++ qs) := by
  refine ⟨by simp [h.1, g.1], fun j t r h1 h2 => ?_⟩
  rcases Nat.lt_or_ge j ts.length with c | c
  · rw [List.getElem?_append_left c] at h1
    rw [List.getElem?_append_left (by rw [← h.1]; exact c)] at h2
    exact h.2 j t r h1 h2
  · rw [List.getElem?_append_right c] at h1
    rw [List.getElem?_append_right (by rw [← h.1]; exact c), ← h.1] at h2
    exact g.2 _ t r h1 h2
theorem RA.take {H : Hp} {ts : List Addr} {rs : List (List Int)} (h : RA H ts rs) (n : Nat) : RA H (ts.take n) (rs.take n) := by
  refine ⟨by simp [h.1], fun j t r h1 h2 => ?_⟩
  rw [List.getElem?_take] at h1 h2
  split at h1
  · rename_i c
    rw [if_pos c] at h2
    exact h.2 j t r h1 h2
  · cases h1
theorem RA.upd {H : Hp} {q : Addr} {o : HO} {ts : List Addr} {rs : List (List Int)} (h : RA H ts rs) (n : q ∉ ts) : RA (upd H q o) ts rs := ⟨h.1, fun j t r h1 h2 => (h.2 j t r h1 h2).upd (fun z => n (by rw [← z]; exact List.mem_of_getElem? h1))⟩
def RL (H : Hp) (v : V) (rs : List (List Int)) : Prop := ∃ (p : Addr) (cs : List Addr), v = .ref p ∧ H p = some (.lst (cs.map V.ref)) ∧ RA H cs rs
theorem ix_row {K : PySem.W.Frag} {H : Hp} {Q : VK} {t : Addr} {r : List Int} {j : Nat} {c : Int} {v : V} (h : IL H t r) (e : v = .int (j : Int)) (hc : r[j]? = some c) (q : Q (.int c) H) : rIx K (.ref t) v H Q := by
  subst e
  rcases h with h | h
  · exact .inl (r_ixL h (v := .int c) (atI_nat (by rw [List.getElem?_map, hc]; rfl)) q)
  · exact .inr (.inl (r_ixT h (v := .int c) (atI_nat (by rw [List.getElem?_map, hc]; rfl)) q))
theorem r_app {H : Hp} {Q : VK} {l : Addr} {xs : List V} {y : V} (h : H l = some (.lst xs)) (hl : xs.length < 50000) (q : Q .non (upd H l (.lst (xs ++ [y])))) : rAppend (.ref l) [y] H Q := ⟨l, xs, y, rfl, rfl, h, sz_lt (by omega), q⟩
theorem r_bm {K : PySem.W.Frag} {T : String} {r : V → List V → Hp → VK → Prop} {to : TE} {t : TA} {σ : L2.St} {H : Hp} {Q : VK} (q : to σ H fun x H1 => tyV K T x H1 ∧ t σ H1 fun xs H2 => r x xs H2 Q) : tBM K T r to t σ H Q := q
theorem tyL {K : PySem.W.Frag} {H : Hp} {p : Addr} {xs : List V} (h : H p = some (.lst xs)) : tyV K "list" (.ref p) H := .inl ⟨rfl, _, SqL.of h⟩
theorem r_slL {K : PySem.W.Frag} {H : Hp} {Q : VK} {L : Addr} {xs zs : List V} {lo hi : Option Int} (h : H L = some (.lst xs)) (e : cutV xs lo hi = zs) (q : ∀ p H', H p = none → Ex H H' → H' p = some (.lst zs) → Q (.ref p) H') : rSlL K (.ref L) lo hi H Q :=
  ⟨L, xs, rfl, SqL.of h, fun p hp => q p _ hp (Ex.new hp) (by rw [upd_same, e])⟩
theorem cut_tk {α : Type} (f : α → V) (ys : List α) (k : Nat) : cutV (ys.map f) none (some (k : Int)) = (ys.take k).map f := by
  unfold cutV
  rw [HT.sIx_none, HT.sIx_nat, List.drop_zero, List.length_map, Nat.sub_zero, List.map_take]
  by_cases c : k ≤ ys.length
  · rw [Nat.min_eq_left c]
  · rw [Nat.min_eq_right (by omega), List.take_of_length_le (by simp), List.take_of_length_le (by simp; omega)]
theorem range_map (xs : List Int) : ((List.range xs.length).map fun j => V.int (xs.getD j 0)) = xs.map V.int := by
  refine List.ext_getElem (by simp) fun i h1 h2 => ?_
  simp at h1
  simp [h1]
theorem dot_z {n m : Nat} {l r : List Int} (hl : l.length ≤ 1000) (h1 : ∀ c ∈ l, Z n c) (h2 : ∀ c ∈ r, Z m c) : Z (n + m + 10) (dotL l r) := by
  refine sum_z _ 10 (by rw [List.length_zipWith]; omega) fun c hc => ?_
  obtain ⟨i, hi⟩ := List.getElem?_of_mem hc
  rw [List.getElem?_zipWith] at hi
  cases q1 : l[i]? with
  | none => rw [q1] at hi; cases hi
  | some a =>
    cases q2 : r[i]? with
    | none => rw [q1, q2] at hi; cases hi
    | some b =>
      rw [q1, q2] at hi
      cases hi
      exact (h1 a (List.mem_of_getElem? q1)).mul (h2 b (List.mem_of_getElem? q2))
/-! ### tables -/
def ttL (rs : List (List Int)) (row : List Int) : List Int := rs.map fun r => dotL r row
def en (rs : List (List Int)) (i j : Nat) : Int := (rs.getD i []).getD j 0
def pw (rs : List (List Int)) (n : Nat) : Nat → List Int
  | 0 => (rs.getD n []).take n
  | j + 1 => ttL (rs.take n) (pw rs n j)
def rowF (rs : List (List Int)) (n : Nat) : List Int := 1 :: (-(en rs n n)) :: (List.range n).map fun k => -(dotL (pw rs n (k / 2)) (pw rs n ((k + 1) / 2)))
def tn (rs : List (List Int)) : Nat → List Int
  | 0 => [1]
  | n + 1 => (List.range (n + 2)).map fun a => dotL (tn rs n) ((rowF rs n).take (a + 1)).reverse
def OL (b : Bool) (H : Hp) (p : Addr) (cs : List V) : Prop := if b then H p = some (.tup cs) else H p = some (.lst cs)
theorem OL.ex {b : Bool} {H H' : Hp} {p : Addr} {cs : List V} (h : OL b H p cs) (e : Ex H H') : OL b H' p cs := by
  cases b
  · exact e _ _ h
  · exact e _ _ h
theorem OL.sq {K : PySem.W.Frag} {b : Bool} {H : Hp} {p : Addr} {cs : List V} (h : OL b H p cs) : SqX K H b p cs := by
  cases b
  · exact SqL.of h
  · exact SqT.of h
theorem OL.seq {b : Bool} {H : Hp} {p : Addr} {cs : List V} (h : OL b H p cs) : Sq H (.ref p) cs := by
  cases b
  · exact ⟨p, rfl, .inl h⟩
  · exact ⟨p, rfl, .inr h⟩
/-- a table of 24 rows at most -/
structure Tab (rs : List (List Int)) (d : Nat) : Prop where
  len : rs.length = d
  d1 : 1 ≤ d
  d3 : d ≤ 24
  row : ∀ r ∈ rs, r.length = d
  sym : ∀ i j, i < d → j < d → en rs i j = en rs j i
  z : ∀ r ∈ rs, ∀ c ∈ r, Z 201 c
theorem pw_z {rs : List (List Int)} {d n : Nat} (t : Tab rs d) : ∀ j, ∀ c ∈ pw rs n j, Z (201 + 211 * j) c
  | 0, c, hc => by
    have := List.mem_of_mem_take hc
    rw [List.getD_eq_getElem?_getD] at this
    cases q : rs[n]? with
    | none => rw [q] at this; cases this
    | some r => rw [q] at this; exact t.z r (List.mem_of_getElem? q) c this
  | j + 1, c, hc => by
    obtain ⟨r, hr, rfl⟩ := List.mem_map.mp hc
    have hr' := List.mem_of_mem_take hr
    have lr := t.row r hr'
    have := t.d3
    exact (dot_z (by omega) (t.z r hr') (pw_z t j)).mono (by omega)
theorem pw_len {rs : List (List Int)} {d n : Nat} (t : Tab rs d) (hn : n < d) : ∀ j, (pw rs n j).length = n
  | 0 => by
    have hlt : n < rs.length := by rw [t.len]; exact hn
    have := t.row rs[n] (List.getElem_mem hlt)
    simp [pw, List.getD_eq_getElem?_getD, List.getElem?_eq_getElem hlt, this]
    omega
  | j + 1 => by
    simp [pw, ttL, t.len]
    omega
def spTT (K : PySem.W.Frag) : Sp := sp2 fun v w H Q _ => ∃ (b0 : Bool) (p : Addr) (cs : List Addr) (rs : List (List Int)) (b : Addr) (row : List Int), v = .ref p ∧ OL b0 H p (cs.map V.ref) ∧ RA H cs rs ∧ w = .ref b ∧ IL H b row ∧ rs.length ≤ 100 ∧ (∀ r ∈ rs, r.length ≤ 100) ∧ (∀ r ∈ rs, ∀ c ∈ r, Z 20000 c) ∧ (∀ c ∈ row, Z 20000 c) ∧ ∀ p H', H p = none → Ex H H' → H' p = some (.lst ((ttL rs row).map V.int)) → Q (.ref p) H'
theorem ok_table_times {P : Program} {w : World} {K : PySem.W.Frag} {mg : Str → Option Value} {base : Heap} (T : Txt K mg) : ∃ fd, FnOk P w K mg base (L2.CX P w) 2 (He.ga K "table_times") fd ["table", "row"] (spTT K) ∧ Binds K fd ["table", "row"] [] := by
  obtain ⟨fd, F⟩ := T.d_table_times
  obtain ⟨fd_product_sum, F_product_sum, B_product_sum⟩ := ok_product_sum (P := P) (w := w) (base := base) T
  refine ⟨fd, F.ok sc_table_times sp2_len (fun cdv A outer s H vs Q E hr h => ?_), F.bindsN fun _ _ _ _ _ _ us hl => match us, hl with | [_, _], _ => rfl⟩
  have hr_product_sum : Room 1 _ := hr.mono (by decide)
  obtain ⟨v, w', rfl, b0, p, cs, rs, b, row, rfl, hp, hla, rfl, hb, hl, hr, z1, z2, k⟩ := sp2_is h
  refine ⟨_, (pss_one (ps_ret (pe_lc (own := [("each", 2)]) (g := gName 2) (tt := tYes)  rfl sc_table_times.nd (pi_seq (pv 0)) (blkOk_by (own := [("each", 2)]) (N := ["table", "row", "each"]) (sc := defScope s_table_times) (by decide +kernel)) (fun _ _ _ _ _ => (pg_name (i := 2) sc_table_times.nd rfl (Or.inl rfl))) (fun _ _ _ _ _ => pts_nil) (fun _ _ _ _ _ => (pe_call F_product_sum hr_product_sum (by rfl) T.g_product_sum T.k_product_sum B_product_sum .nil passL (pa_cons (pv 2) (pa_cons (pv 1) pa_nil))))))), ?_⟩
  walk_at "rd"
  have go : ∀ {J : It} {G : Hp → Prop}, Walk J cs.length G (YAt (cs.map V.ref)) → (∀ H', Ex H H' → G H') → lcB J (gName 2) tYes (tCall (spDot K) [] E0 (tCons (tVar 2) (tCons (tVar 1) tNil))) [2] [some (.ref p), some (.ref b), none] Q H := by
    intro J G wk hG
    refine r_lcM (n := cs.length) (k := 2) wk (fun i => .int ((ttL rs row).getD i 0)) (by have := hla.1; omega) hG (fun _ => rfl) ?_ ?_
    · rintro i y H2 H3 hi e2 ⟨rfl, hy⟩
      refine ⟨Ex.refl _, fun H4 e4 R kR => ?_⟩
      obtain ⟨t, ht, rfl⟩ := ref_at hy
      obtain ⟨r, hr', hrow⟩ := (hla.ex (e2.trans e4)).at ht
      have mr := List.mem_of_getElem? hr'
      walk_at "rd"
      have e : (ttL rs row).getD i 0 = dotL r row := by rw [List.getD_eq_getElem?_getD, ttL, List.getElem?_map, hr']; rfl
      rw [e] at kR
      obtain ⟨b1, s1⟩ := hrow.sq
      obtain ⟨b2, s2⟩ := (hb.ex (e2.trans e4)).sq
      exact ⟨b1, b2, t, b, r, row, rfl, rfl, s1, s2, by have := hr r mr; omega, z1 r mr, z2, fun H5 e5 => kR H5 e5⟩
    · intro D H2 hD e2 h2
      have e := range_map (ttL rs row)
      rw [show (ttL rs row).length = cs.length by simp [ttL, hla.1]] at e
      refine k D H2 hD e2 ?_
      rw [h2, e]
  refine ⟨_, rfl, p, rfl, ?_⟩
  cases b0 with
  | false => exact .inl ⟨⟨_, SqL.of hp⟩, go (by simpa using walk_list (xs := cs.map V.ref)) fun H' e => SqL.of (e _ _ hp)⟩
  | true => exact .inr ⟨⟨_, SqT.of hp⟩, go (by simpa using walk_tup (xs := cs.map V.ref)) fun H' e => SqT.of (e _ _ hp)⟩

end K10
namespace K10
open PySem PySem.Spec PyProof.Rows L2 GS TL LamX
local macro_rules | `(tactic| walk_at "rd") => `(tactic| (repeat (first
  | with_reducible refine r_next ?_
  | with_reducible refine r_seq ?_
  | with_reducible refine r_ret ?_
  | with_reducible refine r_ifS ?_
  | with_reducible refine r_asg ?_
  | with_reducible refine r_drop ?_
  | with_reducible refine r_op ?_
  | with_reducible refine r_un ?_
  | with_reducible refine r_cbInt ?_
  | with_reducible refine r_cbAbs ?_
  | with_reducible refine r_cbLen ?_
  | with_reducible refine r_cbList ?_
  | with_reducible refine r_cbTup ?_
  | with_reducible refine r_iEnT ?_
  | with_reducible refine r_iEnL ?_
  | with_reducible refine r_zipA ?_
  | with_reducible refine r_zipX ?_
  | with_reducible refine r_augS ?_
  | with_reducible refine r_cb ?_
  | with_reducible refine r_call ?_
  | with_reducible refine r_make ?_
  | with_reducible refine r_callN0 ?_
  | with_reducible refine r_makeK0 ?_
  | with_reducible refine r_makeS ?_
  | with_reducible refine r_callS ?_
  | with_reducible refine r_cons ?_
  | with_reducible refine r_nil ?_
  | with_reducible refine r_test ?_
  | with_reducible refine r_B ?_
  | with_reducible refine r_and ?_
  | with_reducible refine r_or ?_
  | with_reducible refine r_not ?_
  | with_reducible refine r_andV ?_
  | with_reducible refine r_orV ?_
  | with_reducible refine r_notV ?_
  | with_reducible refine r_if ?_
  | with_reducible refine r_tup ?_
  | with_reducible refine r_lst ?_
  | with_reducible refine r_c ?_
  | with_reducible refine r_lc ?_
  | with_reducible refine r_chain ?_
  | with_reducible refine r_iT ?_
  | with_reducible refine r_iL ?_
  | with_reducible refine r_iR1 ?_
  | with_reducible refine r_iR2 ?_
  | with_reducible refine r_iR3 ?_
  | with_reducible refine r_asgG ?_
  | with_reducible refine r_gSub ?_
  | with_reducible refine r_for ?_
  | with_reducible refine r_smeth ?_
  | with_reducible refine r_par ?_
  | with_reducible refine r_parK ?_
  | with_reducible refine r_gCons ?_
  | with_reducible refine r_gNil ?_
  | with_reducible refine r_gName ?_
  | with_reducible refine r_intI ?_
  | with_reducible refine r_intB ?_
  | with_reducible refine r_absI ?_
  | with_reducible refine r_k ?_
  | with_reducible refine r_kV ?_
  | ((with_reducible show tVar _ _ _ _); refine r_var3 ?_ (by rfl))
  | with_reducible refine r_I0 ?_
  | with_reducible refine r_U ?_
  | with_reducible refine r_eqI ?_
  | with_reducible refine r_neI ?_
  | dsimp only)))
local macro_rules | `(tactic| walk_at "rx") => `(tactic| (repeat (first
  | with_reducible refine r_next ?_
  | with_reducible refine r_ret ?_
  | with_reducible refine r_ifS ?_
  | with_reducible refine r_asg ?_
  | with_reducible refine r_drop ?_
  | with_reducible refine r_op ?_
  | with_reducible refine r_un ?_
  | with_reducible refine r_cbInt ?_
  | with_reducible refine r_cbAbs ?_
  | with_reducible refine r_cbLen ?_
  | with_reducible refine r_cbList ?_
  | with_reducible refine r_cbTup ?_
  | with_reducible refine r_iEnT ?_
  | with_reducible refine r_iEnL ?_
  | with_reducible refine r_zipA ?_
  | with_reducible refine r_zipX ?_
  | with_reducible refine r_augS ?_
  | with_reducible refine r_cb ?_
  | with_reducible refine r_call ?_
  | with_reducible refine r_make ?_
  | with_reducible refine r_callN0 ?_
  | with_reducible refine r_makeK0 ?_
  | with_reducible refine r_makeS ?_
  | with_reducible refine r_callS ?_
  | with_reducible refine r_cons ?_
  | with_reducible refine r_nil ?_
  | with_reducible refine r_test ?_
  | with_reducible refine r_B ?_
  | with_reducible refine r_and ?_
  | with_reducible refine r_or ?_
  | with_reducible refine r_not ?_
  | with_reducible refine r_andV ?_
  | with_reducible refine r_orV ?_
  | with_reducible refine r_notV ?_
  | with_reducible refine r_if ?_
  | with_reducible refine r_tup ?_
  | with_reducible refine r_lst ?_
  | with_reducible refine r_c ?_
  | with_reducible refine r_lc ?_
  | with_reducible refine r_chain ?_
  | with_reducible refine r_iT ?_
  | with_reducible refine r_iL ?_
  | with_reducible refine r_iR1 ?_
  | with_reducible refine r_iR2 ?_
  | with_reducible refine r_iR3 ?_
  | with_reducible refine r_asgG ?_
  | with_reducible refine r_gSub ?_
  | with_reducible refine r_for ?_
  | with_reducible refine r_smeth ?_
  | with_reducible refine r_par ?_
  | with_reducible refine r_parK ?_
  | with_reducible refine r_gCons ?_
  | with_reducible refine r_gNil ?_
  | with_reducible refine r_gName ?_
  | with_reducible refine r_intI ?_
  | with_reducible refine r_intB ?_
  | with_reducible refine r_absI ?_
  | with_reducible refine r_k ?_
  | with_reducible refine r_kV ?_
  | ((with_reducible show tVar _ _ _ _); refine r_var3 ?_ (by rfl))
  | with_reducible refine r_I0 ?_
  | with_reducible refine r_U ?_
  | with_reducible refine r_eqI ?_
  | with_reducible refine r_neI ?_
  | dsimp only)))
theorem len_l {K : PySem.W.Frag} {H : Hp} {Q : VK} {t : Addr} {xs : List V} (h : H t = some (.lst xs)) (q : Q (.int xs.length) H) : lenK K Q [.ref t] H := ⟨t, xs, rfl, .inl (SqL.of h), q⟩
theorem len_x {K : PySem.W.Frag} {H : Hp} {Q : VK} {t : Addr} {r : List Int} (h : IL H t r) (q : Q (.int r.length) H) : lenK K Q [.ref t] H := by
  rcases h with h | h
  · exact ⟨t, _, rfl, .inl (SqL.of h), by rw [List.length_map]; exact q⟩
  · exact ⟨t, _, rfl, .inr (SqT.of h), by rw [List.length_map]; exact q⟩
theorem ints_l {K : PySem.W.Frag} {H : Hp} {Q : VK} {t : Addr} {r : List Int} (h : IL H t r) (hl : r.length ≤ 1000) (k : ∀ H', Ex H H' → Q (.bl true) H') : spInts K [.ref t] H Q E0 := by
  refine .inl ⟨r.map V.int, ⟨t, rfl, h⟩, by rw [List.length_map]; omega, fun y hy => ?_, ?_⟩
  · obtain ⟨c, _, rfl⟩ := List.mem_map.mp hy
    exact kn_int c
  · have e : (r.map V.int).all isI = true := by rw [List.all_map]; exact List.all_eq_true.mpr fun _ _ => rfl
    rw [e]
    exact k
theorem Tab.rw {rs : List (List Int)} {d : Nat} (t : Tab rs d) {i : Nat} (hi : i < d) : ∃ r, rs[i]? = some r ∧ r.length = d ∧ ∀ j, j < d → r[j]? = some (en rs i j) := by
  have hl : i < rs.length := by rw [t.len]; exact hi
  refine ⟨rs[i], by simp [hl], t.row _ (List.getElem_mem hl), fun j hj => ?_⟩
  have := t.row _ (List.getElem_mem hl)
  have hj' : j < rs[i].length := by omega
  simp [en, List.getD_eq_getElem?_getD, List.getElem?_eq_getElem hl, List.getElem?_eq_getElem hj']
/-- one row of what may be a table: a row of integers, or another value; is it a row of integers, n long -/
inductive RowV (K : PySem.W.Frag) (H : Hp) (n : Nat) : V → Bool → Prop
  | rowI {t : Addr} {r : List Int} : IL H t r → r.length ≤ 1000 → RowV K H n (.ref t) (decide (r.length = n))
  | rowO {v : V} {xs : List V} : Sq H v xs → xs.length ≤ 1000 → (∀ x ∈ xs, Kn K H x) → xs.all isI = false → RowV K H n v false
  | rowN {v : V} : RowB K H v false → RowV K H n v false
theorem len_o {K : PySem.W.Frag} {b : Bool} {H : Hp} {Q : VK} {t : Addr} {xs : List V} (h : OL b H t xs) (q : Q (.int xs.length) H) : lenK K Q [.ref t] H := by
  cases b
  · exact ⟨t, xs, rfl, .inl (SqL.of h), q⟩
  · exact ⟨t, xs, rfl, .inr (SqT.of h), q⟩
theorem ix_o {K : PySem.W.Frag} {b : Bool} {H : Hp} {Q : VK} {t : Addr} {xs : List V} {j : Nat} {v x : V} (h : OL b H t xs) (e : v = .int (j : Int)) (hx : xs[j]? = some x) (q : Q x H) : rIx K (.ref t) v H Q := by
  subst e
  cases b
  · exact .inl (r_ixL h (v := x) (atI_nat hx) q)
  · exact .inr (.inl (r_ixT h (v := x) (atI_nat hx) q))
theorem iseq_o {K : PySem.W.Frag} {b : Bool} {p : Addr} {xs : List V} {σ : L2.St} {H : Hp} {R : It → Hp → Prop} {n : Nat} (hs : σ[n]? = some (some (.ref p))) (hp : OL b H p xs) (go : ∀ (J : It) (G : Hp → Prop), Walk J xs.length G (YAt xs) → (∀ H', Ex H H' → G H') → R J H) : iSeq K (tVar n) σ H R := by
  refine ⟨_, hs, p, rfl, ?_⟩
  cases b with
  | false => exact .inl ⟨⟨_, SqL.of hp⟩, go _ _ walk_list fun H' e => SqL.of (e _ _ hp)⟩
  | true => exact .inr ⟨⟨_, SqT.of hp⟩, go _ _ walk_tup fun H' e => SqT.of (e _ _ hp)⟩
theorem dec_int (a b : Int) : decide (V.int a = V.int b) = decide (a = b) := by
  rw [decide_eq_decide]
  exact ⟨fun h => by injection h, fun h => by rw [h]⟩
theorem dec_len (a b : Nat) : decide (V.int (a : Int) = V.int (b : Int)) = decide (a = b) := by
  rw [dec_int, decide_eq_decide]
  omega
theorem RowV.ex {K : PySem.W.Frag} {H H' : Hp} {n : Nat} {v : V} {b : Bool} (h : RowV K H n v b) (e : Ex H H') : RowV K H' n v b := by
  cases h with
  | rowI h l => exact .rowI (h.ex e) l
  | rowO h l k a => exact .rowO (h.ex e) l (fun x hx => (k x hx).ex e) a
  | rowN h => exact .rowN (h.ex e)
def symL (rs : List (List Int)) : List Bool := ((List.range rs.length).map fun i => (List.range i).map fun j => decide (en rs i j = en rs j i)).flatten
def spIsT (K : PySem.W.Frag) : Sp := sp1 fun v H Q _ => (RowB K H v false ∧ ∀ H', Ex H H' → Q (.bl false) H') ∨
  ∃ (b0 : Bool) (p : Addr) (xs : List V) (oks : List Bool), v = .ref p ∧ OL b0 H p xs ∧ xs.length ≤ 60 ∧ oks.length = xs.length ∧ (∀ (i : Nat) (x : V) (b : Bool), xs[i]? = some x → oks[i]? = some b → RowV K H xs.length x b) ∧ (oks.all id = false → ∀ H', Ex H H' → Q (.bl false) H') ∧
    (oks.all id = true → ∃ (cs : List Addr) (rs : List (List Int)), xs = cs.map V.ref ∧ RA H cs rs ∧ (∀ r ∈ rs, r.length = rs.length) ∧ ∀ H', Ex H H' → Q (.bl ((symL rs).all id)) H')
theorem ok_is_table {P : Program} {w : World} {K : PySem.W.Frag} {mg : Str → Option Value} {base : Heap} (T : Txt K mg) : ∃ fd, FnOk P w K mg base (L2.CX P w) 3 (He.ga K "is_table") fd ["value"] (spIsT K) ∧ Binds K fd ["value"] [] := by
  obtain ⟨fd, F⟩ := T.d_is_table
  obtain ⟨fd_are_integers, F_are_integers, B_are_integers⟩ := ok_are_integers (P := P) (w := w) (base := base) T
  obtain ⟨fd_is_row, F_is_row, B_is_row⟩ := ok_is_row (P := P) (w := w) (base := base) T
  refine ⟨fd, F.ok sc_is_table sp1_len (fun cdv A outer s H vs Q E hr h => ?_), F.bindsN fun _ _ _ _ _ _ us hl => match us, hl with | [_], _ => rfl⟩
  have hr_are_integers : Room 2 _ := hr.mono (by decide)
  have hr_is_row : Room 1 _ := hr.mono (by decide)
  obtain ⟨v, rfl, hh⟩ := sp1_is h
  refine ⟨_, (pss_cons (ps_if (PW.pt (pw_or (pt_not (pt_val (pe_call F_is_row hr_is_row (by rfl) T.g_is_row T.k_is_row B_is_row .nil passL (pa_cons (pv 0) pa_nil)))) (pw_or1 (pt_not (pt_val (pe_callB (cr_all rfl) (by rfl) T.b_all (by decide +kernel) (pa_cons (pe_lc (own := [("row", 1)]) (g := gName 1) (tt := tYes)  rfl sc_is_table.nd (pi_seq (pv 0)) (blkOk_by (own := [("row", 1)]) (N := ["value", "row", "i", "j"]) (sc := defScope s_is_table) (by decide +kernel)) (fun _ _ _ _ _ => (pg_name (i := 1) sc_is_table.nd rfl (Or.inl rfl))) (fun _ _ _ _ _ => pts_nil) (fun _ _ _ _ _ => (pe_and (pe_call F_are_integers hr_are_integers (by rfl) T.g_are_integers T.k_are_integers B_are_integers .nil passL (pa_cons (pv 1) pa_nil)) (pe_one (pe_cmpR op_eq (pe_callB (kx_lens rfl) (by rfl) T.b_len PySem.boot_len (pa_cons (pv 1) pa_nil)) (pe_callB (kx_lens rfl) (by rfl) T.b_len PySem.boot_len (pa_cons (pv 0) pa_nil)) (nomark _)))))) pa_nil))))))) (pss_one (ps_ret pe_bl)) pss_nil)
      (pss_one (ps_ret (pe_callB (cr_all rfl) (by rfl) T.b_all (by decide +kernel) (pa_cons (pe_lc2 (own := [("i", 2), ("j", 3)]) (vs1 := [3]) (g := gName 2) (tt := tYes) (g1 := gName 3) (tt1 := tYes) rfl sc_is_table.nd (pi_range1 (by rfl) T.b_range (pa_cons (pe_callB (kx_lens rfl) (by rfl) T.b_len PySem.boot_len (pa_cons (pv 0) pa_nil)) pa_nil)) (blkOk_by (own := [("i", 2), ("j", 3)]) (N := ["value", "row", "i", "j"]) (sc := defScope s_is_table) (by decide +kernel)) (by decide) (fun _ _ _ _ _ => (pg_name (i := 2) sc_is_table.nd rfl (Or.inl rfl))) (fun _ _ _ _ _ => pts_nil) (fun _ _ _ _ _ => (pi_range1 (by rfl) T.b_range (pa_cons (pv 2) pa_nil))) (fun _ _ _ _ _ => (pg_name (i := 3) sc_is_table.nd rfl (Or.inl rfl))) (fun _ _ _ _ _ => pts_nil) (fun _ _ _ _ _ => (pe_cmpR op_eq (pe_ix (kx_ixs (K := K) rfl) (pe_ix (kx_ixs (K := K) rfl) (pv 0) (pv 2) (fun _ _ => rfl)) (pv 3) (fun _ _ => rfl)) (pe_ix (kx_ixs (K := K) rfl) (pe_ix (kx_ixs (K := K) rfl) (pv 0) (pv 3) (fun _ _ => rfl)) (pv 2) (fun _ _ => rfl)) (nomark _)))) pa_nil))))), ?_⟩
  walk_at "rd"
  rcases hh with ⟨hr, k⟩ | ⟨b0, p, xs, oks, rfl, hp, hl, ho, hx, k1, k2⟩
  · refine ⟨false, hr, fun H1 e1 => ?_⟩
    refine ⟨_, rfl, ite_t rfl (ite_t rfl ?_)⟩
    walk_at "rd"
    exact k H1 e1
  refine ⟨true, Sq.row hp.seq, fun H1 e1 => ?_⟩
  refine ⟨_, rfl, ite_f rfl ?_⟩
  walk_at "rd"
  have hp1 := hp.ex e1
  refine iseq_o rfl hp1 fun J G wk hG => ?_
  refine r_lcM (n := xs.length) (k := 1) wk (fun i => .bl (oks.getD i false)) (by omega) hG (fun _ => rfl) ?_ ?_
  · rintro i y H2 H3 hi e2 ⟨rfl, hy⟩
    refine ⟨Ex.refl _, fun H4 e4 R kR => ?_⟩
    have ho' : oks[i]? = some (oks.getD i false) := by
      rw [List.getD_eq_getElem?_getD, List.getElem?_eq_getElem (by omega)]
      rfl
    have rv := (hx i y _ hy ho').ex (e1.trans (e2.trans e4))
    generalize oks.getD i false = ok at rv kR
    walk_at "rd"
    cases rv with
    | rowI hrow lr =>
      refine ints_l hrow lr fun H5 e5 => ?_
      refine ⟨_, rfl, ite_t rfl ?_⟩
      walk_at "rd"
      refine len_x (hrow.ex e5) ?_
      walk_at "rd"
      refine len_o (hp1.ex (e2.trans (e4.trans e5))) ?_
      refine r_eq rfl ?_
      rw [dec_len]
      exact kR _ e5
    | rowO hs ll hk ha =>
      refine .inl ⟨_, hs, by omega, hk, fun H5 e5 => ?_⟩
      rw [ha]
      refine ⟨_, rfl, ite_f rfl ?_⟩
      exact kR _ e5
    | rowN hr =>
      refine .inr ⟨hr, fun H5 e5 => ?_⟩
      refine ⟨_, rfl, ite_f rfl ?_⟩
      exact kR _ e5
  intro D H2 hD e2 h2
  have e : ((List.range xs.length).map fun i => V.bl (oks.getD i false)) = oks.map V.bl := by
    refine List.ext_getElem (by simp [ho]) fun i h1 h2 => ?_
    simp at h1
    simp [ho, h1]
  rw [e] at h2
  walk_at "rd"
  refine ⟨D, oks, rfl, SqL.of h2, ?_⟩
  cases q : oks.all id with
  | false =>
    walk_at "rd"
    refine ite_t rfl ?_
    walk_at "rd"
    exact k1 q _ (e1.trans e2)
  | true =>
    obtain ⟨cs, rs, rfl, hla, hrl, k⟩ := k2 q
    walk_at "rd"
    refine ite_f rfl ?_
    walk_at "rd"
    refine r_lc2 ?_
    walk_at "rd"
    have lrs : cs.length = rs.length := hla.1
    rw [List.length_map] at hl
    have hp2 := hp1.ex e2
    refine len_o hp2 ?_
    rw [List.length_map, lrs]
    walk_at "rd"
    refine ⟨_, rfl, by omega, by omega, ?_⟩
    rw [Int.toNat_natCast]
    have enI : ∀ i, i < rs.length → ∃ r, rs[i]? = some r ∧ ∀ j, j < rs.length → r[j]? = some (en rs i j) := fun i hi => by
      refine ⟨rs[i], by simp [hi], fun j hj => ?_⟩
      have := hrl _ (List.getElem_mem hi)
      have hj' : j < rs[i].length := by omega
      simp [en, List.getD_eq_getElem?_getD, List.getElem?_eq_getElem hi, List.getElem?_eq_getElem hj']
    refine r_lc2P (n := rs.length) (k := 2) (k1 := 3) (walk_range (lo := 0) (n := rs.length)) (fun i => (List.range i).map fun j => V.bl (decide (en rs i j = en rs j i))) (by omega) (fun i hi => by simp; omega) (fun _ _ => trivial) (fun _ => rfl) (fun _ _ => rfl) ?_ ?_
    · rintro i y H3 H4 hi e3 ⟨rfl, rfl⟩
      refine ⟨Ex.refl _, fun R kR => ?_⟩
      walk_at "rd"
      refine ⟨_, rfl, by omega, by omega, kR _ ⟨_, _, by rw [show ((0 : Int) + (i : Nat)).toNat = ((List.range i).map fun j => V.bl (decide (en rs i j = en rs j i))).length by simp]; exact walk_range, fun _ _ => trivial, ?_⟩⟩
      rintro j z H5 H6 hj e5 ⟨rfl, rfl⟩
      refine ⟨Ex.refl _, fun N hN => ?_⟩
      have hj' : j < i := by simpa using hj
      obtain ⟨ri, hri, gri⟩ := enI i hi
      obtain ⟨rj, hrj, grj⟩ := enI j (by omega)
      have hla5 := hla.ex ((e1.trans e2).trans e5)
      have hp5 := hp2.ex e5
      obtain ⟨ti, hti, hwi⟩ := hla5.col hri
      obtain ⟨tj, htj, hwj⟩ := hla5.col hrj
      walk_at "rd"
      refine ix_o hp5 (by rw [Int.zero_add]) (x := .ref ti) (by rw [List.getElem?_map, hti]; rfl) ?_
      walk_at "rd"
      refine ix_row hwi (by rw [Int.zero_add]) (gri j (by omega)) ?_
      walk_at "rd"
      refine ix_o hp5 (by rw [Int.zero_add]) (x := .ref tj) (by rw [List.getElem?_map, htj]; rfl) ?_
      walk_at "rd"
      refine ix_row hwj (by rw [Int.zero_add]) (grj i hi) ?_
      refine r_eq rfl ?_
      have := hN _ (Ex.refl _)
      rw [show ((List.range i).map fun j => V.bl (decide (en rs i j = en rs j i))).getD j .non = V.bl (decide (en rs i j = en rs j i)) by simp [List.getD_eq_getElem?_getD, hj']] at this
      rw [dec_int]
      exact this
    · intro D2 H3 hD2 e3 h3
      have ef : GS.flatV (fun i => (List.range i).map fun j => V.bl (decide (en rs i j = en rs j i))) rs.length = (symL rs).map V.bl := by
        unfold GS.flatV symL
        rw [List.map_flatten, List.map_map]
        congr 1
        refine List.map_congr_left fun i _ => ?_
        show _ = List.map V.bl (List.map _ _)
        rw [List.map_map]
        rfl
      rw [ef] at h3
      refine ⟨D2, _, rfl, SqL.of h3, ?_⟩
      exact k H3 ((e1.trans e2).trans e3)

end K10
namespace K10
open PySem PySem.Spec PyProof.Rows L2 GS TL LamX
local macro_rules | `(tactic| walk_at "rd") => `(tactic| (repeat (first
  | with_reducible refine r_next ?_
  | with_reducible refine r_seq ?_
  | with_reducible refine r_ret ?_
  | with_reducible refine r_ifS ?_
  | with_reducible refine r_asg ?_
  | with_reducible refine r_drop ?_
  | with_reducible refine r_op ?_
  | with_reducible refine r_un ?_
  | with_reducible refine r_cbInt ?_
  | with_reducible refine r_cbAbs ?_
  | with_reducible refine r_cbLen ?_
  | with_reducible refine r_cbList ?_
  | with_reducible refine r_cbTup ?_
  | with_reducible refine r_iEnT ?_
  | with_reducible refine r_iEnL ?_
  | with_reducible refine r_zipA ?_
  | with_reducible refine r_zipX ?_
  | with_reducible refine r_augS ?_
  | with_reducible refine r_cb ?_
  | with_reducible refine r_call ?_
  | with_reducible refine r_make ?_
  | with_reducible refine r_callN0 ?_
  | with_reducible refine r_makeK0 ?_
  | with_reducible refine r_makeS ?_
  | with_reducible refine r_callS ?_
  | with_reducible refine r_cons ?_
  | with_reducible refine r_nil ?_
  | with_reducible refine r_test ?_
  | with_reducible refine r_B ?_
  | with_reducible refine r_and ?_
  | with_reducible refine r_or ?_
  | with_reducible refine r_not ?_
  | with_reducible refine r_andV ?_
  | with_reducible refine r_orV ?_
  | with_reducible refine r_notV ?_
  | with_reducible refine r_if ?_
  | with_reducible refine r_tup ?_
  | with_reducible refine r_lst ?_
  | with_reducible refine r_c ?_
  | with_reducible refine r_lc ?_
  | with_reducible refine r_chain ?_
  | with_reducible refine r_iT ?_
  | with_reducible refine r_iL ?_
  | with_reducible refine r_iR1 ?_
  | with_reducible refine r_iR2 ?_
  | with_reducible refine r_iR3 ?_
  | with_reducible refine r_asgG ?_
  | with_reducible refine r_gSub ?_
  | with_reducible refine r_for ?_
  | with_reducible refine r_smeth ?_
  | with_reducible refine r_par ?_
  | with_reducible refine r_parK ?_
  | with_reducible refine r_gCons ?_
  | with_reducible refine r_gNil ?_
  | with_reducible refine r_gName ?_
  | with_reducible refine r_intI ?_
  | with_reducible refine r_intB ?_
  | with_reducible refine r_absI ?_
  | with_reducible refine r_k ?_
  | with_reducible refine r_kV ?_
  | ((with_reducible show tVar _ _ _ _); refine r_var3 ?_ (by rfl))
  | with_reducible refine r_I0 ?_
  | with_reducible refine r_U ?_
  | with_reducible refine r_eqI ?_
  | with_reducible refine r_neI ?_
  | dsimp only)))
local macro_rules | `(tactic| walk_at "rx") => `(tactic| (repeat (first
  | with_reducible refine r_next ?_
  | with_reducible refine r_ret ?_
  | with_reducible refine r_ifS ?_
  | with_reducible refine r_asg ?_
  | with_reducible refine r_drop ?_
  | with_reducible refine r_op ?_
  | with_reducible refine r_un ?_
  | with_reducible refine r_cbInt ?_
  | with_reducible refine r_cbAbs ?_
  | with_reducible refine r_cbLen ?_
  | with_reducible refine r_cbList ?_
  | with_reducible refine r_cbTup ?_
  | with_reducible refine r_iEnT ?_
  | with_reducible refine r_iEnL ?_
  | with_reducible refine r_zipA ?_
  | with_reducible refine r_zipX ?_
  | with_reducible refine r_augS ?_
  | with_reducible refine r_cb ?_
  | with_reducible refine r_call ?_
  | with_reducible refine r_make ?_
  | with_reducible refine r_callN0 ?_
  | with_reducible refine r_makeK0 ?_
  | with_reducible refine r_makeS ?_
  | with_reducible refine r_callS ?_
  | with_reducible refine r_cons ?_
  | with_reducible refine r_nil ?_
  | with_reducible refine r_test ?_
  | with_reducible refine r_B ?_
  | with_reducible refine r_and ?_
  | with_reducible refine r_or ?_
  | with_reducible refine r_not ?_
  | with_reducible refine r_andV ?_
  | with_reducible refine r_orV ?_
  | with_reducible refine r_notV ?_
  | with_reducible refine r_if ?_
  | with_reducible refine r_tup ?_
  | with_reducible refine r_lst ?_
  | with_reducible refine r_c ?_
  | with_reducible refine r_lc ?_
  | with_reducible refine r_chain ?_
  | with_reducible refine r_iT ?_
  | with_reducible refine r_iL ?_
  | with_reducible refine r_iR1 ?_
  | with_reducible refine r_iR2 ?_
  | with_reducible refine r_iR3 ?_
  | with_reducible refine r_asgG ?_
  | with_reducible refine r_gSub ?_
  | with_reducible refine r_for ?_
  | with_reducible refine r_smeth ?_
  | with_reducible refine r_par ?_
  | with_reducible refine r_parK ?_
  | with_reducible refine r_gCons ?_
  | with_reducible refine r_gNil ?_
  | with_reducible refine r_gName ?_
  | with_reducible refine r_intI ?_
  | with_reducible refine r_intB ?_
  | with_reducible refine r_absI ?_
  | with_reducible refine r_k ?_
  | with_reducible refine r_kV ?_
  | ((with_reducible show tVar _ _ _ _); refine r_var3 ?_ (by rfl))
  | with_reducible refine r_I0 ?_
  | with_reducible refine r_U ?_
  | with_reducible refine r_eqI ?_
  | with_reducible refine r_neI ?_
  | dsimp only)))
theorem r_slX {K : PySem.W.Frag} {H : Hp} {Q : VK} {t : Addr} {r : List Int} {n : Nat} (h : IL H t r) (hn : n < r.length) (q : ∀ p H', H p = none → Ex H H' → IL H' p (r.take n) → Q (.ref p) H') : rSlL K (.ref t) none (some (n : Int)) H Q ∨ rSlT K (.ref t) none (some (n : Int)) H Q := by
  rcases h with h | h
  · exact .inl ⟨t, _, rfl, SqL.of h, fun p hp => q p _ hp (Ex.new hp) (.inl (by rw [upd_same, cut_tk]))⟩
  · exact .inr ⟨t, _, rfl, SqT.of h, fun z => by have := z.2; rw [HT.sIx_nat, List.length_map] at this; omega, fun p hp => q p _ hp (Ex.new hp) (.inr (by rw [upd_same, cut_tk]))⟩
theorem OL.ne {b : Bool} {H : Hp} {p P : Addr} {cs : List V} (h : OL b H p cs) (hP : H P = none) : p ≠ P := by
  rintro rfl
  cases b
  · have h : H p = some (.lst cs) := h
    rw [hP] at h
    cases h
  · have h : H p = some (.tup cs) := h
    rw [hP] at h
    cases h
theorem OL.upd {b : Bool} {H : Hp} {p q : Addr} {o : HO} {cs : List V} (h : OL b H p cs) (n : p ≠ q) : OL b (upd H q o) p cs := by
  cases b
  · exact (upd_ne n).trans h
  · exact (upd_ne n).trans h
theorem cut_tk' (ys : List V) (k : Nat) : cutV ys none (some (k : Int)) = ys.take k := by
  have := cut_tk (fun v : V => v) ys k
  simpa using this
theorem r_slO {K : PySem.W.Frag} {b : Bool} {H : Hp} {Q : VK} {t : Addr} {xs : List V} {n : Nat} (h : OL b H t xs) (hn : n < xs.length) (q : ∀ p H', H p = none → Ex H H' → OL b H' p (xs.take n) → Q (.ref p) H') : rSlL K (.ref t) none (some (n : Int)) H Q ∨ rSlT K (.ref t) none (some (n : Int)) H Q := by
  cases b
  · exact .inl ⟨t, _, rfl, SqL.of h, fun p hp => q p _ hp (Ex.new hp) (by show upd H p _ p = _; rw [upd_same, cut_tk'])⟩
  · exact .inr ⟨t, _, rfl, SqT.of h, fun z => by have := z.2; rw [HT.sIx_nat] at this; omega, fun p hp => q p _ hp (Ex.new hp) (by show upd H p _ p = _; rw [upd_same, cut_tk'])⟩
theorem r_cat {H : Hp} {Q : VK} {l b : Addr} {xs zs : List V} (h1 : H l = some (.lst xs)) (h2 : H b = some (.lst zs)) (hz : xs.length + zs.length ≤ 50000) (q : ∀ p H', H p = none → Ex H H' → H' p = some (.lst (xs ++ zs)) → Q (.ref p) H') : rCat (.ref l) (.ref b) H Q :=
  ⟨l, b, xs, zs, rfl, rfl, h1, h2, sz_le (by omega), fun p hp => q p _ hp (Ex.new hp) upd_same⟩
theorem dot_zp {m : Nat} {l r : List Int} (hl : l.length ≤ 1000) (h : ∀ (i : Nat) (a b : Int), l[i]? = some a → r[i]? = some b → Z m (a * b)) : Z (m + 10) (dotL l r) := by
  refine sum_z _ 10 (by rw [List.length_zipWith]; omega) fun c hc => ?_
  obtain ⟨i, hi⟩ := List.getElem?_of_mem hc
  rw [List.getElem?_zipWith] at hi
  cases q1 : l[i]? with
  | none => rw [q1] at hi; cases hi
  | some a =>
    cases q2 : r[i]? with
    | none => rw [q1, q2] at hi; cases hi
    | some b =>
      rw [q1, q2] at hi
      cases hi
      exact h i a b q1 q2
theorem zneg {n : Nat} {c : Int} (h : Z n c) : Z n (-c) := by
  unfold Z at *
  rw [Int.natAbs_neg]
  exact h
theorem rowF_g {rs : List (List Int)} {d n : Nat} (t : Tab rs d) (hn : n < d) (i : Nat) (c : Int) (hc : (rowF rs n)[i]? = some c) : Z (212 * i + 1) c := by
  have d3 := t.d3
  unfold rowF at hc
  match i, hc with
  | 0, hc =>
    cases hc
    exact (by decide : (1 : Int).natAbs < 2 ^ 1)
  | 1, hc =>
    cases hc
    obtain ⟨r, hr, _, gr⟩ := t.rw hn
    exact Z.mono (n := 201) (zneg (t.z r (List.mem_of_getElem? hr) _ (List.mem_of_getElem? (gr n hn)))) (by omega)
  | k + 2, hc =>
    have hc : ((List.range n).map fun k => -(dotL (pw rs n (k / 2)) (pw rs n ((k + 1) / 2))))[k]? = some c := hc
    rw [List.getElem?_map] at hc
    by_cases hk : k < n
    · rw [List.getElem?_range hk] at hc
      cases hc
      have kk : k / 2 + (k + 1) / 2 = k := by omega
      refine zneg ((dot_z (n := 201 + 211 * (k / 2)) (m := 201 + 211 * ((k + 1) / 2)) (by rw [pw_len t hn]; omega) (pw_z t (k / 2)) (pw_z t ((k + 1) / 2))).mono ?_)
      omega
    · rw [List.getElem?_eq_none (by simp; omega)] at hc
      cases hc
theorem rowF_len (rs : List (List Int)) (n : Nat) : (rowF rs n).length = n + 2 := by simp [rowF]
theorem rowF_z {rs : List (List Int)} {d n : Nat} (t : Tab rs d) (hn : n < d) : ∀ c ∈ rowF rs n, Z 6000 c := fun c hc => by
  obtain ⟨i, hi⟩ := List.getElem?_of_mem hc
  have := (List.getElem?_eq_some_iff.mp hi).1
  rw [rowF_len] at this
  have d3 := t.d3
  exact (rowF_g t hn i c hi).mono (by omega)
def spRF (K : PySem.W.Frag) : Sp := sp2 fun v w H Q _ => ∃ (b0 : Bool) (p : Addr) (cs : List Addr) (rs : List (List Int)) (d n : Nat), v = .ref p ∧ OL b0 H p (cs.map V.ref) ∧ RA H cs rs ∧ Tab rs d ∧ w = .int n ∧ n < d ∧ ∀ p H', H p = none → Ex H H' → H' p = some (.lst ((rowF rs n).map V.int)) → Q (.ref p) H'
theorem ok_row_factors {P : Program} {w : World} {K : PySem.W.Frag} {mg : Str → Option Value} {base : Heap} (T : Txt K mg) : ∃ fd, FnOk P w K mg base (L2.CX P w) 3 (He.ga K "row_factors") fd ["table", "size"] (spRF K) ∧ Binds K fd ["table", "size"] [] := by
  obtain ⟨fd, F⟩ := T.d_row_factors
  obtain ⟨fd_product_sum, F_product_sum, B_product_sum⟩ := ok_product_sum (P := P) (w := w) (base := base) T
  obtain ⟨fd_table_times, F_table_times, B_table_times⟩ := ok_table_times (P := P) (w := w) (base := base) T
  refine ⟨fd, F.ok sc_row_factors sp2_len (fun cdv A outer s H vs Q E hr h => ?_), F.bindsN fun _ _ _ _ _ _ us hl => match us, hl with | [_, _], _ => rfl⟩
  have hr_product_sum : Room 1 _ := hr.mono (by decide)
  have hr_table_times : Room 2 _ := hr.mono (by decide)
  obtain ⟨v, w', rfl, b0, p, cs, rs, d, n, rfl, hp, hla, tb, rfl, hn, k⟩ := sp2_is h
  refine ⟨_, (pss_cons (ps_set (i := 2) sc_row_factors.nd rfl (Or.inl rfl) (pe_slice (SlR.or sl_list sl_tup) (pv 0) po_none (po_some (pv 1))))
      (pss_cons (ps_set (i := 3) sc_row_factors.nd rfl (Or.inr rfl) (pe_lst (pa_cons (pe_slice (SlR.or sl_list sl_tup) (pe_ix ix_seq (pv 0) (pv 1) (fun _ _ => rfl)) po_none (po_some (pv 1))) pa_nil)))
      (pss_cons (ps_for (passes_of rfl) rfl (pi_range1 (by rfl) T.b_range (pa_cons (pe_op op_fdivW (pv 1) pe_int) pa_nil)) (pg_name (i := 4) sc_row_factors.nd rfl (Or.inl rfl)) (pss_one (ps_expr (pe_bm PySem.F.plainAttrs_list PySem.F.slot_list_append PySem.F.type_list_append mt_append (pv 3) (pa_cons (pe_call F_table_times hr_table_times (by rfl) T.g_table_times T.k_table_times B_table_times .nil passL (pa_cons (pv 2) (pa_cons (pe_ix (kx_ixl rfl) (pv 3) (pe_un un_neg pe_int) (fun _ _ => rfl)) pa_nil))) pa_nil)))))
      (pss_cons (ps_setLc (i := 5) (own := [("k", 6)]) (g := gName 6) (tt := tYes)  rfl sc_row_factors.nd rfl rfl (sw_true rfl rfl rfl (by decide +kernel)) (pi_range1 (by rfl) T.b_range (pa_cons (pv 1) pa_nil)) (blkOk_by (own := [("k", 6)]) (N := ["table", "size", "ahead", "powers", "_", "products", "k", "number"]) (sc := defScope s_row_factors) (by decide +kernel)) (fun _ _ _ _ _ => (pg_name (i := 6) sc_row_factors.nd rfl (Or.inl rfl))) (fun _ _ _ _ _ => pts_nil) (fun _ _ _ _ _ => (pe_call F_product_sum hr_product_sum (by rfl) T.g_product_sum T.k_product_sum B_product_sum .nil passL (pa_cons (pe_ix (kx_ixl rfl) (pv 3) (pe_op op_fdivW (pv 6) pe_int) (fun _ _ => rfl)) (pa_cons (pe_ix (kx_ixl rfl) (pv 3) (pe_op op_fdivW (pe_op op_add (pv 6) pe_int) pe_int) (fun _ _ => rfl)) pa_nil)))))
      (pss_one (ps_ret (pe_op op_cat (pe_lst (pa_cons pe_int (pa_cons (pe_un un_neg (pe_ix ix_seq (pe_ix ix_seq (pv 0) (pv 1) (fun _ _ => rfl)) (pv 1) (fun _ _ => rfl))) pa_nil))) (pe_lc (own := [("number", 7)]) (g := gName 7) (tt := tYes)  rfl sc_row_factors.nd (pi_list (pv 5)) (blkOk_by (own := [("number", 7)]) (N := ["table", "size", "ahead", "powers", "_", "products", "k", "number"]) (sc := defScope s_row_factors) (by decide +kernel)) (fun _ _ _ _ _ => (pg_name (i := 7) sc_row_factors.nd rfl (Or.inl rfl))) (fun _ _ _ _ _ => pts_nil) (fun _ _ _ _ _ => (pe_un un_neg (pv 7))))))))))), ?_⟩
  have lcs : cs.length = d := by rw [hla.1]; exact tb.len
  have d1 := tb.d1
  have d3 := tb.d3
  obtain ⟨rn, hrn, lrn, grn⟩ := tb.rw hn
  walk_at "rd"
  refine ⟨_, rfl, _, rfl, _, rfl, r_slO hp (by rw [List.length_map]; omega) fun A H1 hA e1 h1 => ?_⟩
  have laA := (hla.ex e1).take n
  walk_at "rd"
  have hp1 := hp.ex e1
  obtain ⟨tn', htn, hwn⟩ := (hla.ex e1).col hrn
  refine ⟨_, rfl, _, rfl, ix_o hp1 rfl (x := .ref tn') (by rw [List.getElem?_map, htn]; rfl) ⟨_, rfl, _, rfl, r_slX hwn (by omega) fun B H2 hB e2 h2 => ?_⟩⟩
  walk_at "rd"
  refine r_newL (sz_le (by simp)) fun P H3 hP e3 h3 => ?_
  have epw : pw rs n 0 = rn.take n := by show (rs.getD n []).take n = _; rw [List.getD_eq_getElem?_getD, hrn]; rfl
  have e13 := e1.trans (e2.trans e3)
  have laP : RA H3 [B] [pw rs n 0] := RA.cons (by rw [epw]; exact h2.ex e3) RA.nil
  have laA3 : RA H3 (cs.take n) (rs.take n) := laA.ex (e2.trans e3)
  have h1' : OL b0 H1 A ((cs.take n).map V.ref) := by rw [List.map_take]; exact h1
  have hA3 : OL b0 H3 A ((cs.take n).map V.ref) := h1'.ex (e2.trans e3)
  have hp3 := hp1.ex (e2.trans e3)
  have hPB : P ∉ [B] := fun z => by rw [List.mem_singleton.mp z] at hP; exact h2.ne hP
  have hPf : H P = none := (e1.trans e2).free hP
  walk_at "rd"
  refine r_I (wide_div (b := 10) (by decide) (by decide) (by decide) (by decide)) ?_
  walk_at "rd"
  have ediv : (((n : Nat) : Int) / 2) = ((n / 2 : Nat) : Int) := rfl
  rw [ediv]
  refine ⟨_, rfl, by omega, by omega, ?_⟩
  rw [Int.toNat_natCast]
  have tk : ∀ r ∈ rs.take n, r ∈ rs := fun r h => List.mem_of_mem_take h
  refine for_of (walk_range (lo := 0) (n := n / 2)) (fun i σ' H' => ∃ ps s4, σ' = [some (.ref p), some (.int n), some (.ref A), some (.ref P), s4, none, none, none] ∧ Ex H H' ∧ OL b0 H' A ((cs.take n).map V.ref) ∧ RA H' (cs.take n) (rs.take n) ∧ H' P = some (.lst (ps.map V.ref)) ∧ P ∉ ps ∧ P ∉ cs.take n ∧ P ≠ A ∧ RA H' ps ((List.range (i + 1)).map (pw rs n))) ⟨[B], none, rfl, e13, hA3, laA3, h3, hPB, fun z => ?_, fun z => ?_, laP⟩ (fun _ _ _ _ _ => trivial) ?_ ?_
  · obtain ⟨j, hj⟩ := List.getElem?_of_mem z
    obtain ⟨_, _, hx⟩ := laA.at hj
    exact (hx.ex e2).ne hP
  · exact (h1'.ex e2).ne hP z.symm
  · rintro i x σ' H4 H5 hi ⟨ps, s4, rfl, e4, hA4, laA4, hP4, nP, nPc, nPA, laP4⟩ ⟨rfl, rfl⟩
    have lps : ps.length = i + 1 := by rw [laP4.1]; simp
    refine r_gName ?_
    walk_at "rd"
    refine r_bm ?_
    walk_at "rd"
    refine ⟨tyL hP4, ?_⟩
    walk_at "rd"
    have hlast : ps[i]? = some (ps[i]'(by omega)) := by simp
    generalize (ps[i]'(by omega)) = pl at hlast
    obtain ⟨rl, hrl, hwl⟩ := laP4.at hlast
    have erl : rl = pw rs n i := by
      rw [List.getElem?_map, List.getElem?_range (by omega)] at hrl
      exact (Option.some.inj hrl).symm
    subst erl
    refine r_ixL hP4 (v := .ref pl) (by
      show (ixN (ps.map V.ref).length (-1)).bind _ = _
      rw [List.length_map, lps]
      have : ixN (i + 1) (-1) = some i := by unfold ixN; simp; omega
      rw [this]
      show (ps.map V.ref)[i]? = _
      rw [List.getElem?_map, hlast]
      rfl) ?_
    walk_at "rd"
    refine ⟨b0, A, cs.take n, rs.take n, pl, pw rs n i, rfl, hA4, laA4, rfl, hwl, by simp; omega, fun r hr => by rw [tb.row r (tk r hr)]; omega, fun r hr c hc => (tb.z r (tk r hr) c hc).mono (by decide), fun c hc => (pw_z tb i c hc).mono (by omega), fun q H6 hq e6 h6 => ?_⟩
    walk_at "rd"
    refine r_app (e6 _ _ hP4) (by rw [List.length_map]; omega) ?_
    walk_at "rd"
    have nqP : P ≠ q := fun z => by rw [← z, hP4] at hq; cases hq
    refine ⟨ps ++ [q], _, rfl, fun a o ha => ?_, ?_, (laA4.ex e6).upd nPc, by rw [upd_same, List.map_append]; rfl, fun z => ?_, nPc, nPA, ?_⟩
    · rw [upd_ne (ne_of_none ha hPf)]
      exact e6 _ _ (e4 _ _ ha)
    · exact (hA4.ex e6).upd (fun z => nPA z.symm)
    · rcases List.mem_append.mp z with z | z
      · exact nP z
      · exact nqP (List.mem_singleton.mp z)
    · rw [List.range_succ, List.map_append]
      refine RA.upd (RA.app (laP4.ex e6) (RA.cons (.inl h6) RA.nil)) fun z => ?_
      rcases List.mem_append.mp z with z | z
      · exact nP z
      · exact nqP (List.mem_singleton.mp z)
  · rintro σ' H4 ⟨ps, s4, rfl, e4, hA4, laA4, hP4, nP, nPc, nPA, laP4⟩
    have lps : ps.length = n / 2 + 1 := by rw [laP4.1]; simp
    have pget : ∀ j, j ≤ n / 2 → ∃ t, ps[j]? = some t ∧ IL H4 t (pw rs n j) := fun j hj => by
      obtain ⟨t, ht, hw⟩ := laP4.col (j := j) (r := pw rs n j) (by rw [List.getElem?_map, List.getElem?_range (by omega)]; rfl)
      exact ⟨t, ht, hw⟩
    walk_at "rd"
    refine ⟨_, rfl, by omega, by omega, ?_⟩
    rw [Int.toNat_natCast]
    refine r_lcM (n := n) (k := 6) walk_range (fun i => .int (dotL (pw rs n (i / 2)) (pw rs n ((i + 1) / 2)))) (by omega) (fun _ _ => trivial) (fun _ => rfl) ?_ ?_
    · rintro i y H5 H6 hi e5 ⟨rfl, rfl⟩
      refine ⟨Ex.refl _, fun H7 e7 R kR => ?_⟩
      obtain ⟨t1, ht1, hw1⟩ := pget (i / 2) (by omega)
      obtain ⟨t2, ht2, hw2⟩ := pget ((i + 1) / 2) (by omega)
      have e57 := e5.trans e7
      have i0 : (0 : Int) + (i : Nat) = ((i : Nat) : Int) := Int.zero_add _
      walk_at "rd"
      rw [i0]
      refine r_I (wide_div (b := 10) (by decide) (by decide) (by decide) (by decide)) ?_
      walk_at "rd"
      refine r_ixL (e57 _ _ hP4) (v := .ref t1) (by rw [show (((i : Nat) : Int) / 2) = ((i / 2 : Nat) : Int) from rfl]; exact atI_nat (by rw [List.getElem?_map, ht1]; rfl)) ?_
      walk_at "rd"
      refine r_I (wide_div (b := 10) (by decide) (by decide) (by decide) (by decide)) ?_
      walk_at "rd"
      refine r_ixL (e57 _ _ hP4) (v := .ref t2) (by rw [show ((((i : Nat) : Int) + 1) / 2) = (((i + 1) / 2 : Nat) : Int) from rfl]; exact atI_nat (by rw [List.getElem?_map, ht2]; rfl)) ?_
      walk_at "rd"
      obtain ⟨b1, s1⟩ := (hw1.ex e57).sq
      obtain ⟨b2, s2⟩ := (hw2.ex e57).sq
      exact ⟨b1, b2, t1, t2, _, _, rfl, rfl, s1, s2, by rw [pw_len tb hn]; omega, fun c hc => (pw_z tb _ c hc).mono (by omega), fun c hc => (pw_z tb _ c hc).mono (by omega), fun H8 e8 => kR H8 e8⟩
    · intro D H5 hD e5 h5
      have e5H := e4.trans e5
      walk_at "rd"
      obtain ⟨tn2, htn2, hwn2⟩ := (hla.ex e5H).col hrn
      refine ix_o (hp.ex e5H) rfl (x := .ref tn2) (by rw [List.getElem?_map, htn2]; rfl) ?_
      walk_at "rd"
      refine ix_row hwn2 rfl (grn n hn) ?_
      walk_at "rd"
      refine r_newL (sz_le (by simp)) fun F H6 hF e6 h6 => ?_
      walk_at "rd"
      have h56 := e6 _ _ h5
      refine ⟨D, rfl, ⟨_, SqL.of h56⟩, ?_⟩
      let prods : List Int := (List.range n).map fun i => dotL (pw rs n (i / 2)) (pw rs n ((i + 1) / 2))
      have hpr : H6 D = some (.lst (prods.map V.int)) := by rw [h56, List.map_map]; rfl
      have lpr : prods.length = n := by simp [prods]
      refine r_lcM (n := n) (k := 7) (by have := walk_list (K := K) (a := D) (xs := prods.map V.int); rwa [List.length_map, lpr] at this) (fun i => .int (-(prods.getD i 0))) (by omega) (fun H' e => SqL.of (e _ _ hpr)) (fun _ => rfl) ?_ ?_
      · rintro i y H7 H8 hi e7 ⟨rfl, hy⟩
        refine ⟨Ex.refl _, fun H9 e9 R kR => ?_⟩
        obtain ⟨c, hc, rfl⟩ := int_at hy
        walk_at "rd"
        rw [List.getD_eq_getElem?_getD, hc] at kR
        exact kR _ (Ex.refl _)
      · intro G H7 hG e7 h7
        refine r_cat (e7 _ _ h6) h7 (by simp; omega) fun q H8 hq e8 h8 => ?_
        refine k q H8 ((e5H.trans (e6.trans e7)).free hq) (((e5H.trans e6).trans e7).trans e8) ?_
        rw [h8]
        have e : (List.range n).map (fun i => V.int (-(prods.getD i 0))) = ((List.range n).map fun k => -(dotL (pw rs n (k / 2)) (pw rs n ((k + 1) / 2)))).map V.int := by
          rw [List.map_map]
          refine List.map_congr_left fun i hi => ?_
          have hi := List.mem_range.mp hi
          show V.int (-(prods.getD i 0)) = V.int _
          rw [List.getD_eq_getElem?_getD, List.getElem?_map, List.getElem?_range hi]
          rfl
        rw [e]
        rfl

end K10
namespace K10
open PySem PySem.Spec PyProof.Rows L2 GS TL LamX
local macro_rules | `(tactic| walk_at "rd") => `(tactic| (repeat (first
  | with_reducible refine r_next ?_
  | with_reducible refine r_seq ?_
  | with_reducible refine r_ret ?_
  | with_reducible refine r_ifS ?_
  | with_reducible refine r_asg ?_
  | with_reducible refine r_drop ?_
  | with_reducible refine r_op ?_
  | with_reducible refine r_un ?_
  | with_reducible refine r_cbInt ?_
  | with_reducible refine r_cbAbs ?_
  | with_reducible refine r_cbLen ?_
  | with_reducible refine r_cbList ?_
  | with_reducible refine r_cbTup ?_
  | with_reducible refine r_iEnT ?_
  | with_reducible refine r_iEnL ?_
  | with_reducible refine r_zipA ?_
  | with_reducible refine r_zipX ?_
  | with_reducible refine r_augS ?_
  | with_reducible refine r_cb ?_
  | with_reducible refine r_call ?_
  | with_reducible refine r_make ?_
  | with_reducible refine r_callN0 ?_
  | with_reducible refine r_makeK0 ?_
  | with_reducible refine r_makeS ?_
  | with_reducible refine r_callS ?_
  | with_reducible refine r_cons ?_
  | with_reducible refine r_nil ?_
  | with_reducible refine r_test ?_
  | with_reducible refine r_B ?_
  | with_reducible refine r_and ?_
  | with_reducible refine r_or ?_
  | with_reducible refine r_not ?_
  | with_reducible refine r_andV ?_
  | with_reducible refine r_orV ?_
  | with_reducible refine r_notV ?_
  | with_reducible refine r_if ?_
  | with_reducible refine r_tup ?_
  | with_reducible refine r_lst ?_
  | with_reducible refine r_c ?_
  | with_reducible refine r_lc ?_
  | with_reducible refine r_chain ?_
  | with_reducible refine r_iT ?_
  | with_reducible refine r_iL ?_
  | with_reducible refine r_iR1 ?_
  | with_reducible refine r_iR2 ?_
  | with_reducible refine r_iR3 ?_
  | with_reducible refine r_asgG ?_
  | with_reducible refine r_gSub ?_
  | with_reducible refine r_for ?_
  | with_reducible refine r_smeth ?_
  | with_reducible refine r_par ?_
  | with_reducible refine r_parK ?_
  | with_reducible refine r_gCons ?_
  | with_reducible refine r_gNil ?_
  | with_reducible refine r_gName ?_
  | with_reducible refine r_intI ?_
  | with_reducible refine r_intB ?_
  | with_reducible refine r_absI ?_
  | with_reducible refine r_k ?_
  | with_reducible refine r_kV ?_
  | ((with_reducible show tVar _ _ _ _); refine r_var3 ?_ (by rfl))
  | with_reducible refine r_I0 ?_
  | with_reducible refine r_U ?_
  | with_reducible refine r_eqI ?_
  | with_reducible refine r_neI ?_
  | dsimp only)))
local macro_rules | `(tactic| walk_at "rx") => `(tactic| (repeat (first
  | with_reducible refine r_next ?_
  | with_reducible refine r_ret ?_
  | with_reducible refine r_ifS ?_
  | with_reducible refine r_asg ?_
  | with_reducible refine r_drop ?_
  | with_reducible refine r_op ?_
  | with_reducible refine r_un ?_
  | with_reducible refine r_cbInt ?_
  | with_reducible refine r_cbAbs ?_
  | with_reducible refine r_cbLen ?_
  | with_reducible refine r_cbList ?_
  | with_reducible refine r_cbTup ?_
  | with_reducible refine r_iEnT ?_
  | with_reducible refine r_iEnL ?_
  | with_reducible refine r_zipA ?_
  | with_reducible refine r_zipX ?_
  | with_reducible refine r_augS ?_
  | with_reducible refine r_cb ?_
  | with_reducible refine r_call ?_
  | with_reducible refine r_make ?_
  | with_reducible refine r_callN0 ?_
  | with_reducible refine r_makeK0 ?_
  | with_reducible refine r_makeS ?_
  | with_reducible refine r_callS ?_
  | with_reducible refine r_cons ?_
  | with_reducible refine r_nil ?_
  | with_reducible refine r_test ?_
  | with_reducible refine r_B ?_
  | with_reducible refine r_and ?_
  | with_reducible refine r_or ?_
  | with_reducible refine r_not ?_
  | with_reducible refine r_andV ?_
  | with_reducible refine r_orV ?_
  | with_reducible refine r_notV ?_
  | with_reducible refine r_if ?_
  | with_reducible refine r_tup ?_
  | with_reducible refine r_lst ?_
  | with_reducible refine r_c ?_
  | with_reducible refine r_lc ?_
  | with_reducible refine r_chain ?_
  | with_reducible refine r_iT ?_
  | with_reducible refine r_iL ?_
  | with_reducible refine r_iR1 ?_
  | with_reducible refine r_iR2 ?_
  | with_reducible refine r_iR3 ?_
  | with_reducible refine r_asgG ?_
  | with_reducible refine r_gSub ?_
  | with_reducible refine r_for ?_
  | with_reducible refine r_smeth ?_
  | with_reducible refine r_par ?_
  | with_reducible refine r_parK ?_
  | with_reducible refine r_gCons ?_
  | with_reducible refine r_gNil ?_
  | with_reducible refine r_gName ?_
  | with_reducible refine r_intI ?_
  | with_reducible refine r_intB ?_
  | with_reducible refine r_absI ?_
  | with_reducible refine r_k ?_
  | with_reducible refine r_kV ?_
  | ((with_reducible show tVar _ _ _ _); refine r_var3 ?_ (by rfl))
  | with_reducible refine r_I0 ?_
  | with_reducible refine r_U ?_
  | with_reducible refine r_eqI ?_
  | with_reducible refine r_neI ?_
  | dsimp only)))
theorem tn_len (rs : List (List Int)) (m : Nat) : (tn rs m).length = m + 1 := by cases m <;> simp [tn]
theorem tn_g {rs : List (List Int)} {d : Nat} (t : Tab rs d) : ∀ n, n ≤ d → ∀ (i : Nat) (c : Int), (tn rs n)[i]? = some c → Z (212 * i + 16 * n + 1) c
  | 0, _, i, c, hc => by
    match i, hc with
    | 0, hc =>
      cases hc
      exact (by decide : (1 : Int).natAbs < 2 ^ 1)
  | n + 1, hn, i, c, hc => by
    have d3 := t.d3
    have hi : i < n + 2 := by
      have := (List.getElem?_eq_some_iff.mp hc).1
      rw [tn_len] at this
      exact this
    have hc : ((List.range (n + 2)).map fun a => dotL (tn rs n) ((rowF rs n).take (a + 1)).reverse)[i]? = some c := hc
    rw [List.getElem?_map, List.getElem?_range hi] at hc
    cases hc
    refine (dot_zp (m := 212 * i + 16 * n + 2) (by rw [tn_len]; omega) fun j a b ha hb => ?_).mono (by omega)
    have lr : ((rowF rs n).take (i + 1)).length = i + 1 := by rw [List.length_take, rowF_len]; omega
    have hj : j < i + 1 := by
      have := (List.getElem?_eq_some_iff.mp hb).1
      rw [List.length_reverse, lr] at this
      exact this
    rw [List.getElem?_reverse (by rw [lr]; exact hj), lr, List.getElem?_take, if_pos (by omega)] at hb
    refine ((tn_g t n (by omega) j a ha).mul (rowF_g t (by omega) _ b hb)).mono ?_
    omega
theorem tn_z {rs : List (List Int)} {d : Nat} (t : Tab rs d) (n : Nat) (hn : n ≤ d) : ∀ c ∈ tn rs n, Z 6000 c := fun c hc => by
  obtain ⟨i, hi⟩ := List.getElem?_of_mem hc
  have := (List.getElem?_eq_some_iff.mp hi).1
  rw [tn_len] at this
  have d3 := t.d3
  exact (tn_g t n hn i c hi).mono (by omega)
theorem tn_head (rs : List (List Int)) : ∀ m, (tn rs m).headD 0 = 1
  | 0 => rfl
  | m + 1 => by
    have h := tn_head rs m
    have l := tn_len rs m
    cases q : tn rs m with
    | nil => rw [q] at l; simp at l
    | cons a r =>
      rw [q] at h
      have ha : a = 1 := h
      subst ha
      have e : (tn rs (m + 1)).headD 0 = dotL (tn rs m) ((rowF rs m).take 1).reverse := by
        show ((List.range (m + 2)).map _).headD 0 = _
        rw [show m + 2 = (m + 1) + 1 from rfl, List.range_succ_eq_map]
        rfl
      rw [e, q]
      simp [rowF, dotL]
def spTN (K : PySem.W.Frag) : Sp := sp1 fun v H Q _ => ∃ (b0 : Bool) (p : Addr) (cs : List Addr) (rs : List (List Int)) (d : Nat), v = .ref p ∧ OL b0 H p (cs.map V.ref) ∧ RA H cs rs ∧ Tab rs d ∧ ∀ p H', H p = none → Ex H H' → H' p = some (.lst ((tn rs d).map V.int)) → Q (.ref p) H'
theorem ok_table_numbers {P : Program} {w : World} {K : PySem.W.Frag} {mg : Str → Option Value} {base : Heap} (T : Txt K mg) : ∃ fd, FnOk P w K mg base (L2.CX P w) 4 (He.ga K "table_numbers") fd ["table"] (spTN K) ∧ Binds K fd ["table"] [] := by
  obtain ⟨fd, F⟩ := T.d_table_numbers
  obtain ⟨fd_product_sum, F_product_sum, B_product_sum⟩ := ok_product_sum (P := P) (w := w) (base := base) T
  obtain ⟨fd_row_factors, F_row_factors, B_row_factors⟩ := ok_row_factors (P := P) (w := w) (base := base) T
  refine ⟨fd, F.ok sc_table_numbers sp1_len (fun cdv A outer s H vs Q E hr h => ?_), F.bindsN fun _ _ _ _ _ _ us hl => match us, hl with | [_], _ => rfl⟩
  have hr_product_sum : Room 1 _ := hr.mono (by decide)
  have hr_row_factors : Room 3 _ := hr.mono (by decide)
  obtain ⟨v, rfl, b0, p, cs, rs, d, rfl, hp, hla, tb, k⟩ := sp1_is h
  refine ⟨_, (pss_cons (ps_set (i := 1) sc_table_numbers.nd rfl (Or.inr rfl) (pe_lst (pa_cons pe_int pa_nil)))
      (pss_cons (ps_for (passes_of rfl) rfl (pi_range1 (by rfl) T.b_range (pa_cons (pe_callB (kx_lens rfl) (by rfl) T.b_len PySem.boot_len (pa_cons (pv 0) pa_nil)) pa_nil)) (pg_name (i := 2) sc_table_numbers.nd rfl (Or.inl rfl)) (pss_cons (ps_set (i := 3) sc_table_numbers.nd rfl (Or.inr rfl) (pe_call F_row_factors hr_row_factors (by rfl) T.g_row_factors T.k_row_factors B_row_factors .nil passL (pa_cons (pv 0) (pa_cons (pv 2) pa_nil))))
      (pss_one (ps_set (i := 1) sc_table_numbers.nd rfl (Or.inr rfl) (pe_lc (own := [("at", 4)]) (g := gName 4) (tt := tYes)  rfl sc_table_numbers.nd (pi_range1 (by rfl) T.b_range (pa_cons (pe_op op_add (pv 2) pe_int) pa_nil)) (blkOk_by (own := [("at", 4)]) (N := ["table", "numbers", "size", "factors", "at"]) (sc := defScope s_table_numbers) (by decide +kernel)) (fun _ _ _ _ _ => (pg_name (i := 4) sc_table_numbers.nd rfl (Or.inl rfl))) (fun _ _ _ _ _ => pts_nil) (fun _ _ _ _ _ => (pe_call F_product_sum hr_product_sum (by rfl) T.g_product_sum T.k_product_sum B_product_sum .nil passL (pa_cons (pv 1) (pa_cons (pe_revF (K := K) rfl (pv 3) (pv 4)) pa_nil)))))))))
      (pss_one (ps_ret (pv 1))))), ?_⟩
  have lcs : cs.length = d := by rw [hla.1]; exact tb.len
  have d1 := tb.d1
  have d3 := tb.d3
  walk_at "rd"
  refine r_newL (sz_le (by simp)) fun N0 H1 hN0 e1 h1 => ?_
  walk_at "rd"
  refine len_o (hp.ex e1) ?_
  rw [List.length_map, lcs]
  walk_at "rd"
  refine ⟨_, rfl, by omega, by omega, ?_⟩
  rw [Int.toNat_natCast]
  refine for_of (walk_range (lo := 0) (n := d)) (fun i σ' H' => ∃ q s2 s3, σ' = [some (.ref p), some (.ref q), s2, s3, none] ∧ H q = none ∧ Ex H H' ∧ H' q = some (.lst ((tn rs i).map V.int))) ⟨N0, none, none, rfl, hN0, e1, h1⟩ (fun _ _ _ _ _ => trivial) ?_ ?_
  · rintro i x σ' H3 H2 hi ⟨q, s2, s3, rfl, hq, e2, h2⟩ ⟨rfl, rfl⟩
    refine r_gName ?_
    walk_at "rd"
    refine ⟨b0, p, cs, rs, d, i, rfl, hp.ex e2, hla.ex e2, tb, congrArg V.int (Int.zero_add _), hi, fun F H4 hF e4 h4 => ?_⟩
    walk_at "rd"
    refine ⟨((i + 2 : Nat) : Int), by rw [show ((0 : Int) + (i : Nat) + 2) = ((i + 2 : Nat) : Int) by push_cast; omega], by omega, by omega, ?_⟩
    rw [Int.toNat_natCast]
    refine r_lcM (n := i + 2) (k := 4) walk_range (fun a => .int (dotL (tn rs i) ((rowF rs i).take (a + 1)).reverse)) (by omega) (fun _ _ => trivial) (fun _ => rfl) ?_ ?_
    · rintro a y H5 H6 ha e5 ⟨rfl, rfl⟩
      refine ⟨Ex.refl _, fun H7 e7 R kR => ?_⟩
      have e47 := e5.trans e7
      walk_at "rd"
      refine r_revF ?_
      walk_at "rd"
      refine ⟨_, rfl, F, _, a, rfl, Int.zero_add _, SqL.of (e47 _ _ h4), fun r hr => ?_⟩
      have e8 : Ex H7 (upd H7 r (.lst (((rowF rs i).map V.int |>.take (a + 1)).reverse))) := Ex.new hr
      have h8 : (upd H7 r (.lst (((rowF rs i).map V.int |>.take (a + 1)).reverse))) r = some (.lst ((((rowF rs i).take (a + 1)).reverse).map V.int)) := by rw [upd_same, List.map_reverse, List.map_take]
      generalize upd H7 r (.lst (((rowF rs i).map V.int |>.take (a + 1)).reverse)) = H8 at e8 h8 ⊢
      walk_at "rd"
      exact ⟨false, false, q, r, tn rs i, ((rowF rs i).take (a + 1)).reverse, rfl, rfl, SqL.of (e8 _ _ (e47 _ _ (e4 _ _ h2))), SqL.of h8, by rw [tn_len]; omega, fun c hc => (tn_z tb i (by omega) c hc).mono (by omega), fun c hc => (rowF_z tb hi c (List.mem_of_mem_take (List.mem_reverse.mp hc))).mono (by decide), fun H9 e9 => kR H9 (e8.trans e9)⟩
    · intro D H5 hD e5 h5
      walk_at "rd"
      refine ⟨D, _, _, rfl, (e2.trans e4).free hD, (e2.trans e4).trans e5, ?_⟩
      rw [h5]
      show _ = some (HO.lst (((List.range (i + 2)).map _).map V.int))
      rw [List.map_map]
      rfl
  · rintro σ' H2 ⟨q, s2, s3, rfl, hq, e2, h2⟩
    walk_at "rd"
    exact k q H2 hq e2 h2
theorem Tab.of {rs : List (List Int)} (h1 : 1 ≤ rs.length) (h2 : rs.length ≤ 24) (hr : ∀ r ∈ rs, r.length = rs.length) (hs : (symL rs).all id = true) (hz : ∀ r ∈ rs, ∀ c ∈ r, Z 201 c) : Tab rs rs.length := by
  have half : ∀ i j, i < rs.length → j < i → en rs i j = en rs j i := fun i j hi hj => by
    have := List.all_eq_true.mp hs (decide (en rs i j = en rs j i)) (by
      unfold symL
      exact List.mem_flatten.mpr ⟨_, List.mem_map.mpr ⟨i, List.mem_range.mpr hi, rfl⟩, List.mem_map.mpr ⟨j, List.mem_range.mpr hj, rfl⟩⟩)
    exact of_decide_eq_true this
  refine ⟨rfl, h1, h2, hr, fun i j hi hj => ?_, hz⟩
  rcases Nat.lt_trichotomy i j with c | c | c
  · exact (half j i hj c).symm
  · rw [c]
  · exact half i j hi c
/-- what is handed to table_poly: no table, or a table -/
def NoTab (K : PySem.W.Frag) (H : Hp) (v : V) : Prop := RowB K H v false ∨
  ∃ (b0 : Bool) (p : Addr) (xs : List V) (oks : List Bool), v = .ref p ∧ OL b0 H p xs ∧ xs.length ≤ 60 ∧ oks.length = xs.length ∧ (∀ (i : Nat) (x : V) (b : Bool), xs[i]? = some x → oks[i]? = some b → RowV K H xs.length x b) ∧
    (oks.all id = true → ∃ (cs : List Addr) (rs : List (List Int)), xs = cs.map V.ref ∧ RA H cs rs ∧ (∀ r ∈ rs, r.length = rs.length) ∧ ((symL rs).all id = false ∨ rs.length = 0 ∨ 24 < rs.length))
def spTab (K : PySem.W.Frag) : Sp := sp1 fun v H Q E => (NoTab K H v ∧ Raised K "BadNumber" "part" (.str "table") H E) ∨
  ∃ (b0 : Bool) (p : Addr) (cs : List Addr) (rs : List (List Int)) (d : Nat), v = .ref p ∧ OL b0 H p (cs.map V.ref) ∧ RA H cs rs ∧ Tab rs d ∧ ∀ p H', H p = none → Ex H H' → Pl K H' p (tn rs d) → Q (.ref p) H'
theorem ok_table_poly {P : Program} {w : World} {K : PySem.W.Frag} {mg : Str → Option Value} {base : Heap} (T : Txt K mg) : ∃ fd, FnOk P w K mg base (L2.CX P w) 5 (He.ga K "table_poly") fd ["table"] (spTab K) ∧ Binds K fd ["table"] [] ∧ KBn K fd ["table"] 0 ["table"] (pm [0]) (pm [0]) := by
  obtain ⟨fd, F⟩ := T.d_table_poly
  obtain ⟨fd_Poly_init, F_Poly_init, B_Poly_init⟩ := ok_Poly_init (P := P) (w := w) (base := base) T
  obtain ⟨fd_table_numbers, F_table_numbers, B_table_numbers⟩ := ok_table_numbers (P := P) (w := w) (base := base) T
  obtain ⟨fd_is_table, F_is_table, B_is_table⟩ := ok_is_table (P := P) (w := w) (base := base) T
  obtain ⟨fd_BadNumber_init, F_BadNumber_init, B_BadNumber_init⟩ := ok_BadNumber_init (P := P) (w := w) (base := base) T
  refine ⟨fd, F.ok sc_table_poly sp1_len (fun cdv A outer s H vs Q E hr h => ?_), F.bindsN fun _ _ _ _ _ _ us hl => match us, hl with | [_], _ => rfl, kb_of F 0 ["table"] [0] (fun _ _ _ _ _ _ us ws h1 h2 => match us, ws, h1, h2 with | [], [_], _, _ => rfl)⟩
  have hr_Poly_init : Room 4 _ := hr.mono (by decide)
  have hr_table_numbers : Room 4 _ := hr.mono (by decide)
  have hr_is_table : Room 3 _ := hr.mono (by decide)
  have hr_BadNumber_init : Room 2 _ := hr.mono (by decide)
  obtain ⟨v, rfl, hh⟩ := sp1_is h
  refine ⟨_, (pss_cons (ps_if (PW.pt (pw_or (pt_not (pt_val (pe_call F_is_table hr_is_table (by rfl) T.g_is_table T.k_is_table B_is_table .nil passL (pa_cons (pv 0) pa_nil)))) (pw_or1 (pt_not (pt_chain op_le op_le pe_int (pe_callB (kx_lens rfl) (by rfl) T.b_len PySem.boot_len (pa_cons (pv 0) pa_nil)) (pe_gint rfl T.c_MOST_ROWS)))))) (pss_one (ps_raise rfl (takes_of rfl rfl rfl rfl) (pmk_oex T.e_BadNumber.o T.e_BadNumber.i T.e_BadNumber.t F_BadNumber_init hr_BadNumber_init B_BadNumber_init .nil passL rfl T.g_BadNumber (pa_cons pe_str pa_nil)))) pss_nil)
      (pss_one (ps_ret (pe_make T.mk_Poly F_Poly_init hr_Poly_init (by rfl) T.g_Poly B_Poly_init .nil passL (pa_cons (pe_call F_table_numbers hr_table_numbers (by rfl) T.g_table_numbers T.k_table_numbers B_table_numbers .nil passL (pa_cons (pv 0) pa_nil)) pa_nil))))), ?_⟩
  walk_at "rd"
  rcases hh with ⟨hb, k⟩ | ⟨b0, p, cs, rs, d, rfl, hp, hla, tb, k⟩
  · rcases hb with hr | ⟨b0, p, xs, oks, rfl, hp, hl, ho, hx, k2⟩
    · refine .inl ⟨hr, fun H1 e1 => ⟨_, rfl, ite_t rfl (ite_t rfl ?_)⟩⟩
      walk_at "rd"
      exact r_err rfl fun d H' e hd => k d H' (e1.trans e) hd
    · refine .inr ⟨b0, p, xs, oks, rfl, hp, hl, ho, hx, fun q H1 e1 => ⟨_, rfl, ite_t rfl (ite_t rfl ?_)⟩, fun q => ?_⟩
      · walk_at "rd"
        exact r_err rfl fun d H' e hd => k d H' (e1.trans e) hd
      · obtain ⟨cs, rs, rfl, hla, hrl, bad⟩ := k2 q
        refine ⟨cs, rs, rfl, hla, hrl, fun H1 e1 => ?_⟩
        have lcs : cs.length = rs.length := hla.1
        cases sy : (symL rs).all id with
        | false =>
          refine ⟨_, rfl, ite_t rfl (ite_t rfl ?_)⟩
          walk_at "rd"
          exact r_err rfl fun d H' e hd => k d H' (e1.trans e) hd
        | true =>
          have bad : rs.length = 0 ∨ 24 < rs.length := by
            rcases bad with h | h
            · rw [sy] at h; cases h
            · exact h
          refine ⟨_, rfl, ite_f rfl ?_⟩
          walk_at "rd"
          refine len_o (hp.ex e1) ?_
          rw [List.length_map, lcs]
          refine ⟨_, _, rfl, rfl, _, rfl, ?_⟩
          by_cases c : 1 ≤ rs.length
          · refine ite_t (decide_eq_true (by omega)) ?_
            walk_at "rd"
            refine ite_t (by simp; omega) ?_
            walk_at "rd"
            exact r_err rfl fun d H' e hd => k d H' (e1.trans e) hd
          · refine ite_f (decide_eq_false (by omega)) ?_
            walk_at "rd"
            refine ite_t rfl ?_
            walk_at "rd"
            exact r_err rfl fun d H' e hd => k d H' (e1.trans e) hd
  · have d1 := tb.d1
    have d3 := tb.d3
    have lcs : cs.length = d := by rw [hla.1]; exact tb.len
    have lrs : rs.length = d := tb.len
    have sy : (symL rs).all id = true := by
      refine List.all_eq_true.mpr fun x hx => ?_
      unfold symL at hx
      obtain ⟨l, hl, hx⟩ := List.mem_flatten.mp hx
      obtain ⟨i, hi, rfl⟩ := List.mem_map.mp hl
      obtain ⟨j, hj, rfl⟩ := List.mem_map.mp hx
      have hi := List.mem_range.mp hi
      have hj := List.mem_range.mp hj
      exact decide_eq_true (tb.sym i j (by omega) (by omega))
    refine .inr ⟨b0, p, cs.map V.ref, List.replicate cs.length true, rfl, hp, by rw [List.length_map]; omega, by simp, fun i x b hx hb => ?_, fun q => ?_, fun _ => ⟨cs, rs, rfl, hla, fun r hr => by rw [tb.row r hr, lrs], fun H1 e1 => ?_⟩⟩
    · obtain ⟨t, ht, rfl⟩ := ref_at hx
      obtain ⟨r, hr, hrow⟩ := hla.at ht
      have lr := tb.row r (List.mem_of_getElem? hr)
      have e : b = decide (r.length = (cs.map V.ref).length) := by
        rw [List.length_map, lr, lcs, decide_eq_true rfl]
        exact (List.eq_of_mem_replicate (List.mem_of_getElem? hb))
      rw [e]
      exact .rowI hrow (by omega)
    · simp at q
    · rw [sy]
      refine ⟨_, rfl, ite_f rfl ?_⟩
      walk_at "rd"
      refine len_o (hp.ex e1) ?_
      rw [List.length_map, lcs]
      refine ⟨_, _, rfl, rfl, _, rfl, ?_⟩
      refine ite_t (decide_eq_true (by omega)) ?_
      walk_at "rd"
      refine ite_f (by simp; omega) ?_
      walk_at "rd"
      refine ⟨b0, p, cs, rs, d, rfl, hp.ex e1, hla.ex e1, tb, fun A H2 hA e2 h2 => ?_⟩
      walk_at "rd"
      refine r_Poly ⟨A, rfl, .inl h2⟩ ⟨by rw [tn_len]; omega, by rw [tn_len]; omega, by rw [tn_head]; decide⟩ fun q H3 hq e3 hpl => ?_
      exact k q H3 ((e1.trans e2).free hq) ((e1.trans e2).trans e3) hpl

end K10
namespace K10
open PySem PySem.Spec PyProof.Rows L2 GS TL LamX
local macro_rules | `(tactic| walk_at "rd") => `(tactic| (repeat (first
  | with_reducible refine r_next ?_
  | with_reducible refine r_seq ?_
  | with_reducible refine r_ret ?_
  | with_reducible refine r_ifS ?_
  | with_reducible refine r_asg ?_
  | with_reducible refine r_drop ?_
  | with_reducible refine r_op ?_
  | with_reducible refine r_un ?_
  | with_reducible refine r_cbInt ?_
  | with_reducible refine r_cbAbs ?_
  | with_reducible refine r_cbLen ?_
  | with_reducible refine r_cbList ?_
  | with_reducible refine r_cbTup ?_
  | with_reducible refine r_iEnT ?_
  | with_reducible refine r_iEnL ?_
  | with_reducible refine r_zipA ?_
  | with_reducible refine r_zipX ?_
  | with_reducible refine r_augS ?_
  | with_reducible refine r_cb ?_
  | with_reducible refine r_call ?_
  | with_reducible refine r_make ?_
  | with_reducible refine r_callN0 ?_
  | with_reducible refine r_makeK0 ?_
  | with_reducible refine r_makeS ?_
  | with_reducible refine r_callS ?_
  | with_reducible refine r_cons ?_
  | with_reducible refine r_nil ?_
  | with_reducible refine r_test ?_
  | with_reducible refine r_B ?_
  | with_reducible refine r_and ?_
  | with_reducible refine r_or ?_
  | with_reducible refine r_not ?_
  | with_reducible refine r_andV ?_
  | with_reducible refine r_orV ?_
  | with_reducible refine r_notV ?_
  | with_reducible refine r_if ?_
  | with_reducible refine r_tup ?_
  | with_reducible refine r_lst ?_
  | with_reducible refine r_c ?_
  | with_reducible refine r_lc ?_
  | with_reducible refine r_chain ?_
  | with_reducible refine r_iT ?_
  | with_reducible refine r_iL ?_
  | with_reducible refine r_iR1 ?_
  | with_reducible refine r_iR2 ?_
  | with_reducible refine r_iR3 ?_
  | with_reducible refine r_asgG ?_
  | with_reducible refine r_gSub ?_
  | with_reducible refine r_for ?_
  | with_reducible refine r_smeth ?_
  | with_reducible refine r_par ?_
  | with_reducible refine r_parK ?_
  | with_reducible refine r_gCons ?_
  | with_reducible refine r_gNil ?_
  | with_reducible refine r_gName ?_
  | with_reducible refine r_intI ?_
  | with_reducible refine r_intB ?_
  | with_reducible refine r_absI ?_
  | with_reducible refine r_k ?_
  | with_reducible refine r_kV ?_
  | ((with_reducible show tVar _ _ _ _); refine r_var3 ?_ (by rfl))
  | with_reducible refine r_I0 ?_
  | with_reducible refine r_U ?_
  | with_reducible refine r_eqI ?_
  | with_reducible refine r_neI ?_
  | with_reducible refine r_F ?_
  | dsimp only)))
local macro_rules | `(tactic| walk_at "rx") => `(tactic| (repeat (first
  | with_reducible refine r_next ?_
  | with_reducible refine r_ret ?_
  | with_reducible refine r_ifS ?_
  | with_reducible refine r_asg ?_
  | with_reducible refine r_drop ?_
  | with_reducible refine r_op ?_
  | with_reducible refine r_un ?_
  | with_reducible refine r_cbInt ?_
  | with_reducible refine r_cbAbs ?_
  | with_reducible refine r_cbLen ?_
  | with_reducible refine r_cbList ?_
  | with_reducible refine r_cbTup ?_
  | with_reducible refine r_iEnT ?_
  | with_reducible refine r_iEnL ?_
  | with_reducible refine r_zipA ?_
  | with_reducible refine r_zipX ?_
  | with_reducible refine r_augS ?_
  | with_reducible refine r_cb ?_
  | with_reducible refine r_call ?_
  | with_reducible refine r_make ?_
  | with_reducible refine r_callN0 ?_
  | with_reducible refine r_makeK0 ?_
  | with_reducible refine r_makeS ?_
  | with_reducible refine r_callS ?_
  | with_reducible refine r_cons ?_
  | with_reducible refine r_nil ?_
  | with_reducible refine r_test ?_
  | with_reducible refine r_B ?_
  | with_reducible refine r_and ?_
  | with_reducible refine r_or ?_
  | with_reducible refine r_not ?_
  | with_reducible refine r_andV ?_
  | with_reducible refine r_orV ?_
  | with_reducible refine r_notV ?_
  | with_reducible refine r_if ?_
  | with_reducible refine r_tup ?_
  | with_reducible refine r_lst ?_
  | with_reducible refine r_c ?_
  | with_reducible refine r_lc ?_
  | with_reducible refine r_chain ?_
  | with_reducible refine r_iT ?_
  | with_reducible refine r_iL ?_
  | with_reducible refine r_iR1 ?_
  | with_reducible refine r_iR2 ?_
  | with_reducible refine r_iR3 ?_
  | with_reducible refine r_asgG ?_
  | with_reducible refine r_gSub ?_
  | with_reducible refine r_for ?_
  | with_reducible refine r_smeth ?_
  | with_reducible refine r_par ?_
  | with_reducible refine r_parK ?_
  | with_reducible refine r_gCons ?_
  | with_reducible refine r_gNil ?_
  | with_reducible refine r_gName ?_
  | with_reducible refine r_intI ?_
  | with_reducible refine r_intB ?_
  | with_reducible refine r_absI ?_
  | with_reducible refine r_k ?_
  | with_reducible refine r_kV ?_
  | ((with_reducible show tVar _ _ _ _); refine r_var3 ?_ (by rfl))
  | with_reducible refine r_I0 ?_
  | with_reducible refine r_U ?_
  | with_reducible refine r_eqI ?_
  | with_reducible refine r_neI ?_
  | with_reducible refine r_F ?_
  | dsimp only)))
theorem Z.small {i : Int} (h : i.natAbs < 10000000000) : Z 34 i := Nat.lt_trans h (by decide)
theorem pow1018 : (10 : Int) ^ (18 : Int).toNat = 1000000000000000000 := rfl
theorem p10 (k : Nat) (h : k ≤ 100000) : CPowW 10 (k : Int) := cpow_of (n := 4) (k := k) (by decide) (by omega)
/-! ### the bag -/
def spBag (K : PySem.W.Frag) : Sp := sp1 fun v H Q _ => ∃ (L : Addr) (xs : List Int), v = .ref L ∧ SqL K H L (xs.map V.int) ∧ (∀ x ∈ xs, Z 2000000 x) ∧ ∀ b H', Ex H H' → H b = none → Bag H' b 0 → Q (.ref b) H'
theorem cut_map (xs : List Int) (n : Nat) : cutV (xs.map V.int) none (some (n : Int)) = (xs.take n).map V.int := by
  unfold cutV
  rw [HT.sIx_none, HT.sIx_nat, List.drop_zero, List.length_map, Nat.sub_zero, List.map_take]
  by_cases c : n ≤ xs.length
  · rw [Nat.min_eq_left c]
  · rw [Nat.min_eq_right (by omega), List.take_of_length_le (by simp), List.take_of_length_le (by simp; omega)]
theorem ok__law_tub {P : Program} {w : World} {K : PySem.W.Frag} {mg : Str → Option Value} {base : Heap} (T : Txt K mg) : ∃ fd, FnOk P w K mg base (L2.CX P w) 1 (He.ga K "_law_tub") fd ["script"] (spBag K) ∧ Binds K fd ["script"] [] := by
  obtain ⟨fd, F⟩ := T.d__law_tub
  refine ⟨fd, F.ok sc__law_tub sp1_len (fun cdv A outer s H vs Q E hr h => ?_), F.bindsN fun _ _ _ _ _ _ us hl => match us, hl with | [_], _ => rfl⟩
  obtain ⟨v, rfl, L, xs, rfl, hL, hz, k⟩ := sp1_is h
  refine ⟨_, (pss_one (ps_ret (pe_lst (pa_cons (pe_lc (own := [("cell", 1)]) (g := gName 1) (tt := tYes)  rfl sc__law_tub.nd (pi_list (pe_slice sl_list (pv 0) po_none (po_some pe_int))) (blkOk_by (own := [("cell", 1)]) (N := ["script", "cell"]) (sc := defScope s__law_tub) (by decide +kernel)) (fun _ _ _ _ _ => (pg_name (i := 1) sc__law_tub.nd rfl (Or.inl rfl))) (fun _ _ _ _ _ => pts_nil) (fun _ _ _ _ _ => (pe_callTy call_int1 (by rfl) T.b_int (by decide +kernel) (pa_cons (pv 1) pa_nil)))) (pa_cons pe_int (pa_cons pe_int pa_nil)))))), ?_⟩
  walk_at "rd"
  refine ⟨V.ref L, rfl, 60, rfl, L, _, rfl, hL, fun p hp => ⟨p, rfl, ⟨_, SqL.of upd_same⟩, ?_⟩⟩
  rw [show (60 : Int) = ((60 : Nat) : Int) from rfl, cut_map]
  have hn : (xs.take 60).length ≤ 60 := by rw [List.length_take]; omega
  have e0 : Ex H (upd H p (.lst ((xs.take 60).map V.int))) := Ex.new hp
  have h0 : (upd H p (.lst ((xs.take 60).map V.int))) p = some (.lst ((xs.take 60).map V.int)) := upd_same
  generalize upd H p (.lst ((xs.take 60).map V.int)) = H0 at e0 h0 ⊢
  generalize hy : xs.take 60 = ys at hn h0
  refine r_lcM (n := ys.length) (k := 1) (by simpa using walk_list (xs := ys.map V.int)) (fun j => .int (ys.getD j 0)) (by omega) (fun H' e => SqL.of (e _ _ h0)) (fun _ => rfl) ?_ ?_
  · rintro j y H1 H' hj e1 ⟨rfl, hy⟩
    refine ⟨Ex.refl _, fun H3 e3 R r => ?_⟩
    have : y = .int (ys.getD j 0) := by
      have := hy
      rw [List.getElem?_map] at this
      rw [List.getD_eq_getElem?_getD]
      cases q : ys[j]? with
      | none => rw [q] at this; cases this
      | some a => rw [q] at this; exact (Option.some.inj this).symm
    subst this
    walk_at "rd"
    exact r H3 (Ex.refl _)
  · intro q H2 hq e2 hl
    rw [range_map] at hl
    walk_at "rd"
    refine r_newL (sz_le (by simp)) fun b H3 hb e3 h3 => ?_
    have hbH : H b = none := (e0.trans e2).free hb
    refine k b H3 ((e0.trans e2).trans e3) hbH ⟨q, ys, 0, 0, h3, e3 _ _ hl, ?_, Int.le_refl _, Int.le_refl _, Int.le_refl _, (by omega), fun x hx => hz x ?_⟩
    · exact ne_of_none hl hb
    · rw [← hy] at hx
      exact List.mem_of_mem_take hx
theorem ok__law_scoop {P : Program} {w : World} {K : PySem.W.Frag} {mg : Str → Option Value} {base : Heap} (T : Txt K mg) : ∃ fd, FnOk P w K mg base (L2.CX P w) 1 (He.ga K "_law_scoop") fd ["tub", "many"] (spDrawG) ∧ Binds K fd ["tub", "many"] [] := by
  obtain ⟨fd, F⟩ := T.d__law_scoop
  refine ⟨fd, F.ok sc__law_scoop sp2_len (fun cdv A outer s H vs Q E hr h => ?_), F.bindsN fun _ _ _ _ _ _ us hl => match us, hl with | [_, _], _ => rfl⟩
  obtain ⟨b0, m0, rfl, b, m, n, rfl, rfl, m1, mz, hn, hbag, k⟩ := sp2_is h
  refine ⟨_, (pss_cons (ps_if (pt_cmpR op_gt (pe_ix (kx_ixl rfl) (pv 0) pe_int (fun _ _ => rfl)) pe_int (nomark _)) (pss_cons (ps_set (i := 2) sc__law_scoop.nd rfl (Or.inl rfl) (pe_callTy call_int1 (by rfl) T.b_int (by decide +kernel) (pa_cons (pe_ix (kx_ixl rfl) (pv 0) pe_int (fun _ _ => rfl)) pa_nil)))
      (pss_cons (ps_asg (pe_op op_fdivW (pv 2) (pv 1)) (pg_sub (pv 0) pe_int set_list))
      (pss_one (ps_ret (pe_op op_mod (pe_callTy call_int1 (by rfl) T.b_int (by decide +kernel) (pa_cons (pv 2) pa_nil)) (pv 1)))))) pss_nil)
      (pss_cons (ps_set (i := 3) sc__law_scoop.nd rfl (Or.inl rfl) (pe_ix (kx_ixl rfl) (pv 0) pe_int (fun _ _ => rfl)))
      (pss_cons (ps_asg (pe_op op_add (pv 3) pe_int) (pg_sub (pv 0) pe_int set_list))
      (pss_cons (ps_set (i := 4) sc__law_scoop.nd rfl (Or.inl rfl) (pe_op op_add (pe_op op_mulB pe_int (pv 3)) pe_int))
      (pss_cons (ps_if (pt_cmpR (op_neD hr.units) (pe_ix (kx_ixl rfl) (pv 0) pe_int (fun _ _ => rfl)) (pe_lst pa_nil) (nomark _)) (pss_one (ps_set (i := 4) sc__law_scoop.nd rfl (Or.inl rfl) (pe_ix (kx_ixl rfl) (pe_ix (kx_ixl rfl) (pv 0) pe_int (fun _ _ => rfl)) (pe_op op_mod (pe_callTy call_int1 (by rfl) T.b_int (by decide +kernel) (pa_cons (pv 3) pa_nil)) (pe_callB (kx_lens rfl) (by rfl) T.b_len PySem.boot_len (pa_cons (pe_ix (kx_ixl rfl) (pv 0) pe_int (fun _ _ => rfl)) pa_nil))) (fun _ _ => rfl)))) pss_nil)
      (pss_cons (ps_if (PW.pt (pw_and (pt_cmpR op_lt (pv 3) (pe_callB (kx_lens rfl) (by rfl) T.b_len PySem.boot_len (pa_cons (pe_ix (kx_ixl rfl) (pv 0) pe_int (fun _ _ => rfl)) pa_nil)) (nomark _)) (pw_and1 (pt_cmpR op_ge (pe_callB call_abs (by rfl) T.b_abs (by decide +kernel) (pa_cons (pv 4) pa_nil)) (pe_op op_powW pe_int pe_int) (nomark _))))) (pss_cons (ps_set (i := 2) sc__law_scoop.nd rfl (Or.inl rfl) (pe_op op_add (pe_op op_mulB pe_int (pe_op op_sub (pe_callB call_abs (by rfl) T.b_abs (by decide +kernel) (pa_cons (pv 4) pa_nil)) (pe_op op_powW pe_int pe_int))) (pe_callTy call_int1 (by rfl) T.b_int (by decide +kernel) (pa_cons (pe_cmpR op_lt (pv 4) pe_int (nomark _)) pa_nil))))
      (pss_cons (ps_asg (pe_op op_fdivW (pv 2) (pv 1)) (pg_sub (pv 0) pe_int set_list))
      (pss_one (ps_ret (pe_op op_mod (pe_callTy call_int1 (by rfl) T.b_int (by decide +kernel) (pa_cons (pv 2) pa_nil)) (pv 1)))))) pss_nil)
      (pss_cons (ps_set (i := 5) sc__law_scoop.nd rfl (Or.inl rfl) (pe_op op_mod (pe_callTy call_int1 (by rfl) T.b_int (by decide +kernel) (pa_cons (pe_op op_powW (pe_op op_add (pe_op op_add (pe_op op_mod (pe_callTy call_int1 (by rfl) T.b_int (by decide +kernel) (pa_cons (pv 4) pa_nil)) pe_int) (pe_op op_mulB pe_int (pv 3))) pe_int) pe_int) pa_nil)) pe_int))
      (pss_cons (ps_set (i := 5) sc__law_scoop.nd rfl (Or.inl rfl) (pe_op op_mod (pe_callTy call_int1 (by rfl) T.b_int (by decide +kernel) (pa_cons (pe_op op_powW (pe_op op_add (pe_op op_add (pe_op op_mulB (pv 5) (pe_op op_add (pe_op op_mulB pe_int (pv 3)) pe_int)) (pe_op op_mulB (pe_op op_mulB pe_int (pv 3)) (pv 3))) pe_int) pe_int) pa_nil)) pe_int))
      (pss_one (ps_ret (pe_op op_mod (pe_callTy call_int1 (by rfl) T.b_int (by decide +kernel) (pa_cons (pe_op op_fdivW (pv 5) pe_int) pa_nil)) (pv 1)))))))))))), ?_⟩
  obtain ⟨L, xs, a, l, hb, hL, hne, ha, han, hl, hx, hz⟩ := hbag.is
  have cd : ∀ i : Int, CDivW i m := fun i => wide_div m1 mz (by decide) (by decide)
  have fin : ∀ (H' : Hp) (x y r : Int), Bu b H H' → H' b = some (.lst [.ref L, .int y, .int x]) → 0 ≤ y → y ≤ n + 1 → 0 ≤ x → 0 ≤ r → r < m → Q (.int r) H' := fun H' x y r hbu hat y0 y1 x0 r0 r1 =>
    k r H' r0 r1 ⟨hbu, fun L' _ _ h => by rw [hb] at h; cases h; exact ⟨_, _, hat⟩⟩ ⟨L, xs, y, x, hat, hbu _ _ hne hL, hne, y0, y1, x0, hx, hz⟩
  have mn : ∀ i : Int, 0 ≤ i % m := fun i => Int.emod_nonneg _ (by omega)
  have ml : ∀ i : Int, i % m < m := fun i => Int.emod_lt_of_pos _ m1
  have dn : ∀ i : Int, 0 ≤ i → 0 ≤ i / m := fun i hi => Int.ediv_nonneg hi (by omega)
  walk_at "rd"
  refine r_ixL hb (v := .int l) rfl ?_
  walk_at "rd"
  by_cases c : 0 < l
  · refine ite_t (decide_eq_true c) ?_
    walk_at "rd"
    refine r_ixL hb (v := .int l) rfl ?_
    walk_at "rd"
    refine r_I (cd l) ?_
    walk_at "rd"
    refine r_setL hb (n := 2) rfl ?_
    walk_at "rd"
    refine r_I m1 ?_
    exact fin _ (l / m) a _ Bu.upd upd_same ha (by omega) (dn l hl) (mn l) (ml l)
  · refine ite_f (decide_eq_false c) ?_
    walk_at "rd"
    refine r_ixL hb (v := .int a) rfl ?_
    walk_at "rd"
    refine r_setL hb (n := 1) rfl ?_
    have za : Z 34 a := Z.small (by omega)
    have hL1 : ∀ o, (upd H b o) L = some (.lst (xs.map V.int)) := fun o => by rw [upd_ne hne]; exact hL
    have hB1 : Bu b H (upd H b (.lst ([V.ref L, .int a, .int l].set 1 (.int (a + 1))))) := Bu.upd
    have hb1 : (upd H b (.lst ([V.ref L, .int a, .int l].set 1 (.int (a + 1))))) b = some (.lst [.ref L, .int (a + 1), .int l]) := upd_same
    have hL1 := hB1 _ _ hne hL
    generalize upd H b _ = H1 at hB1 hb1 hL1 ⊢
    walk_at "rd"
    refine r_I (mulB_of (a := 34) (b := 34) (by decide) za (by decide) (by decide) (by decide)) ?_
    walk_at "rx"
    have z0 : Z 60 (90619 * a + 7283) := by
      unfold Z
      have : (2 : Nat) ^ 60 = 1152921504606846976 := rfl
      omega
    refine r_seqJ (fun σ' H' => ∃ cell, Z 2000000 cell ∧ Ex H1 H' ∧ σ' = [some (.ref b), some (.int m), none, some (.int a), some (.int cell), none]) (fun N hN => ?_) ?_
    · walk_at "rd"
      refine r_ixL hb1 (v := .ref L) rfl ?_
      walk_at "rd"
      refine r_newL (sz_le (by simp)) fun q H2 hq e2 h2 => ?_
      refine r_neInts (xs := xs) (ys := []) (e2 _ _ hL1) h2 ?_
      walk_at "rd"
      by_cases cx : xs = []
      · refine ite_f (by simp [cx]) ?_
        exact hN _ _ ⟨_, z0.mono (by decide), e2, rfl⟩
      · refine ite_t (by simp [cx]) ?_
        walk_at "rd"
        refine r_ixL (e2 _ _ hb1) (v := .ref L) rfl ?_
        walk_at "rd"
        refine r_ixL (e2 _ _ hb1) (v := .ref L) rfl ?_
        walk_at "rd"
        refine r_lenL (e2 _ _ hL1) ?_
        have hpos : 0 < xs.length := List.length_pos_iff.mpr cx
        rw [List.length_map]
        refine r_I (by omega) ?_
        obtain ⟨j, hj⟩ : ∃ j : Nat, a % (xs.length : Int) = (j : Int) := ⟨(a % (xs.length : Int)).toNat, by have := Int.emod_nonneg a (show (xs.length : Int) ≠ 0 by omega); omega⟩
        have hjl : j < xs.length := by have := Int.emod_lt_of_pos a (show (0 : Int) < xs.length by omega); omega
        rw [hj]
        refine r_ixL (e2 _ _ hL1) (v := .int xs[j]) (atI_nat (by rw [List.getElem?_map]; simp [hjl])) ?_
        walk_at "rd"
        exact hN _ _ ⟨xs[j], hz _ (List.getElem_mem hjl), e2, rfl⟩
    · rintro σ' H2 ⟨cell, zc, e2, rfl⟩
      have hb2 := e2 _ _ hb1
      have hL2 := e2 _ _ hL1
      have hB2 : Bu b H H2 := hB1.trans (Bu.of e2)
      refine r_seqJ (fun σ' H' => H' = H2 ∧ σ' = [some (.ref b), some (.int m), none, some (.int a), some (.int cell), none]) (fun N hN => ?_) ?_
      · walk_at "rd"
        refine r_ixL hb2 (v := .ref L) rfl ?_
        walk_at "rd"
        refine r_lenL hL2 ?_
        walk_at "rd"
        refine ite_b (fun _ => ?_) fun _ => ?_
        · walk_at "rd"
          refine r_pow (p10 18 (by decide)) pow1018 ?_
          walk_at "rd"
          refine ite_b (fun c2 => ?_) fun _ => ?_
          · have c3 : (1000000000000000000 : Int) ≤ (if cell < 0 then -cell else cell) := of_decide_eq_true c2
            have zd : Z 2000001 ((if cell < 0 then -cell else cell) - 1000000000000000000) := by
              refine Z.sub ?_ (Z.mono (n := 64) (by unfold Z; decide) (by decide))
              unfold Z at *
              split <;> omega
            walk_at "rd"
            refine r_pow (p10 18 (by decide)) pow1018 ?_
            walk_at "rd"
            refine r_I (mulB_of (i := 2) (a := 2) (by decide) zd (by decide) (by decide) (by decide)) ?_
            walk_at "rd"
            have hl2 : 0 ≤ 2 * ((if cell < 0 then -cell else cell) - 1000000000000000000) + (if decide (cell < 0) = true then 1 else 0) := by split <;> omega
            generalize 2 * ((if cell < 0 then -cell else cell) - 1000000000000000000) + (if decide (cell < 0) = true then 1 else 0) = t at hl2 ⊢
            refine r_I (cd t) ?_
            walk_at "rd"
            refine r_setL hb2 (n := 2) rfl ?_
            walk_at "rd"
            refine r_I m1 ?_
            exact fin _ (t / m) (a + 1) _ (hB2.trans Bu.upd) upd_same (by omega) (by omega) (dn t hl2) (mn t) (ml t)
          · exact hN _ _ ⟨rfl, rfl⟩
        · exact hN _ _ ⟨rfl, rfl⟩
      · rintro σ' H3 ⟨rfl, rfl⟩
        have pm : ∀ (i M : Int), 0 < M → M < 2147483648 → Z 34 (i % M) := fun i M h1 h2 => Z.small (by have := Int.emod_nonneg i (show M ≠ 0 by omega); have := Int.emod_lt_of_pos i h1; omega)
        walk_at "rd"
        refine r_I (by decide) ?_
        walk_at "rd"
        refine r_I (mulB_of (a := 34) (b := 34) (by decide) za (by decide) (by decide) (by decide)) ?_
        walk_at "rd"
        have z1 : Z 70 (cell % 2147483563 + 55331 * a + 7283) := by
          have := pm cell 2147483563 (by decide) (by decide)
          unfold Z at *
          have e1 : (2 : Nat) ^ 70 = 1180591620717411303424 := rfl
          have e2 : (2 : Nat) ^ 34 = 17179869184 := rfl
          omega
        refine r_I (cpow_of (n := 70) (k := 5) z1 (by decide)) ?_
        walk_at "rd"
        refine r_I (by decide) ?_
        walk_at "rd"
        refine r_I (mulB_of (a := 34) (b := 34) (by decide) za (by decide) (by decide) (by decide)) ?_
        walk_at "rd"
        generalize hx1 : (cell % 2147483563 + 55331 * a + 7283) ^ ((5 : Nat) : Int).toNat % 2147483549 = x1
        have zx1 : Z 34 x1 := by rw [← hx1]; exact pm _ _ (by decide) (by decide)
        have z2 : Z 40 (2 * a + 3571) := by
          unfold Z
          have e1 : (2 : Nat) ^ 40 = 1099511627776 := rfl
          omega
        refine r_I (mulB_of zx1 z2 (by decide) (by decide) (by decide)) ?_
        walk_at "rd"
        refine r_I (mulB_of (a := 34) (b := 34) (by decide) za (by decide) (by decide) (by decide)) ?_
        walk_at "rd"
        have z3 : Z 60 (90619 * a) := by
          unfold Z
          have : (2 : Nat) ^ 60 = 1152921504606846976 := rfl
          omega
        refine r_I (mulB_of z3 za (by decide) (by decide) (by decide)) ?_
        walk_at "rd"
        have z4 : Z 120 (x1 * (2 * a + 3571) + 90619 * a * a + 55331) := by
          refine (((zx1.mul z2).mono (m := 100) (by decide)).add ((z3.mul za).mono (m := 100) (by decide))).mono (m := 110) (by decide) |>.add (Z.mono (n := 34) (by unfold Z; decide) (by decide)) |>.mono (by decide)
        refine r_I (cpow_of (n := 120) (k := 3) z4 (by decide)) ?_
        walk_at "rd"
        refine r_I (by decide) ?_
        walk_at "rd"
        refine r_I (wide_div (b := 10) (by decide) (by decide) (by decide) (by decide)) ?_
        walk_at "rd"
        refine r_I m1 ?_
        exact fin _ l (a + 1) _ hB2 hb2 (by omega) (by omega) hl (mn _) (ml _)
/-! ### what is drawn -/
def spPick : Sp := sp2 fun b l H Q _ => ∃ (p : Addr) (n : Int) (L : Addr) (xs : List V), b = .ref p ∧ l = .ref L ∧ H L = some (.lst xs) ∧ L ≠ p ∧ xs ≠ [] ∧ xs.length ≤ 1000 ∧ n ≤ 100000 ∧ Bag H p n ∧ ∀ v H', v ∈ xs → Bg p H H' → Bag H' p (n + 1) → Q v H'
theorem ok__law_pick {P : Program} {w : World} {K : PySem.W.Frag} {mg : Str → Option Value} {base : Heap} (T : Txt K mg) : ∃ fd, FnOk P w K mg base (L2.CX P w) 2 (He.ga K "_law_pick") fd ["tub", "some"] (spPick) ∧ Binds K fd ["tub", "some"] [] := by
  obtain ⟨fd, F⟩ := T.d__law_pick
  obtain ⟨fd__law_scoop, F__law_scoop, B__law_scoop⟩ := ok__law_scoop (P := P) (w := w) (base := base) T
  refine ⟨fd, F.ok sc__law_pick sp2_len (fun cdv A outer s H vs Q E hr h => ?_), F.bindsN fun _ _ _ _ _ _ us hl => match us, hl with | [_, _], _ => rfl⟩
  have hr__law_scoop : Room 1 _ := hr.mono (by decide)
  obtain ⟨b0, l0, rfl, p, n, L, xs, rfl, rfl, hL, hne, hx, hl, hn, hb, k⟩ := sp2_is h
  refine ⟨_, (pss_one (ps_ret (pe_ix (kx_ixl rfl) (pv 1) (pe_call F__law_scoop hr__law_scoop (by rfl) T.g__law_scoop T.k__law_scoop B__law_scoop .nil passL (pa_cons (pv 0) (pa_cons (pe_callB (kx_lens rfl) (by rfl) T.b_len PySem.boot_len (pa_cons (pv 1) pa_nil)) pa_nil))) (fun _ _ => rfl)))), ?_⟩
  walk_at "rd"
  refine r_lenL hL ?_
  walk_at "rd"
  have h0 : 0 < xs.length := List.length_pos_iff.mpr hx
  refine r_DrawG hb hn (by omega) (Z.mono (n := 34) (Z.small (by omega)) (by decide)) fun r H' r0 r1 bu hb' => ?_
  walk_at "rd"
  have hj : r.toNat < xs.length := by omega
  have er : r = (r.toNat : Int) := by omega
  rw [er]
  refine r_ixL (bu.at_ hne hL) (v := xs[r.toNat]) (atI_nat (by simp [hj])) ?_
  exact k _ H' (List.getElem_mem hj) bu hb'
/-- one of a list that was just laid -/
theorem r_One {H H0 : Hp} {Q : VK} {E : XK} {p L : Addr} {n : Int} {xs : List V} (hb : Bag H p n) (hL : H L = some (.lst xs)) (no : ∀ l x y, HO.lst xs ≠ .lst [.ref l, .int x, .int y]) (hx : xs ≠ []) (hl : xs.length ≤ 1000) (hn : n ≤ 100000) (k : ∀ v H', v ∈ xs → Bg p H H' → Bag H' p (n + 1) → Q v H') : spPick ([.ref p, .ref L] ++ []) H Q E :=
  ⟨p, n, L, xs, rfl, rfl, hL, hb.ne hL no, hx, hl, hn, hb, k⟩
theorem zsm {i : Int} (h : i.natAbs < 10000000000) : Z 1000 i := Z.mono (n := 34) (Z.small h) (by decide)
theorem Bg.free {p D : Addr} {H H' : Hp} {n : Int} (g : Bg p H H') (hb : Bag H p n) (hD : H' D = none) : H D = none := by
  cases e : H D with
  | none => rfl
  | some o =>
    have np : D ≠ p := by
      rintro rfl
      obtain ⟨L, xs, x, y, h1, _⟩ := hb.is
      obtain ⟨x', y', h'⟩ := g.2 L _ _ h1
      rw [hD] at h'
      cases h'
    rw [g.at_ np e] at hD
    cases hD

end K10
namespace K10
open PySem PySem.Spec PyProof.Rows L2 GS TL LamX
local macro_rules | `(tactic| walk_at "rd") => `(tactic| (repeat (first
  | with_reducible refine r_next ?_
  | with_reducible refine r_seq ?_
  | with_reducible refine r_ret ?_
  | with_reducible refine r_ifS ?_
  | with_reducible refine r_asg ?_
  | with_reducible refine r_drop ?_
  | with_reducible refine r_op ?_
  | with_reducible refine r_un ?_
  | with_reducible refine r_cbInt ?_
  | with_reducible refine r_cbAbs ?_
  | with_reducible refine r_cbLen ?_
  | with_reducible refine r_cbList ?_
  | with_reducible refine r_cbTup ?_
  | with_reducible refine r_iEnT ?_
  | with_reducible refine r_iEnL ?_
  | with_reducible refine r_zipA ?_
  | with_reducible refine r_zipX ?_
  | with_reducible refine r_augS ?_
  | with_reducible refine r_cb ?_
  | with_reducible refine r_call ?_
  | with_reducible refine r_make ?_
  | with_reducible refine r_callN0 ?_
  | with_reducible refine r_makeK0 ?_
  | with_reducible refine r_makeS ?_
  | with_reducible refine r_callS ?_
  | with_reducible refine r_cons ?_
  | with_reducible refine r_nil ?_
  | with_reducible refine r_test ?_
  | with_reducible refine r_B ?_
  | with_reducible refine r_and ?_
  | with_reducible refine r_or ?_
  | with_reducible refine r_not ?_
  | with_reducible refine r_andV ?_
  | with_reducible refine r_orV ?_
  | with_reducible refine r_notV ?_
  | with_reducible refine r_if ?_
  | with_reducible refine r_tup ?_
  | with_reducible refine r_lst ?_
  | with_reducible refine r_c ?_
  | with_reducible refine r_lc ?_
  | with_reducible refine r_chain ?_
  | with_reducible refine r_iT ?_
  | with_reducible refine r_iL ?_
  | with_reducible refine r_iR1 ?_
  | with_reducible refine r_iR2 ?_
  | with_reducible refine r_iR3 ?_
  | with_reducible refine r_asgG ?_
  | with_reducible refine r_gSub ?_
  | with_reducible refine r_for ?_
  | with_reducible refine r_smeth ?_
  | with_reducible refine r_par ?_
  | with_reducible refine r_parK ?_
  | with_reducible refine r_gCons ?_
  | with_reducible refine r_gNil ?_
  | with_reducible refine r_gName ?_
  | with_reducible refine r_intI ?_
  | with_reducible refine r_intB ?_
  | with_reducible refine r_absI ?_
  | with_reducible refine r_k ?_
  | with_reducible refine r_kV ?_
  | ((with_reducible show tVar _ _ _ _); refine r_var3 ?_ (by rfl))
  | with_reducible refine r_I0 ?_
  | with_reducible refine r_U ?_
  | with_reducible refine r_eqI ?_
  | with_reducible refine r_neI ?_
  | with_reducible refine r_F ?_
  | dsimp only)))
local macro_rules | `(tactic| walk_at "rx") => `(tactic| (repeat (first
  | with_reducible refine r_next ?_
  | with_reducible refine r_ret ?_
  | with_reducible refine r_ifS ?_
  | with_reducible refine r_asg ?_
  | with_reducible refine r_drop ?_
  | with_reducible refine r_op ?_
  | with_reducible refine r_un ?_
  | with_reducible refine r_cbInt ?_
  | with_reducible refine r_cbAbs ?_
  | with_reducible refine r_cbLen ?_
  | with_reducible refine r_cbList ?_
  | with_reducible refine r_cbTup ?_
  | with_reducible refine r_iEnT ?_
  | with_reducible refine r_iEnL ?_
  | with_reducible refine r_zipA ?_
  | with_reducible refine r_zipX ?_
  | with_reducible refine r_augS ?_
  | with_reducible refine r_cb ?_
  | with_reducible refine r_call ?_
  | with_reducible refine r_make ?_
  | with_reducible refine r_callN0 ?_
  | with_reducible refine r_makeK0 ?_
  | with_reducible refine r_makeS ?_
  | with_reducible refine r_callS ?_
  | with_reducible refine r_cons ?_
  | with_reducible refine r_nil ?_
  | with_reducible refine r_test ?_
  | with_reducible refine r_B ?_
  | with_reducible refine r_and ?_
  | with_reducible refine r_or ?_
  | with_reducible refine r_not ?_
  | with_reducible refine r_andV ?_
  | with_reducible refine r_orV ?_
  | with_reducible refine r_notV ?_
  | with_reducible refine r_if ?_
  | with_reducible refine r_tup ?_
  | with_reducible refine r_lst ?_
  | with_reducible refine r_c ?_
  | with_reducible refine r_lc ?_
  | with_reducible refine r_chain ?_
  | with_reducible refine r_iT ?_
  | with_reducible refine r_iL ?_
  | with_reducible refine r_iR1 ?_
  | with_reducible refine r_iR2 ?_
  | with_reducible refine r_iR3 ?_
  | with_reducible refine r_asgG ?_
  | with_reducible refine r_gSub ?_
  | with_reducible refine r_for ?_
  | with_reducible refine r_smeth ?_
  | with_reducible refine r_par ?_
  | with_reducible refine r_parK ?_
  | with_reducible refine r_gCons ?_
  | with_reducible refine r_gNil ?_
  | with_reducible refine r_gName ?_
  | with_reducible refine r_intI ?_
  | with_reducible refine r_intB ?_
  | with_reducible refine r_absI ?_
  | with_reducible refine r_k ?_
  | with_reducible refine r_kV ?_
  | ((with_reducible show tVar _ _ _ _); refine r_var3 ?_ (by rfl))
  | with_reducible refine r_I0 ?_
  | with_reducible refine r_U ?_
  | with_reducible refine r_eqI ?_
  | with_reducible refine r_neI ?_
  | with_reducible refine r_F ?_
  | dsimp only)))
theorem r_whileI {tt : TT} {tb : TS} {D : Ends} {σ : L2.St} {H : Hp} (W : Nat → L2.St → Hp → Prop) (m0 : Nat) (h0 : W m0 σ H) (h : ∀ m σ H, W m σ H → tt σ H fun b H1 => if b = true then ∃ N : L2.St → Hp → Prop, (∀ σ' H', N σ' H' → ∃ m', m' < m ∧ W m' σ' H') ∧ tb { D with nx := N, ct := N, bk := D.nx } σ H1 else D.nx σ H1) : tWhile tt tb D σ H := ⟨W, ⟨m0, h0⟩, h⟩
theorem erase_map : ∀ (us : List Int) (j : Nat), (us.map V.int).eraseIdx j = (us.eraseIdx j).map V.int
  | [], _ => rfl
  | u :: us, 0 => rfl
  | u :: us, j + 1 => by
    show V.int u :: (us.map V.int).eraseIdx j = _
    rw [erase_map us j]
    rfl
theorem erase_perm : ∀ (us : List Int) (j : Nat) (h : j < us.length), ([us[j]] ++ us.eraseIdx j).Perm us
  | u :: us, 0, _ => List.Perm.refl _
  | u :: us, j + 1, h => by
    have ih := erase_perm us j (by simpa using h)
    exact (List.Perm.swap u (us[j]'(by simpa using h)) (us.eraseIdx j)).trans (List.Perm.cons u ih)
theorem pow1060 : (10 : Int) ^ (60 : Int).toNat = 1000000000000000000000000000000000000000000000000000000000000 := rfl
theorem pow106 : (10 : Int) ^ (6 : Int).toNat = 1000000 := rfl
def spStir (K : PySem.W.Frag) : Sp := sp2 fun b l H Q _ => ∃ (p : Addr) (n : Int) (L : Addr) (ns : List Int), b = .ref p ∧ l = .ref L ∧ H L = some (.lst (ns.map V.int)) ∧ ns.length ≤ 60 ∧ n ≤ 90000 ∧ Bag H p n ∧ ∀ (q : Addr) (zs : List Int) (H' : Hp), zs.Perm ns → H q = none → H' q = some (.lst (zs.map V.int)) → Bg p H H' → Bag H' p (n + 60) → Q (.ref q) H'
theorem ok__law_stirred {P : Program} {w : World} {K : PySem.W.Frag} {mg : Str → Option Value} {base : Heap} (T : Txt K mg) : ∃ fd, FnOk P w K mg base (L2.CX P w) 2 (He.ga K "_law_stirred") fd ["tub", "some"] (spStir K) ∧ Binds K fd ["tub", "some"] [] := by
  obtain ⟨fd, F⟩ := T.d__law_stirred
  obtain ⟨fd__law_scoop, F__law_scoop, B__law_scoop⟩ := ok__law_scoop (P := P) (w := w) (base := base) T
  refine ⟨fd, F.ok sc__law_stirred sp2_len (fun cdv A outer s H vs Q E hr h => ?_), F.bindsN fun _ _ _ _ _ _ us hl => match us, hl with | [_, _], _ => rfl⟩
  have hr__law_scoop : Room 1 _ := hr.mono (by decide)
  obtain ⟨b0, l0, rfl, p, n, L, ns, rfl, rfl, hL, hl, hn, hb, k⟩ := sp2_is h
  refine ⟨_, (pss_cons (ps_par (i := 2) (j := 3) (by rfl) sc__law_stirred.nd rfl rfl (by decide) rfl rfl (pa_cons (pe_callTy call_list_of (by rfl) T.b_list (by decide +kernel) (pa_cons (pv 1) pa_nil)) (pa_cons (pe_lst pa_nil) pa_nil)) (by rfl))
      (pss_cons (ps_while (passes_of rfl) (pt_cmpR (op_neD hr.units) (pv 2) (pe_lst pa_nil) (nomark _)) (pss_one (ps_expr (pe_bm PySem.F.plainAttrs_list PySem.F.slot_list_append PySem.F.type_list_append mt_append (pv 3) (pa_cons (pe_bm PySem.F.plainAttrs_list PySem.F.slot_list_pop PySem.F.type_list_pop mt_popAt (pv 2) (pa_cons (pe_call F__law_scoop hr__law_scoop (by rfl) T.g__law_scoop T.k__law_scoop B__law_scoop .nil passL (pa_cons (pv 0) (pa_cons (pe_callB (kx_lens rfl) (by rfl) T.b_len PySem.boot_len (pa_cons (pv 2) pa_nil)) pa_nil))) pa_nil)) pa_nil)))))
      (pss_one (ps_ret (pv 3))))), ?_⟩
  walk_at "rd"
  refine r_list (.inl (SqL.of hL)) fun l H1 nl e1 h1 => ?_
  walk_at "rd"
  refine r_newL (xs := []) (sz_le (by simp)) fun f H2 nf e2 h2 => ?_
  refine r_parK ?_
  walk_at "rd"
  have nl2 : H l = none := nl
  have nf2 : H f = none := e1.free nf
  have lf : l ≠ f := ne_of_none h1 nf
  have b2 := hb.ex (e1.trans e2)
  have lp : l ≠ p := fun z => by obtain ⟨L1, xs, a, x, h, _⟩ := hb.is; rw [z, h] at nl2; cases nl2
  have fp : f ≠ p := fun z => by obtain ⟨L1, xs, a, x, h, _⟩ := hb.is; rw [z, h] at nf2; cases nf2
  refine r_whileI (fun m σ' H' => ∃ us zs : List Int, m = us.length ∧ σ' = [some (.ref p), some (.ref L), some (.ref l), some (.ref f)] ∧ H' l = some (.lst (us.map V.int)) ∧ H' f = some (.lst (zs.map V.int)) ∧ (zs ++ us).Perm ns ∧ Bg p H H' ∧ Bag H' p (n + (zs.length : Int))) ns.length ⟨ns, [], rfl, rfl, e2 _ _ h1, h2, by simp, Bg.of (e1.trans e2), b2.le (by simp)⟩ ?_
  rintro m σ' H3 ⟨us, zs, rfl, rfl, h3, g3, pm, bg, bb⟩
  have len : zs.length + us.length = ns.length := by rw [← List.length_append]; exact pm.length_eq
  walk_at "rd"
  refine r_newL (xs := []) (sz_le (by simp)) fun q4 H4 _ e4 h4 => ?_
  refine r_neInts (ys := []) (e4 _ _ h3) h4 ?_
  refine ⟨_, rfl, ?_⟩
  by_cases c : us = []
  · subst c
    refine ite_f (by simp) ?_
    walk_at "rd"
    exact k f zs H4 (by simpa using pm) nf2 (e4 _ _ g3) (bg.trans (Bg.of e4)) ((bb.ex e4).le (by simp at len; omega))
  · refine ite_t (by simp [c]) ?_
    have pos : 0 < us.length := List.length_pos_iff.mpr c
    refine ⟨_, fun _ _ h => h, ?_⟩
    walk_at "rd"
    refine r_bm ?_
    walk_at "rd"
    refine ⟨tyL (e4 _ _ g3), ?_⟩
    walk_at "rd"
    refine r_bm ?_
    walk_at "rd"
    refine ⟨tyL (e4 _ _ h3), ?_⟩
    walk_at "rd"
    refine r_lenL (e4 _ _ h3) ?_
    rw [List.length_map]
    walk_at "rd"
    refine r_DrawG (bb.ex e4) (by omega) (by omega) (Z.mono (n := 34) (Z.small (by omega)) (by decide)) fun r H5 r0 r1 g5 b5 => ?_
    have er : r = (r.toNat : Int) := by omega
    rw [er]
    have hr' : r.toNat < us.length := by omega
    generalize r.toNat = j at hr'
    have h5 := g5.at_ lp (e4 _ _ h3)
    have f5 := g5.at_ fp (e4 _ _ g3)
    walk_at "rd"
    have bg5 := (bg.trans (Bg.of e4)).trans g5
    refine ⟨l, _, (j : Int), j, .int us[j], rfl, rfl, h5, by omega, by omega, by rw [List.length_map]; exact (ixN_seq (ixN_nat hr')).1, by simp [hr'], ?_⟩
    rw [erase_map]
    walk_at "rd"
    refine r_app (by rw [upd_ne (Ne.symm lf)]; exact f5) (by rw [List.length_map]; omega) ?_
    have e1' : (upd (upd H5 l (.lst ((us.eraseIdx j).map V.int))) f (.lst (zs.map V.int ++ [V.int us[j]]))) l = some (.lst ((us.eraseIdx j).map V.int)) := by rw [upd_ne lf, upd_same]
    have e2' : (upd (upd H5 l (.lst ((us.eraseIdx j).map V.int))) f (.lst (zs.map V.int ++ [V.int us[j]]))) f = some (.lst ((zs ++ [us[j]]).map V.int)) := by rw [upd_same, List.map_append]; rfl
    have bgn : Bg p H (upd (upd H5 l (.lst ((us.eraseIdx j).map V.int))) f (.lst (zs.map V.int ++ [V.int us[j]]))) := (bg5.updD hb nl2).updD hb nf2
    have bbn := (b5.updD hb bg5 nl2 (o := .lst ((us.eraseIdx j).map V.int))).updD hb (bg5.updD hb nl2) nf2 (o := .lst (zs.map V.int ++ [V.int us[j]]))
    refine ⟨(us.eraseIdx j).length, by rw [List.length_eraseIdx_of_lt hr']; omega, us.eraseIdx j, zs ++ [us[j]], rfl, rfl, e1', e2', ?_, bgn, bbn.le (by simp; omega)⟩
    refine List.Perm.trans ?_ pm
    rw [List.append_assoc]
    exact List.Perm.append_left zs (erase_perm us j hr')
def spNumber (K : PySem.W.Frag) : Sp := sp1 fun b H Q _ => ∃ (p : Addr) (n : Int), b = .ref p ∧ n ≤ 90000 ∧ Bag H p n ∧ ∀ c H', Z 201 c → Bg p H H' → Bag H' p (n + 3) → Q (.int c) H'
theorem ok__law_number {P : Program} {w : World} {K : PySem.W.Frag} {mg : Str → Option Value} {base : Heap} (T : Txt K mg) : ∃ fd, FnOk P w K mg base (L2.CX P w) 3 (He.ga K "_law_number") fd ["tub"] (spNumber K) ∧ Binds K fd ["tub"] [] := by
  obtain ⟨fd, F⟩ := T.d__law_number
  obtain ⟨fd__law_pick, F__law_pick, B__law_pick⟩ := ok__law_pick (P := P) (w := w) (base := base) T
  obtain ⟨fd__law_scoop, F__law_scoop, B__law_scoop⟩ := ok__law_scoop (P := P) (w := w) (base := base) T
  refine ⟨fd, F.ok sc__law_number sp1_len (fun cdv A outer s H vs Q E hr h => ?_), F.bindsN fun _ _ _ _ _ _ us hl => match us, hl with | [_], _ => rfl⟩
  have hr__law_pick : Room 2 _ := hr.mono (by decide)
  have hr__law_scoop : Room 1 _ := hr.mono (by decide)
  obtain ⟨b0, rfl, p, n, rfl, hn, hb, k⟩ := sp1_is h
  refine ⟨_, (pss_cons (ps_set (i := 1) sc__law_number.nd rfl (Or.inl rfl) (pe_call F__law_pick hr__law_pick (by rfl) T.g__law_pick T.k__law_pick B__law_pick .nil passL (pa_cons (pv 0) (pa_cons (pe_lst (pa_cons pe_int (pa_cons pe_int (pa_cons pe_int (pa_cons pe_int (pa_cons pe_int (pa_cons (pe_op op_powW pe_int pe_int) (pa_cons (pe_op op_powW pe_int pe_int) pa_nil)))))))) pa_nil))))
      (pss_cons (ps_set (i := 2) sc__law_number.nd rfl (Or.inl rfl) (pe_call F__law_scoop hr__law_scoop (by rfl) T.g__law_scoop T.k__law_scoop B__law_scoop .nil passL (pa_cons (pv 0) (pa_cons (pe_callB (call_min2 rfl) (by rfl) T.b_min (by decide +kernel) (pa_cons (pv 1) (pa_cons pe_int pa_nil))) pa_nil))))
      (pss_one (ps_ret (pe_op op_mulW (pe_call F__law_pick hr__law_pick (by rfl) T.g__law_pick T.k__law_pick B__law_pick .nil passL (pa_cons (pv 0) (pa_cons (pe_lst (pa_cons pe_int (pa_cons (pe_un un_neg pe_int) pa_nil))) pa_nil))) (pe_ifExp (pt_cmpR op_lt (pv 1) (pe_op op_powW pe_int pe_int) (nomark _)) (pv 2) (pe_op op_sub (pe_op op_sub (pv 1) pe_int) (pv 2)))))))), ?_⟩
  walk_at "rd"
  refine r_pow (p10 18 (by decide)) pow1018 ?_
  walk_at "rd"
  refine r_pow (p10 60 (by decide)) pow1060 ?_
  walk_at "rd"
  refine r_newL (sz_le (by simp)) fun q1 H1 _ e1 h1 => ?_
  refine r_One (H0 := H1) (hb.ex e1) h1 (fun _ _ _ z => by cases z) (by simp) (by simp) (by omega) fun v H2 hv g2 b2 => ?_
  obtain ⟨m, rfl, m0, m1⟩ : ∃ m : Int, v = .int m ∧ 1 ≤ m ∧ m ≤ 1000000000000000000000000000000000000000000000000000000000000 := by
    simp only [List.mem_cons, List.mem_nil_iff, or_false] at hv
    rcases hv with rfl | rfl | rfl | rfl | rfl | rfl | rfl
    all_goals exact ⟨_, rfl, by decide, by decide⟩
  walk_at "rd"
  refine ⟨_, _, rfl, ?_⟩
  walk_at "rd"
  have mn : 0 < (if 1000003 < m then 1000003 else m) ∧ (if 1000003 < m then 1000003 else m) ≤ m ∧ (if 1000003 < m then 1000003 else m) ≤ 1000003 := by split <;> omega
  generalize (if 1000003 < m then 1000003 else m) = mm at mn ⊢
  refine r_DrawG b2 (by omega) mn.1 (zsm (by omega)) fun r H3 r0 r1 g3 b3 => ?_
  walk_at "rd"
  refine r_newL (sz_le (by simp)) fun q4 H4 _ e4 h4 => ?_
  refine r_One (H0 := H4) (b3.ex e4) h4 (fun _ _ _ z => by cases z) (by simp) (by simp) (by omega) fun v H5 hv g5 b5 => ?_
  obtain ⟨sgn, rfl, sg⟩ : ∃ m : Int, v = .int m ∧ (m = 1 ∨ m = -1) := by
    simp only [List.mem_cons, List.mem_nil_iff, or_false] at hv
    rcases hv with rfl | rfl
    · exact ⟨_, rfl, .inl rfl⟩
    · exact ⟨_, rfl, .inr rfl⟩
  walk_at "rd"
  refine r_pow (p10 6 (by decide)) pow106 ?_
  walk_at "rd"
  have out : ∀ c : Int, 0 ≤ c → c ≤ m → Z 200 c ∧ Z 201 (sgn * c) := fun c c0 c1 => by
    have big : (1000000000000000000000000000000000000000000000000000000000000 : Nat) < 2 ^ 200 := by decide
    have zc : c.natAbs < 2 ^ 200 := by omega
    refine ⟨zc, ?_⟩
    have : (sgn * c).natAbs = c.natAbs := by rcases sg with rfl | rfl <;> simp
    show (sgn * c).natAbs < 2 ^ 201
    rw [this]
    exact Nat.lt_trans zc (by decide)
  have zs : Z 10 sgn := by rcases sg with rfl | rfl <;> (unfold Z; decide)
  have gg : Bg p H H5 := ((((Bg.of e1).trans g2).trans g3).trans (Bg.of e4)).trans g5
  refine ite_b (fun c => ?_) fun c => ?_
  · walk_at "rd"
    obtain ⟨z1, z2⟩ := out r r0 (by omega)
    refine r_I (mulOk zs z1 (by decide) (by decide) (by decide)) ?_
    exact k _ H5 z2 gg (b5.le (by omega))
  · walk_at "rd"
    obtain ⟨z1, z2⟩ := out (m - 1 - r) (by omega) (by omega)
    refine r_I (mulOk zs z1 (by decide) (by decide) (by decide)) ?_
    exact k _ H5 z2 gg (b5.le (by omega))

end K10
namespace K10
open PySem PySem.Spec PyProof.Rows L2 GS TL LamX
local macro_rules | `(tactic| walk_at "rd") => `(tactic| (repeat (first
  | with_reducible refine r_next ?_
  | with_reducible refine r_seq ?_
  | with_reducible refine r_ret ?_
  | with_reducible refine r_ifS ?_
  | with_reducible refine r_asg ?_
  | with_reducible refine r_drop ?_
  | with_reducible refine r_op ?_
  | with_reducible refine r_un ?_
  | with_reducible refine r_cbInt ?_
  | with_reducible refine r_cbAbs ?_
  | with_reducible refine r_cbLen ?_
  | with_reducible refine r_cbList ?_
  | with_reducible refine r_cbTup ?_
  | with_reducible refine r_iEnT ?_
  | with_reducible refine r_iEnL ?_
  | with_reducible refine r_zipA ?_
  | with_reducible refine r_zipX ?_
  | with_reducible refine r_augS ?_
  | with_reducible refine r_cb ?_
  | with_reducible refine r_call ?_
  | with_reducible refine r_make ?_
  | with_reducible refine r_callN0 ?_
  | with_reducible refine r_makeK0 ?_
  | with_reducible refine r_makeS ?_
  | with_reducible refine r_callS ?_
  | with_reducible refine r_cons ?_
  | with_reducible refine r_nil ?_
  | with_reducible refine r_test ?_
  | with_reducible refine r_B ?_
  | with_reducible refine r_and ?_
  | with_reducible refine r_or ?_
  | with_reducible refine r_not ?_
  | with_reducible refine r_andV ?_
  | with_reducible refine r_orV ?_
  | with_reducible refine r_notV ?_
  | with_reducible refine r_if ?_
  | with_reducible refine r_tup ?_
  | with_reducible refine r_lst ?_
  | with_reducible refine r_c ?_
  | with_reducible refine r_lc ?_
  | with_reducible refine r_chain ?_
  | with_reducible refine r_iT ?_
  | with_reducible refine r_iL ?_
  | with_reducible refine r_iR1 ?_
  | with_reducible refine r_iR2 ?_
  | with_reducible refine r_iR3 ?_
  | with_reducible refine r_asgG ?_
  | with_reducible refine r_gSub ?_
  | with_reducible refine r_for ?_
  | with_reducible refine r_smeth ?_
  | with_reducible refine r_par ?_
  | with_reducible refine r_parK ?_
  | with_reducible refine r_gCons ?_
  | with_reducible refine r_gNil ?_
  | with_reducible refine r_gName ?_
  | with_reducible refine r_intI ?_
  | with_reducible refine r_intB ?_
  | with_reducible refine r_absI ?_
  | with_reducible refine r_k ?_
  | with_reducible refine r_kV ?_
  | ((with_reducible show tVar _ _ _ _); refine r_var3 ?_ (by rfl))
  | with_reducible refine r_I0 ?_
  | with_reducible refine r_U ?_
  | with_reducible refine r_eqI ?_
  | with_reducible refine r_neI ?_
  | with_reducible refine r_F ?_
  | dsimp only)))
local macro_rules | `(tactic| walk_at "rx") => `(tactic| (repeat (first
  | with_reducible refine r_next ?_
  | with_reducible refine r_ret ?_
  | with_reducible refine r_ifS ?_
  | with_reducible refine r_asg ?_
  | with_reducible refine r_drop ?_
  | with_reducible refine r_op ?_
  | with_reducible refine r_un ?_
  | with_reducible refine r_cbInt ?_
  | with_reducible refine r_cbAbs ?_
  | with_reducible refine r_cbLen ?_
  | with_reducible refine r_cbList ?_
  | with_reducible refine r_cbTup ?_
  | with_reducible refine r_iEnT ?_
  | with_reducible refine r_iEnL ?_
  | with_reducible refine r_zipA ?_
  | with_reducible refine r_zipX ?_
  | with_reducible refine r_augS ?_
  | with_reducible refine r_cb ?_
  | with_reducible refine r_call ?_
  | with_reducible refine r_make ?_
  | with_reducible refine r_callN0 ?_
  | with_reducible refine r_makeK0 ?_
  | with_reducible refine r_makeS ?_
  | with_reducible refine r_callS ?_
  | with_reducible refine r_cons ?_
  | with_reducible refine r_nil ?_
  | with_reducible refine r_test ?_
  | with_reducible refine r_B ?_
  | with_reducible refine r_and ?_
  | with_reducible refine r_or ?_
  | with_reducible refine r_not ?_
  | with_reducible refine r_andV ?_
  | with_reducible refine r_orV ?_
  | with_reducible refine r_notV ?_
  | with_reducible refine r_if ?_
  | with_reducible refine r_tup ?_
  | with_reducible refine r_lst ?_
  | with_reducible refine r_c ?_
  | with_reducible refine r_lc ?_
  | with_reducible refine r_chain ?_
  | with_reducible refine r_iT ?_
  | with_reducible refine r_iL ?_
  | with_reducible refine r_iR1 ?_
  | with_reducible refine r_iR2 ?_
  | with_reducible refine r_iR3 ?_
  | with_reducible refine r_asgG ?_
  | with_reducible refine r_gSub ?_
  | with_reducible refine r_for ?_
  | with_reducible refine r_smeth ?_
  | with_reducible refine r_par ?_
  | with_reducible refine r_parK ?_
  | with_reducible refine r_gCons ?_
  | with_reducible refine r_gNil ?_
  | with_reducible refine r_gName ?_
  | with_reducible refine r_intI ?_
  | with_reducible refine r_intB ?_
  | with_reducible refine r_absI ?_
  | with_reducible refine r_k ?_
  | with_reducible refine r_kV ?_
  | ((with_reducible show tVar _ _ _ _); refine r_var3 ?_ (by rfl))
  | with_reducible refine r_I0 ?_
  | with_reducible refine r_U ?_
  | with_reducible refine r_eqI ?_
  | with_reducible refine r_neI ?_
  | with_reducible refine r_F ?_
  | dsimp only)))
/-- d rows of d numbers, the same at i, j and j, i -/
structure Sy (rs : List (List Int)) (d : Nat) : Prop where
  len : rs.length = d
  row : ∀ r ∈ rs, r.length = d
  sym : ∀ i j, i < d → j < d → en rs i j = en rs j i
  b : ∀ i j, i < d → j < d → Z 201 (en rs i j)
def put (rs : List (List Int)) (i j : Nat) (n : Int) : List (List Int) := rs.set i ((rs.getD i []).set j n)
structure Rw (rs : List (List Int)) (d : Nat) : Prop where
  len : rs.length = d
  row : ∀ r ∈ rs, r.length = d
theorem Rw.at {rs : List (List Int)} {d : Nat} (t : Rw rs d) {i : Nat} (hi : i < d) : ∃ r, rs[i]? = some r ∧ rs.getD i [] = r ∧ r.length = d := by
  have hl : i < rs.length := by rw [t.len]; exact hi
  exact ⟨rs[i], by simp [hl], by simp [hl], t.row _ (List.getElem_mem hl)⟩
theorem Rw.put {rs : List (List Int)} {d i j : Nat} {n : Int} (t : Rw rs d) (hi : i < d) : Rw (put rs i j n) d := by
  obtain ⟨r, hr, er, lr⟩ := t.at hi
  refine ⟨by simp [K10.put, t.len], fun q hq => ?_⟩
  rcases List.mem_or_eq_of_mem_set hq with z | z
  · exact t.row q z
  · rw [z, List.length_set, er, lr]
theorem en_put {rs : List (List Int)} {d i j a b : Nat} {n : Int} (t : Rw rs d) (hi : i < d) (hj : j < d) : en (put rs i j n) a b = if a = i ∧ b = j then n else en rs a b := by
  obtain ⟨r, hr, er, lr⟩ := t.at hi
  have hl : i < rs.length := by rw [t.len]; exact hi
  unfold en put
  rw [er]
  by_cases c : a = i
  · subst c
    rw [show (rs.set a (r.set j n)).getD a [] = r.set j n by simp [List.getD_eq_getElem?_getD, hl], er]
    by_cases c2 : b = j
    · subst c2
      rw [if_pos ⟨rfl, rfl⟩]
      simp [List.getD_eq_getElem?_getD, lr, hj]
    · rw [if_neg (fun z => c2 z.2), List.getD_eq_getElem?_getD, List.getElem?_set_ne (fun z => c2 z.symm), List.getD_eq_getElem?_getD]
  · rw [if_neg (fun z => c z.1)]
    congr 1
    rw [List.getD_eq_getElem?_getD, List.getElem?_set_ne (fun z => c z.symm), List.getD_eq_getElem?_getD]
theorem Sy.rw {rs : List (List Int)} {d : Nat} (t : Sy rs d) : Rw rs d := ⟨t.len, t.row⟩
theorem Sy.put2 {rs : List (List Int)} {d i j : Nat} {n : Int} (t : Sy rs d) (hi : i < d) (hj : j < d) (h0 : Z 201 n) : Sy (put (put rs i j n) j i n) d := by
  have t1 := t.rw.put (j := j) (n := n) hi
  have t2 := t1.put (j := i) (n := n) hj
  refine ⟨t2.len, t2.row, fun a b ha hb => ?_, fun a b ha hb => ?_⟩
  · rw [en_put t1 hj hi, en_put t.rw hi hj, en_put t1 hj hi, en_put t.rw hi hj, t.sym a b ha hb]
    by_cases c1 : a = j ∧ b = i
    · rw [if_pos c1]
      by_cases c3 : b = j ∧ a = i
      · rw [if_pos c3]
      · rw [if_neg c3, if_pos (by omega)]
    · rw [if_neg c1]
      by_cases c2 : a = i ∧ b = j
      · rw [if_pos c2, if_pos (by omega)]
      · rw [if_neg c2, if_neg (by omega), if_neg (by omega)]
  · rw [en_put t1 hj hi, en_put t.rw hi hj]
    have := t.b a b ha hb
    by_cases c1 : a = j ∧ b = i
    · rw [if_pos c1]; exact h0
    · rw [if_neg c1]
      by_cases c2 : a = i ∧ b = j
      · rw [if_pos c2]; exact h0
      · rw [if_neg c2]; exact this
theorem Sy.zero {d : Nat} : Sy ((List.range d).map fun _ => GM.zr d) d := by
  have z : ∀ i j, i < d → en ((List.range d).map fun _ => GM.zr d) i j = 0 := fun i j hi => by
    simp only [en, List.getD_eq_getElem?_getD, List.getElem?_map, List.getElem?_range hi, Option.map_some, Option.getD_some]
    unfold GM.zr
    by_cases c : j < d
    · simp [c]
    · simp [c]
  refine ⟨by simp, fun r hr => ?_, fun i j hi hj => by rw [z i j hi, z j i hj], fun i j hi hj => by rw [z i j hi]; unfold Z; decide⟩
  obtain ⟨_, _, rfl⟩ := List.mem_map.mp hr
  simp [GM.zr]
theorem la_put {H : Hp} {ts : List Addr} {rs : List (List Int)} {i : Nat} {t : Addr} {r : List Int} (h : LA H ts rs) (nd : ts.Nodup) (ht : ts[i]? = some t) : LA (upd H t (.lst (r.map V.int))) ts (rs.set i r) := by
  refine ⟨by simp [h.1], fun j u v h1 h2 => ?_⟩
  rw [List.getElem?_set] at h2
  by_cases e : i = j
  · subst e
    rw [if_pos rfl] at h2
    split at h2
    · cases h2
      rw [ht] at h1
      cases h1
      exact upd_same
    · cases h2
  · rw [if_neg e] at h2
    have hne : u ≠ t := fun z => by
      subst z
      have l1 := (List.getElem?_eq_some_iff.mp ht).1
      exact e ((List.getElem?_inj l1 nd).mp (ht.trans h1.symm))
    rw [upd_ne hne]
    exact h.2 j u v h1 h2
theorem LA.bg {H H' : Hp} {p : Addr} {n : Int} {ts : List Addr} {rs : List (List Int)} (h : LA H ts rs) (hb : Bag H p n) (g : Bg p H H') : LA H' ts rs := ⟨h.1, fun j t r h1 h2 => by
  have := h.2 j t r h1 h2
  refine g.at_ (hb.ne this fun L x y z => ?_) this
  injection z with z
  cases r with
  | nil => cases z
  | cons a r => injection z with z1; cases z1⟩
theorem ls_ne {H : Hp} {p q : Addr} {n : Int} {cs : List Addr} (hb : Bag H p n) (h : H q = some (.lst (cs.map V.ref))) : q ≠ p := hb.ne h fun L x y z => by
  injection z with z
  match cs, z with
  | a :: b :: _, z => injection z with _ z; injection z with z; cases z
theorem Sy.tab {rs : List (List Int)} {d : Nat} (t : Sy rs d) (d1 : 1 ≤ d) (d3 : d ≤ 24) : Tab rs d := ⟨t.len, d1, d3, t.row, t.sym, fun r hr c hc => by
  obtain ⟨i, hi⟩ := List.getElem?_of_mem hr
  obtain ⟨j, hj⟩ := List.getElem?_of_mem hc
  have li := (List.getElem?_eq_some_iff.mp hi).1
  have lj := (List.getElem?_eq_some_iff.mp hj).1
  have := t.row r hr
  have e : en rs i j = c := by simp [en, List.getD_eq_getElem?_getD, hi, hj]
  have := t.b i j (by rw [← t.len]; exact li) (by omega)
  rw [e] at this
  exact this⟩
def spTable : Sp := sp3 fun b s kd H Q _ => ∃ (p : Addr) (n : Int) (d : Nat) (kind : Int), b = .ref p ∧ s = .int d ∧ kd = .int kind ∧ 1 ≤ d ∧ d ≤ 24 ∧ n ≤ 80000 ∧ Bag H p n ∧
  ∀ q cs rs H', H q = none → (∀ t ∈ cs, H t = none) → cs.Nodup → q ∉ cs → Bg p H H' → Bag H' p (n + 3000) → H' q = some (.lst (cs.map V.ref)) → LA H' cs rs → Sy rs d → Q (.ref q) H'
theorem ok__law_table {P : Program} {w : World} {K : PySem.W.Frag} {mg : Str → Option Value} {base : Heap} (T : Txt K mg) : ∃ fd, FnOk P w K mg base (L2.CX P w) 4 (He.ga K "_law_table") fd ["tub", "size", "kind"] (spTable) ∧ Binds K fd ["tub", "size", "kind"] [] := by
  obtain ⟨fd, F⟩ := T.d__law_table
  obtain ⟨fd__law_number, F__law_number, B__law_number⟩ := ok__law_number (P := P) (w := w) (base := base) T
  obtain ⟨fd__law_scoop, F__law_scoop, B__law_scoop⟩ := ok__law_scoop (P := P) (w := w) (base := base) T
  refine ⟨fd, F.ok sc__law_table sp3_len (fun cdv A outer s H vs Q E hr h => ?_), F.bindsN fun _ _ _ _ _ _ us hl => match us, hl with | [_, _, _], _ => rfl⟩
  have hr__law_number : Room 3 _ := hr.mono (by decide)
  have hr__law_scoop : Room 1 _ := hr.mono (by decide)
  obtain ⟨b0, s0, k0, rfl, p, n, d, kind, rfl, rfl, rfl, d1, d4, hn, hb, k⟩ := sp3_is h
  refine ⟨_, (pss_cons (ps_setLc (i := 3) (own := [("row", 4)]) (g := gName 4) (tt := tYes)  rfl sc__law_table.nd rfl rfl (sw_true rfl rfl rfl (by decide +kernel)) (pi_range1 (by rfl) T.b_range (pa_cons (pv 1) pa_nil)) (blkOk_by (own := [("row", 4)]) (N := ["tub", "size", "kind", "rows", "row", "one", "other", "number"]) (sc := defScope s__law_table) (by decide +kernel)) (fun _ _ _ _ _ => (pg_name (i := 4) sc__law_table.nd rfl (Or.inl rfl))) (fun _ _ _ _ _ => pts_nil) (fun _ _ _ _ _ => (pe_op op_rep (pe_lst (pa_cons pe_int pa_nil)) (pv 1))))
      (pss_cons (ps_for (passes_of rfl) rfl (pi_range1 (by rfl) T.b_range (pa_cons (pv 1) pa_nil)) (pg_name (i := 5) sc__law_table.nd rfl (Or.inl rfl)) (pss_one (ps_for (passes_of rfl) rfl (pi_range1 (by rfl) T.b_range (pa_cons (pe_op op_add (pv 5) pe_int) pa_nil)) (pg_name (i := 6) sc__law_table.nd rfl (Or.inl rfl)) (pss_cons (ps_set (i := 7) sc__law_table.nd rfl (Or.inl rfl) (pe_op op_sub (pe_call F__law_scoop hr__law_scoop (by rfl) T.g__law_scoop T.k__law_scoop B__law_scoop .nil passL (pa_cons (pv 0) (pa_cons pe_int pa_nil))) pe_int))
      (pss_cons (ps_if (PW.pt (pw_or (pt_cmpR op_eq (pv 2) pe_int (nomark _)) (pw_or1 (PW.pt (pw_and (pt_cmpR op_eq (pv 2) pe_int (nomark _)) (pw_and1 (pt_cmpR op_eq (pv 5) (pv 6) (nomark _)))))))) (pss_one (ps_set (i := 7) sc__law_table.nd rfl (Or.inl rfl) (pe_call F__law_number hr__law_number (by rfl) T.g__law_number T.k__law_number B__law_number .nil passL (pa_cons (pv 0) pa_nil)))) pss_nil)
      (pss_cons (ps_asg (pv 7) (pg_sub (pe_ix (kx_ixl rfl) (pv 3) (pv 5) (fun _ _ => rfl)) (pv 6) set_list))
      (pss_one (ps_asg (pv 7) (pg_sub (pe_ix (kx_ixl rfl) (pv 3) (pv 6) (fun _ _ => rfl)) (pv 5) set_list)))))))))
      (pss_one (ps_ret (pv 3))))), ?_⟩
  walk_at "rd"
  refine ⟨_, rfl, by omega, by omega, ?_⟩
  rw [Int.toNat_natCast]
  refine r_lcLs (n := d) (k := 4) walk_range (fun _ => (GM.zr d).map V.int) (by omega) (fun _ _ => trivial) (fun _ => rfl) ?_ ?_
  · rintro i y H7 H8 hi e7 ⟨rfl, rfl⟩
    refine ⟨Ex.refl _, fun R kR => ?_⟩
    walk_at "rd"
    refine r_newL (sz_le (by simp)) fun z0 H9 hz0 e9 h9 => ?_
    walk_at "rd"
    refine r_zeros h9 rfl (by omega) fun z1 H10 hz1 e10 h10 => ?_
    exact kR z1 H10 (e9.trans e10) (e9.free hz1) h10
  intro q cs H4 hq e4 h4 hlen hnd hnew hrow
  have g4 : Bg p H H4 := Bg.of e4
  have b4 : Bag H4 p n := hb.ex e4
  have nq : q ∉ cs := (List.nodup_cons.mp hnd).1
  have nd := (List.nodup_cons.mp hnd).2
  have la4 : LA H4 cs ((List.range d).map fun _ => GM.zr d) := la_rows hlen hrow
  walk_at "rd"
  refine ⟨_, rfl, by omega, by omega, ?_⟩
  rw [Int.toNat_natCast]
  have ncs : ∀ t ∈ cs, H t = none := hnew
  refine for_of (walk_range (lo := 0) (n := d)) (fun i σ' H' => ∃ rs s5 s6 s7, σ' = [some (.ref p), some (.int d), some (.int kind), some (.ref q), none, s5, s6, s7] ∧ Bg p H H' ∧ Bag H' p (n + 120 * (i : Nat)) ∧ H' q = some (.lst (cs.map V.ref)) ∧ LA H' cs rs ∧ Sy rs d) ⟨_, _, _, _, rfl, g4, b4.le (by omega), h4, la4, Sy.zero⟩ (fun _ _ _ _ _ => trivial) ?_ ?_
  · rintro i x σ' H5 H6 hi ⟨rs, s5, s6, s7, rfl, g5, b5, h5, la5, sy5⟩ ⟨rfl, hx⟩
    obtain rfl : x = V.int (i : Nat) := hx.trans (congrArg V.int (Int.zero_add _))
    refine r_gName ?_
    walk_at "rd"
    refine ⟨((i + 1 : Nat) : Int), by push_cast; rfl, by omega, by omega, ?_⟩
    rw [Int.toNat_natCast]
    refine for_of (walk_range (lo := 0) (n := i + 1)) (fun j σ' H' => ∃ rs s6 s7, σ' = [some (.ref p), some (.int d), some (.int kind), some (.ref q), none, some (.int (i : Nat)), s6, s7] ∧ Bg p H H' ∧ Bag H' p (n + 120 * (i : Nat) + 4 * (j : Nat)) ∧ H' q = some (.lst (cs.map V.ref)) ∧ LA H' cs rs ∧ Sy rs d) ⟨_, _, _, rfl, g5, b5.le (by omega), h5, la5, sy5⟩ (fun _ _ _ _ _ => trivial) ?_ ?_
    · rintro j x σ' H7 H8 hj ⟨rs, s6, s7, rfl, g7, b7, h7, la7, sy7⟩ ⟨rfl, hx⟩
      obtain rfl : x = V.int (j : Nat) := hx.trans (congrArg V.int (Int.zero_add _))
      have hjd : j < d := by omega
      refine r_gName ?_
      refine r_seqJ (fun σ' H' => ∃ r : Int, Z 201 r ∧ σ' = [some (.ref p), some (.int d), some (.int kind), some (.ref q), none, some (.int (i : Nat)), some (.int (j : Nat)), some (.int r)] ∧ Bg p H8 H' ∧ Bag H' p (n + 120 * (i : Nat) + 4 * (j : Nat) + 1)) (fun N hN => ?_) ?_
      · walk_at "rx"
        refine r_DrawG b7 (by omega) (by decide) (zsm (by decide)) fun r H9 r0 r1 g9 b9 => ?_
        walk_at "rd"
        exact hN _ _ ⟨r - 1, Nat.lt_of_le_of_lt (show (r - 1).natAbs ≤ 1 by omega) (by decide), rfl, g9, b9⟩
      rintro σ' H9 ⟨r, zr, rfl, g9, b9⟩
      refine r_seqJ (fun σ' H' => ∃ r : Int, Z 201 r ∧ σ' = [some (.ref p), some (.int d), some (.int kind), some (.ref q), none, some (.int (i : Nat)), some (.int (j : Nat)), some (.int r)] ∧ Bg p H8 H' ∧ Bag H' p (n + 120 * (i : Nat) + 4 * (j : Nat) + 4)) (fun N hN => ?_) ?_
      · have keep : N [some (.ref p), some (.int d), some (.int kind), some (.ref q), none, some (.int (i : Nat)), some (.int (j : Nat)), some (.int r)] H9 := hN _ _ ⟨r, zr, rfl, g9, b9.le (by omega)⟩
        have new : ∀ c H', Z 201 c → Bg p H9 H' → Bag H' p (n + 120 * (i : Nat) + 4 * (j : Nat) + 1 + 3) → N [some (.ref p), some (.int d), some (.int kind), some (.ref q), none, some (.int (i : Nat)), some (.int (j : Nat)), some (.int c)] H' := fun c H' z g b => hN _ _ ⟨c, z, rfl, g9.trans g, b.le (by omega)⟩
        clear hN
        walk_at "rx"
        repeat' (first | exact keep | exact ⟨p, _, rfl, by omega, b9, new⟩ | refine ite_t rfl ?_ | refine ite_f rfl ?_ | refine ite_b (fun _ => ?_) fun _ => ?_ | walk_at "rd")
      clear zr b9 g9
      rintro σ' H9 ⟨r, zr, rfl, g9, b9⟩
      have h10 := g9.at_ (ls_ne b7 h7) h7
      have la10 := la7.bg b7 g9
      obtain ⟨ri, hri, eri, lri⟩ := sy7.rw.at hi
      obtain ⟨rj, hrj, erj, lrj⟩ := sy7.rw.at hjd
      obtain ⟨ti, hti, hwi⟩ := la10.col hri
      have nti : H ti = none := ncs ti (List.mem_of_getElem? hti)
      have nqi : ti ≠ q := fun z => nq (by rw [← z]; exact List.mem_of_getElem? hti)
      have la11 := la_put (i := i) (r := ri.set j r) la10 nd hti
      have rw1 := sy7.rw.put (j := j) (n := r) hi
      obtain ⟨rj, hrj, erj, lrj⟩ := rw1.at hjd
      unfold put at hrj
      rw [eri] at hrj
      obtain ⟨tj, htj, hwj⟩ := la11.col hrj
      have ntj : H tj = none := ncs tj (List.mem_of_getElem? htj)
      have nqj : tj ≠ q := fun z => nq (by rw [← z]; exact List.mem_of_getElem? htj)
      have la12 := la_put (i := j) (r := rj.set i r) la11 nd htj
      walk_at "rd"
      refine r_ixL h10 (v := .ref ti) (atI_nat (by rw [List.getElem?_map, hti]; rfl)) ?_
      walk_at "rd"
      refine r_setL hwi (n := j) (by rw [List.length_map, lri]; exact ixN_nat hjd) ?_
      rw [← List.map_set]
      walk_at "rd"
      refine r_ixL (by rw [upd_ne (fun z => nqi z.symm)]; exact h10) (v := .ref tj) (atI_nat (by rw [List.getElem?_map, htj]; rfl)) ?_
      walk_at "rd"
      refine r_setL hwj (n := i) (by rw [List.length_map, lrj]; exact ixN_nat hi) ?_
      rw [← List.map_set]
      have sy := sy7.put2 (n := r) hi hjd zr
      have ep : put (put rs i j r) j i r = (rs.set i (ri.set j r)).set j (rj.set i r) := by
        show (put rs i j r).set j (((put rs i j r).getD j []).set i r) = _
        rw [erj]
        unfold put
        rw [eri]
      rw [ep] at sy
      have g11 : Bg p H (upd H9 ti (.lst ((ri.set j r).map V.int))) := (g7.trans g9).updD hb nti
      have b11 : Bag (upd H9 ti (.lst ((ri.set j r).map V.int))) p (n + 120 * (i : Nat) + 4 * (j : Nat) + 4) := b9.updD hb (g7.trans g9) nti
      exact ⟨_, _, _, rfl, g11.updD hb ntj, (b11.updD hb g11 ntj).le (by push_cast; omega), by rw [upd_ne (fun z => nqj z.symm), upd_ne (fun z => nqi z.symm)]; exact h10, la12, sy⟩
    · rintro σ' H' ⟨rs, s6, s7, rfl, g6, b6, h6, la6, sy6⟩
      exact ⟨rs, _, _, _, rfl, g6, b6.le (by push_cast; omega), h6, la6, sy6⟩
  · rintro σ' H' ⟨rs, s5, s6, s7, rfl, g6, b6, h6, la6, sy6⟩
    walk_at "rd"
    exact k q cs rs H' hq hnew nd nq g6 (b6.le (by omega)) h6 la6 sy6

end K10
namespace K10
open PySem PySem.Spec PyProof.Rows L2 GS TL LamX
local macro_rules | `(tactic| walk_at "rd") => `(tactic| (repeat (first
  | with_reducible refine r_next ?_
  | with_reducible refine r_seq ?_
  | with_reducible refine r_ret ?_
  | with_reducible refine r_ifS ?_
  | with_reducible refine r_asg ?_
  | with_reducible refine r_drop ?_
  | with_reducible refine r_op ?_
  | with_reducible refine r_un ?_
  | with_reducible refine r_cbInt ?_
  | with_reducible refine r_cbAbs ?_
  | with_reducible refine r_cbLen ?_
  | with_reducible refine r_cbList ?_
  | with_reducible refine r_cbTup ?_
  | with_reducible refine r_iEnT ?_
  | with_reducible refine r_iEnL ?_
  | with_reducible refine r_zipA ?_
  | with_reducible refine r_zipX ?_
  | with_reducible refine r_augS ?_
  | with_reducible refine r_cb ?_
  | with_reducible refine r_call ?_
  | with_reducible refine r_make ?_
  | with_reducible refine r_callN0 ?_
  | with_reducible refine r_makeK0 ?_
  | with_reducible refine r_makeS ?_
  | with_reducible refine r_callS ?_
  | with_reducible refine r_cons ?_
  | with_reducible refine r_nil ?_
  | with_reducible refine r_test ?_
  | with_reducible refine r_B ?_
  | with_reducible refine r_and ?_
  | with_reducible refine r_or ?_
  | with_reducible refine r_not ?_
  | with_reducible refine r_andV ?_
  | with_reducible refine r_orV ?_
  | with_reducible refine r_notV ?_
  | with_reducible refine r_if ?_
  | with_reducible refine r_tup ?_
  | with_reducible refine r_lst ?_
  | with_reducible refine r_c ?_
  | with_reducible refine r_lc ?_
  | with_reducible refine r_chain ?_
  | with_reducible refine r_iT ?_
  | with_reducible refine r_iL ?_
  | with_reducible refine r_iR1 ?_
  | with_reducible refine r_iR2 ?_
  | with_reducible refine r_iR3 ?_
  | with_reducible refine r_asgG ?_
  | with_reducible refine r_gSub ?_
  | with_reducible refine r_for ?_
  | with_reducible refine r_smeth ?_
  | with_reducible refine r_par ?_
  | with_reducible refine r_parK ?_
  | with_reducible refine r_gCons ?_
  | with_reducible refine r_gNil ?_
  | with_reducible refine r_gName ?_
  | with_reducible refine r_intI ?_
  | with_reducible refine r_intB ?_
  | with_reducible refine r_absI ?_
  | with_reducible refine r_k ?_
  | with_reducible refine r_kV ?_
  | ((with_reducible show tVar _ _ _ _); refine r_var3 ?_ (by rfl))
  | with_reducible refine r_I0 ?_
  | with_reducible refine r_U ?_
  | with_reducible refine r_eqI ?_
  | with_reducible refine r_neI ?_
  | with_reducible refine r_F ?_
  | dsimp only)))
local macro_rules | `(tactic| walk_at "rx") => `(tactic| (repeat (first
  | with_reducible refine r_next ?_
  | with_reducible refine r_ret ?_
  | with_reducible refine r_ifS ?_
  | with_reducible refine r_asg ?_
  | with_reducible refine r_drop ?_
  | with_reducible refine r_op ?_
  | with_reducible refine r_un ?_
  | with_reducible refine r_cbInt ?_
  | with_reducible refine r_cbAbs ?_
  | with_reducible refine r_cbLen ?_
  | with_reducible refine r_cbList ?_
  | with_reducible refine r_cbTup ?_
  | with_reducible refine r_iEnT ?_
  | with_reducible refine r_iEnL ?_
  | with_reducible refine r_zipA ?_
  | with_reducible refine r_zipX ?_
  | with_reducible refine r_augS ?_
  | with_reducible refine r_cb ?_
  | with_reducible refine r_call ?_
  | with_reducible refine r_make ?_
  | with_reducible refine r_callN0 ?_
  | with_reducible refine r_makeK0 ?_
  | with_reducible refine r_makeS ?_
  | with_reducible refine r_callS ?_
  | with_reducible refine r_cons ?_
  | with_reducible refine r_nil ?_
  | with_reducible refine r_test ?_
  | with_reducible refine r_B ?_
  | with_reducible refine r_and ?_
  | with_reducible refine r_or ?_
  | with_reducible refine r_not ?_
  | with_reducible refine r_andV ?_
  | with_reducible refine r_orV ?_
  | with_reducible refine r_notV ?_
  | with_reducible refine r_if ?_
  | with_reducible refine r_tup ?_
  | with_reducible refine r_lst ?_
  | with_reducible refine r_c ?_
  | with_reducible refine r_lc ?_
  | with_reducible refine r_chain ?_
  | with_reducible refine r_iT ?_
  | with_reducible refine r_iL ?_
  | with_reducible refine r_iR1 ?_
  | with_reducible refine r_iR2 ?_
  | with_reducible refine r_iR3 ?_
  | with_reducible refine r_asgG ?_
  | with_reducible refine r_gSub ?_
  | with_reducible refine r_for ?_
  | with_reducible refine r_smeth ?_
  | with_reducible refine r_par ?_
  | with_reducible refine r_parK ?_
  | with_reducible refine r_gCons ?_
  | with_reducible refine r_gNil ?_
  | with_reducible refine r_gName ?_
  | with_reducible refine r_intI ?_
  | with_reducible refine r_intB ?_
  | with_reducible refine r_absI ?_
  | with_reducible refine r_k ?_
  | with_reducible refine r_kV ?_
  | ((with_reducible show tVar _ _ _ _); refine r_var3 ?_ (by rfl))
  | with_reducible refine r_I0 ?_
  | with_reducible refine r_U ?_
  | with_reducible refine r_eqI ?_
  | with_reducible refine r_neI ?_
  | with_reducible refine r_F ?_
  | dsimp only)))
/-! ### orders -/
abbrev nI (k : Nat) : V := V.int (k : Int)
/-- rows of places, each with its turn, as tuples -/
def OS (H : Hp) (ts rs : List Addr) (ps : List (List Nat × Int)) : Prop := ts.length = ps.length ∧ rs.length = ps.length ∧ ∀ (j : Nat) (t r : Addr) (p : List Nat × Int), ts[j]? = some t → rs[j]? = some r → ps[j]? = some p → H t = some (.tup [.ref r, .int p.2]) ∧ H r = some (.lst (p.1.map nI))
theorem OS.ex {H H' : Hp} {ts rs : List Addr} {ps : List (List Nat × Int)} (h : OS H ts rs ps) (e : Ex H H') : OS H' ts rs ps := ⟨h.1, h.2.1, fun j t r p h1 h2 h3 => let ⟨a, b⟩ := h.2.2 j t r p h1 h2 h3; ⟨e _ _ a, e _ _ b⟩⟩
theorem OS.nil {H : Hp} : OS H [] [] [] := ⟨rfl, rfl, fun j t r p h => by simp at h⟩
theorem OS.app {H : Hp} {ts us rs vs : List Addr} {ps qs : List (List Nat × Int)} (h : OS H ts rs ps) (g : OS H us vs qs) : OS H (ts ++ us) (rs ++ vs) (ps ++ qs) := by
  refine ⟨by simp [h.1, g.1], by simp [h.2.1, g.2.1], fun j t r p h1 h2 h3 => ?_⟩
  rcases Nat.lt_or_ge j ps.length with c | c
  · rw [List.getElem?_append_left (by rw [h.1]; exact c)] at h1
    rw [List.getElem?_append_left (by rw [h.2.1]; exact c)] at h2
    rw [List.getElem?_append_left c] at h3
    exact h.2.2 j t r p h1 h2 h3
  · rw [List.getElem?_append_right (by rw [h.1]; exact c), h.1] at h1
    rw [List.getElem?_append_right (by rw [h.2.1]; exact c), h.2.1] at h2
    rw [List.getElem?_append_right c] at h3
    exact g.2.2 _ t r p h1 h2 h3
theorem OS.one {H : Hp} {t r : Addr} {p : List Nat × Int} (h1 : H t = some (.tup [.ref r, .int p.2])) (h2 : H r = some (.lst (p.1.map nI))) : OS H [t] [r] [p] := by
  refine ⟨rfl, rfl, fun j t' r' p' a b c => ?_⟩
  cases j with
  | zero => cases a; cases b; cases c; exact ⟨h1, h2⟩
  | succ j => simp at a
theorem OS.bu {H H' : Hp} {D : Addr} {ts rs : List Addr} {ps : List (List Nat × Int)} (h : OS H ts rs ps) (b : Bu D H H') (n1 : D ∉ ts) (n2 : D ∉ rs) : OS H' ts rs ps := ⟨h.1, h.2.1, fun j t r p h1 h2 h3 => by
  obtain ⟨a, c⟩ := h.2.2 j t r p h1 h2 h3
  exact ⟨b _ _ (fun z => n1 (by rw [← z]; exact List.mem_of_getElem? h1)) a, b _ _ (fun z => n2 (by rw [← z]; exact List.mem_of_getElem? h2)) c⟩⟩
theorem OS.at {H : Hp} {ts rs : List Addr} {ps : List (List Nat × Int)} (h : OS H ts rs ps) {j : Nat} {t : Addr} (ht : ts[j]? = some t) : ∃ r p, rs[j]? = some r ∧ ps[j]? = some p ∧ H t = some (.tup [.ref r, .int p.2]) ∧ H r = some (.lst (p.1.map nI)) := by
  have hj : j < ps.length := by rw [← h.1]; exact (List.getElem?_eq_some_iff.mp ht).1
  have hr : j < rs.length := by rw [h.2.1]; exact hj
  exact ⟨rs[j], ps[j], by simp [hr], by simp [hj], h.2.2 j t _ _ ht (by simp [hr]) (by simp [hj])⟩
theorem cut_dr {α : Type} (f : α → V) (ys : List α) (k : Nat) (h : k ≤ ys.length) : cutV (ys.map f) (some (k : Int)) none = (ys.drop k).map f := by
  unfold cutV
  rw [HT.sIx_none, HT.sIx_nat, List.length_map, Nat.min_eq_left h, List.take_of_length_le (by simp), List.map_drop]
def gO (i : Nat) (p : List Nat × Int) : List (List Nat × Int) := (List.range (i + 1)).map fun cut => (Dt.ins i cut p.1, p.2 * Dt.sg (i - cut))
theorem gO_len (i : Nat) (l : List (List Nat × Int)) : (l.flatMap (gO i)).length = l.length * (i + 1) := by
  induction l with
  | nil => simp
  | cons p l ih =>
    rw [List.flatMap_cons, List.length_append, ih, List.length_cons, Nat.succ_mul]
    simp [gO]
    omega
def spOrd (K : PySem.W.Frag) : Sp := sp1 fun s H Q _ => ∃ (d : Nat), s = .int d ∧ d ≤ 5 ∧ ∀ q ts rs H', Ex H H' → H' q = some (.lst (ts.map V.ref)) → OS H' ts rs (Dt.orders d) → Q (.ref q) H'
theorem ok__law_orders {P : Program} {w : World} {K : PySem.W.Frag} {mg : Str → Option Value} {base : Heap} (T : Txt K mg) : ∃ fd, FnOk P w K mg base (L2.CX P w) 1 (He.ga K "_law_orders") fd ["size"] (spOrd K) ∧ Binds K fd ["size"] [] := by
  obtain ⟨fd, F⟩ := T.d__law_orders
  refine ⟨fd, F.ok sc__law_orders sp1_len (fun cdv A outer s H vs Q E hr h => ?_), F.bindsN fun _ _ _ _ _ _ us hl => match us, hl with | [_], _ => rfl⟩
  obtain ⟨s0, rfl, d, rfl, hd, k⟩ := sp1_is h
  refine ⟨_, (pss_cons (ps_set (i := 1) sc__law_orders.nd rfl (Or.inl rfl) (pe_lst (pa_cons (pe_tup (pa_cons (pe_lst pa_nil) (pa_cons pe_int pa_nil))) pa_nil)))
      (pss_cons (ps_for (passes_of rfl) rfl (pi_range1 (by rfl) T.b_range (pa_cons (pv 0) pa_nil)) (pg_name (i := 2) sc__law_orders.nd rfl (Or.inr rfl)) (pss_cons (ps_set (i := 3) sc__law_orders.nd rfl (Or.inl rfl) (pe_lst pa_nil))
      (pss_cons (ps_for (passes_of rfl) rfl (pi_list (pv 1)) (pg_tup rfl (pgs_cons (pg_name (i := 4) sc__law_orders.nd rfl (Or.inr rfl)) (pgs_cons (pg_name (i := 5) sc__law_orders.nd rfl (Or.inr rfl)) pgs_nil))) (pss_one (ps_set (i := 3) sc__law_orders.nd rfl (Or.inl rfl) (pe_op op_cat (pv 3) (pe_lc (own := [("cut", 6)]) (g := gName 6) (tt := tYes)  rfl sc__law_orders.nd (pi_range1 (by rfl) T.b_range (pa_cons (pe_op op_add (pe_callB (kx_lens rfl) (by rfl) T.b_len PySem.boot_len (pa_cons (pv 4) pa_nil)) pe_int) pa_nil)) (blkOk_by (own := [("cut", 6)]) (N := ["size", "found", "at", "later", "row", "turn", "cut"]) (sc := defScope s__law_orders) (by decide +kernel)) (fun _ _ _ _ _ => (pg_name (i := 6) sc__law_orders.nd rfl (Or.inl rfl))) (fun _ _ _ _ _ => pts_nil) (fun _ _ _ _ _ => (pe_tup (pa_cons (pe_op op_cat (pe_op op_cat (pe_slice (kx_sll (K := K) rfl) (pv 4) po_none (po_some (pv 6))) (pe_lst (pa_cons (pv 2) pa_nil))) (pe_slice (kx_sll (K := K) rfl) (pv 4) (po_some (pv 6)) po_none)) (pa_cons (pe_op op_mulW (pv 5) (pe_ix (kx_ixl rfl) (pe_lst (pa_cons pe_int (pa_cons (pe_un un_neg pe_int) pa_nil))) (pe_op op_mod (pe_callTy call_int1 (by rfl) T.b_int (by decide +kernel) (pa_cons (pe_op op_sub (pe_callB (kx_lens rfl) (by rfl) T.b_len PySem.boot_len (pa_cons (pv 4) pa_nil)) (pv 6)) pa_nil)) pe_int) (fun _ _ => rfl))) pa_nil)))))))))
      (pss_one (ps_set (i := 1) sc__law_orders.nd rfl (Or.inl rfl) (pv 3))))))
      (pss_one (ps_ret (pv 1))))), ?_⟩
  have small : ∀ n, n ≤ 5 → (Dt.orders n).length ≤ 120 := by
    intro n hn
    have : ∀ m < 6, (Dt.orders m).length ≤ 120 := by decide +kernel
    exact this n (by omega)
  walk_at "rd"
  refine r_newL (xs := []) (sz_le (by simp)) fun q1 H1 _ e1 h1 => ?_
  walk_at "rd"
  refine r_newT (sz_le (by simp)) fun t2 H2 _ e2 h2 => ?_
  walk_at "rd"
  refine r_newL (sz_le (by simp)) fun q3 H3 _ e3 h3 => ?_
  walk_at "rd"
  refine ⟨_, rfl, by omega, by omega, ?_⟩
  rw [Int.toNat_natCast]
  refine for_of (walk_range (lo := 0) (n := d)) (fun i σ' H' => ∃ q ts rs s2 s3 s4 s5, σ' = [some (.int d), some (.ref q), s2, s3, s4, s5, none] ∧ Ex H H' ∧ H' q = some (.lst (ts.map V.ref)) ∧ OS H' ts rs (Dt.orders i)) ⟨q3, [t2], [q1], _, _, _, _, rfl, (e1.trans e2).trans e3, h3, OS.one (e3 _ _ h2) (e3 _ _ (e2 _ _ h1))⟩ (fun _ _ _ _ _ => trivial) ?_ ?_
  · rintro i x σ' H4 H4' hi ⟨q, ts, rs, s2, s3, s4, s5, rfl, e4, hq, os⟩ ⟨rfl, hx⟩
    obtain rfl : x = V.int (i : Nat) := hx.trans (congrArg V.int (Int.zero_add _))
    refine r_gName ?_
    walk_at "rd"
    refine r_newL (xs := []) (sz_le (by simp)) fun q5 H5 _ e5 h5 => ?_
    walk_at "rd"
    refine ⟨q, rfl, ⟨_, SqL.of (e5 _ _ hq)⟩, ?_⟩
    have os5 := os.ex e5
    have lts : ts.length = (Dt.orders i).length := os.1
    have sm := small i (by omega)
    refine for_of (by simpa using walk_list (xs := ts.map V.ref)) (fun m σ H' => ∃ l us vs s4 s5, σ = [some (.int d), some (.ref q), some (.int (i : Nat)), some (.ref l), s4, s5, none] ∧ Ex H5 H' ∧ H' l = some (.lst (us.map V.ref)) ∧ OS H' us vs (((Dt.orders i).take m).flatMap (gO i))) ⟨q5, [], [], _, _, rfl, Ex.refl _, h5, OS.nil⟩ (fun m σ H' _ p => by obtain ⟨l, us, vs, s4, s5, _, e, _⟩ := p; exact SqL.of (e _ _ (e5 _ _ hq))) ?_ ?_
    · rintro m x σ H6 H6' hm ⟨l, us, vs, s4, s5, rfl, e6, hl, ou⟩ ⟨rfl, hx⟩
      obtain ⟨t, ht, rfl⟩ := ref_at hx
      obtain ⟨r, p, hr, hp, h1t, h1r⟩ := (os5.ex e6).at ht
      have lp := Dt.orders_len i p (List.mem_of_getElem? hp)
      have sp := Dt.orders_sg i p (List.mem_of_getElem? hp)
      refine r_gTup h1t rfl (r_gCons (r_gName (r_gCons (r_gName (r_gNil ?_)))))
      walk_at "rx"
      refine r_lenL h1r ?_
      rw [List.length_map, lp]
      walk_at "rd"
      refine ⟨((i + 1 : Nat) : Int), by push_cast; rfl, by omega, by omega, ?_⟩
      rw [Int.toNat_natCast]
      refine r_lcP (n := i + 1) walk_range (fun D j ys H' => ∃ us' vs', ys = us'.map V.ref ∧ D ∉ us' ∧ D ∉ vs' ∧ OS H' us' vs' ((gO i p).take j)) (by omega) (fun _ _ => trivial) (fun D H' _ => ⟨[], [], rfl, by simp, by simp, by rw [List.take_zero]; exact OS.nil⟩) ?_ ?_ ?_
      · rintro D j ys H7 H8 ⟨us', vs', rfl, n1, n2, o⟩ b
        exact ⟨us', vs', rfl, n1, n2, o.bu b n1 n2⟩
      · rintro D j x ys H7 H7' hj hD e7 hDl ⟨us', vs', rfl, n1, n2, o⟩ ⟨rfl, hx⟩ N hN
        obtain rfl : x = V.int (j : Nat) := hx.trans (congrArg V.int (Int.zero_add _))
        refine r_gName ⟨rfl, ?_⟩
        walk_at "rd"
        have h1r7 := e7 _ _ h1r
        refine ⟨.ref r, rfl, .int j, rfl, j, rfl, r_slL h1r7 (cut_tk nI p.1 j) fun a1 G1 n1' f1 g1 => ?_⟩
        walk_at "rd"
        refine r_newL (sz_le (by simp)) fun a2 G2 n2' f2 g2 => ?_
        refine r_cat (zs := [nI i]) (f2 _ _ g1) g2 (by simp; omega) fun a3 G3 n3' f3 g3 => ?_
        walk_at "rd"
        refine ⟨.ref r, rfl, .int j, rfl, j, rfl, ?_⟩
        refine r_noPart ?_
        refine r_slL (f3 _ _ (f2 _ _ (f1 _ _ h1r7))) (cut_dr nI p.1 j (by omega)) fun a4 G4 n4' f4 g4 => ?_
        refine r_cat (f4 _ _ g3) g4 (by simp; omega) fun a5 G5 n5' f5 g5 => ?_
        walk_at "rd"
        refine r_newL (sz_le (by simp)) fun a6 G6 n6' f6 g6 => ?_
        walk_at "rd"
        refine len_l (f6 _ _ (f5 _ _ (f4 _ _ (f3 _ _ (f2 _ _ (f1 _ _ h1r7)))))) ?_
        rw [List.length_map, lp]
        walk_at "rd"
        refine r_I (by decide) ?_
        have em : ((i : Nat) : Int) - (j : Nat) = ((i - j : Nat) : Int) := by omega
        rw [em, show (((i - j : Nat) : Int)) % 2 = (((i - j) % 2 : Nat) : Int) from rfl]
        have hs : [V.int 1, V.int (-1)][(i - j) % 2]? = some (.int (Dt.sg (i - j))) := by
          unfold Dt.sg
          rcases Nat.mod_two_eq_zero_or_one (i - j) with z | z <;> rw [z] <;> rfl
        refine r_ixL g6 (v := .int (Dt.sg (i - j))) (atI_nat hs) ?_
        have z1 : Z 10 p.2 := by rcases sp with z | z <;> rw [z] <;> (unfold Z; decide)
        have z2 : Z 10 (Dt.sg (i - j)) := by unfold Dt.sg; split <;> (unfold Z; decide)
        refine r_I (mulOk z1 z2 (by decide) (by decide) (by decide)) ?_
        walk_at "rd"
        refine r_newT (sz_le (by simp)) fun t7 G7 n7' f7 g7 => ?_
        have all := f1.trans (f2.trans (f3.trans (f4.trans (f5.trans (f6.trans f7)))))
        have ne : ∀ {a : Addr} {G : Hp}, Ex H7' G → G a = none → a ≠ D := fun e h z => by rw [z, e _ _ hDl] at h; cases h
        refine hN (.ref t7) G7 all ⟨us' ++ [t7], vs' ++ [a5], by simp, fun z => ?_, fun z => ?_, ?_⟩
        · rcases List.mem_append.mp z with z | z
          · exact n1 z
          · exact ne (f1.trans (f2.trans (f3.trans (f4.trans (f5.trans f6))))) n7' (List.mem_singleton.mp z).symm
        · rcases List.mem_append.mp z with z | z
          · exact n2 z
          · exact ne (f1.trans (f2.trans (f3.trans f4))) n5' (List.mem_singleton.mp z).symm
        · have tk : (gO i p).take (j + 1) = (gO i p).take j ++ [(Dt.ins i j p.1, p.2 * Dt.sg (i - j))] := by
            rw [List.take_add_one]
            congr 1
            simp [gO, hj]
          rw [tk]
          refine (o.ex all).app (OS.one g7 ?_)
          rw [f7 _ _ (f6 _ _ g5)]
          simp [Dt.ins]
      · rintro D ys H7 hD e7 hDl ly ⟨us', vs', rfl, n1, n2, o⟩
        rw [List.take_of_length_le (by simp [gO])] at o
        refine r_cat (e7 _ _ hl) hDl (by
          have b1 : min m (Dt.orders i).length * (i + 1) ≤ 120 * 6 := Nat.mul_le_mul (by omega) (by omega)
          simp only [List.length_map]
          rw [ou.1, gO_len, List.length_take, o.1]
          simp [gO]
          omega) fun q8 H8 _ e8 h8 => ?_
        refine ⟨q8, us ++ us', vs ++ vs', _, _, rfl, (e6.trans e7).trans e8, by rw [h8, List.map_append], ?_⟩
        have : ((Dt.orders i).take (m + 1)).flatMap (gO i) = ((Dt.orders i).take m).flatMap (gO i) ++ gO i p := by
          rw [List.take_add_one, hp, List.flatMap_append]
          simp
        rw [this]
        exact (ou.ex (e7.trans e8)).app (o.ex e8)
    · rintro σ H6 ⟨l, us, vs, s4, s5, rfl, e6, hl, ou⟩
      walk_at "rd"
      refine ⟨l, us, vs, _, _, _, _, rfl, (e4.trans e5).trans e6, hl, ?_⟩
      rw [lts, List.take_length] at ou
      exact ou
  · rintro σ' H4 ⟨q, ts, rs, s2, s3, s4, s5, rfl, e4, hq, os⟩
    walk_at "rd"
    exact k q ts rs H4 e4 hq os

end K10
namespace K10
open PySem PySem.Spec PyProof.Rows L2 GS TL LamX
local macro_rules | `(tactic| walk_at "rd") => `(tactic| (repeat (first
  | with_reducible refine r_next ?_
  | with_reducible refine r_seq ?_
  | with_reducible refine r_ret ?_
  | with_reducible refine r_ifS ?_
  | with_reducible refine r_asg ?_
  | with_reducible refine r_drop ?_
  | with_reducible refine r_op ?_
  | with_reducible refine r_un ?_
  | with_reducible refine r_cbInt ?_
  | with_reducible refine r_cbAbs ?_
  | with_reducible refine r_cbLen ?_
  | with_reducible refine r_cbList ?_
  | with_reducible refine r_cbTup ?_
  | with_reducible refine r_iEnT ?_
  | with_reducible refine r_iEnL ?_
  | with_reducible refine r_zipA ?_
  | with_reducible refine r_zipX ?_
  | with_reducible refine r_augS ?_
  | with_reducible refine r_cb ?_
  | with_reducible refine r_call ?_
  | with_reducible refine r_make ?_
  | with_reducible refine r_callN0 ?_
  | with_reducible refine r_makeK0 ?_
  | with_reducible refine r_makeS ?_
  | with_reducible refine r_callS ?_
  | with_reducible refine r_cons ?_
  | with_reducible refine r_nil ?_
  | with_reducible refine r_test ?_
  | with_reducible refine r_B ?_
  | with_reducible refine r_and ?_
  | with_reducible refine r_or ?_
  | with_reducible refine r_not ?_
  | with_reducible refine r_andV ?_
  | with_reducible refine r_orV ?_
  | with_reducible refine r_notV ?_
  | with_reducible refine r_if ?_
  | with_reducible refine r_tup ?_
  | with_reducible refine r_lst ?_
  | with_reducible refine r_c ?_
  | with_reducible refine r_lc ?_
  | with_reducible refine r_chain ?_
  | with_reducible refine r_iT ?_
  | with_reducible refine r_iL ?_
  | with_reducible refine r_iR1 ?_
  | with_reducible refine r_iR2 ?_
  | with_reducible refine r_iR3 ?_
  | with_reducible refine r_asgG ?_
  | with_reducible refine r_gSub ?_
  | with_reducible refine r_for ?_
  | with_reducible refine r_smeth ?_
  | with_reducible refine r_par ?_
  | with_reducible refine r_parK ?_
  | with_reducible refine r_gCons ?_
  | with_reducible refine r_gNil ?_
  | with_reducible refine r_gName ?_
  | with_reducible refine r_intI ?_
  | with_reducible refine r_intB ?_
  | with_reducible refine r_absI ?_
  | with_reducible refine r_k ?_
  | with_reducible refine r_kV ?_
  | ((with_reducible show tVar _ _ _ _); refine r_var3 ?_ (by rfl))
  | with_reducible refine r_I0 ?_
  | with_reducible refine r_U ?_
  | with_reducible refine r_eqI ?_
  | with_reducible refine r_neI ?_
  | with_reducible refine r_F ?_
  | dsimp only)))
local macro_rules | `(tactic| walk_at "rx") => `(tactic| (repeat (first
  | with_reducible refine r_next ?_
  | with_reducible refine r_ret ?_
  | with_reducible refine r_ifS ?_
  | with_reducible refine r_asg ?_
  | with_reducible refine r_drop ?_
  | with_reducible refine r_op ?_
  | with_reducible refine r_un ?_
  | with_reducible refine r_cbInt ?_
  | with_reducible refine r_cbAbs ?_
  | with_reducible refine r_cbLen ?_
  | with_reducible refine r_cbList ?_
  | with_reducible refine r_cbTup ?_
  | with_reducible refine r_iEnT ?_
  | with_reducible refine r_iEnL ?_
  | with_reducible refine r_zipA ?_
  | with_reducible refine r_zipX ?_
  | with_reducible refine r_augS ?_
  | with_reducible refine r_cb ?_
  | with_reducible refine r_call ?_
  | with_reducible refine r_make ?_
  | with_reducible refine r_callN0 ?_
  | with_reducible refine r_makeK0 ?_
  | with_reducible refine r_makeS ?_
  | with_reducible refine r_callS ?_
  | with_reducible refine r_cons ?_
  | with_reducible refine r_nil ?_
  | with_reducible refine r_test ?_
  | with_reducible refine r_B ?_
  | with_reducible refine r_and ?_
  | with_reducible refine r_or ?_
  | with_reducible refine r_not ?_
  | with_reducible refine r_andV ?_
  | with_reducible refine r_orV ?_
  | with_reducible refine r_notV ?_
  | with_reducible refine r_if ?_
  | with_reducible refine r_tup ?_
  | with_reducible refine r_lst ?_
  | with_reducible refine r_c ?_
  | with_reducible refine r_lc ?_
  | with_reducible refine r_chain ?_
  | with_reducible refine r_iT ?_
  | with_reducible refine r_iL ?_
  | with_reducible refine r_iR1 ?_
  | with_reducible refine r_iR2 ?_
  | with_reducible refine r_iR3 ?_
  | with_reducible refine r_asgG ?_
  | with_reducible refine r_gSub ?_
  | with_reducible refine r_for ?_
  | with_reducible refine r_smeth ?_
  | with_reducible refine r_par ?_
  | with_reducible refine r_parK ?_
  | with_reducible refine r_gCons ?_
  | with_reducible refine r_gNil ?_
  | with_reducible refine r_gName ?_
  | with_reducible refine r_intI ?_
  | with_reducible refine r_intB ?_
  | with_reducible refine r_absI ?_
  | with_reducible refine r_k ?_
  | with_reducible refine r_kV ?_
  | ((with_reducible show tVar _ _ _ _); refine r_var3 ?_ (by rfl))
  | with_reducible refine r_I0 ?_
  | with_reducible refine r_U ?_
  | with_reducible refine r_eqI ?_
  | with_reducible refine r_neI ?_
  | with_reducible refine r_F ?_
  | dsimp only)))
/-! ### products of polys -/
def leL (ns : List Int) (m : Nat) : Prop := ∀ c ∈ ns, c.natAbs ≤ m
theorem leL.set {ns : List Int} {m k : Nat} {j : Nat} {c : Int} (h : leL ns m) (hc : c.natAbs ≤ k) : leL (ns.set j (ns.getD j 0 + c)) (m + k) := by
  intro x hx
  rcases List.mem_or_eq_of_mem_set hx with z | z
  · exact Nat.le_trans (h x z) (by omega)
  · rw [z]
    have : (ns.getD j 0).natAbs ≤ m := by
      rw [List.getD_eq_getElem?_getD]
      cases q : ns[j]? with
      | none => exact Nat.zero_le _
      | some a => exact h a (List.mem_of_getElem? q)
    omega
theorem ev_take {l : List Int} {j : Nat} {c : Int} (h : l[j]? = some c) (x : Int) : Dt.evL (l.take (j + 1)) x = Dt.evL (l.take j) x + c * x ^ j := by
  have hj := (List.getElem?_eq_some_iff.mp h).1
  rw [List.take_add_one, h]
  show Dt.evL (l.take j ++ [c]) x = _
  rw [Dt.evL_app, List.length_take, Nat.min_eq_left (by omega)]
theorem zr_len (m : Nat) : (GM.zr m).length = m := by simp [GM.zr]
theorem zr_ev (m : Nat) (x : Int) : Dt.evL (GM.zr m) x = 0 := Dt.evL_zeros m x
def spMul (K : PySem.W.Frag) : Sp := sp2 fun v w H Q _ => ∃ (p q : Addr) (a b : List Int) (n m : Nat), v = .ref p ∧ w = .ref q ∧ H p = some (.lst (a.map V.int)) ∧ H q = some (.lst (b.map V.int)) ∧ 1 ≤ a.length ∧ 1 ≤ b.length ∧ a.length ≤ 30 ∧ b.length ≤ 30 ∧ n ≤ 6000 ∧ m ≤ 6000 ∧ 0 < n ∧ 0 < m ∧ (∀ c ∈ a, Z n c) ∧ (∀ c ∈ b, Z m c) ∧
  ∀ f r H', H f = none → Ex H H' → H' f = some (.lst (r.map V.int)) → r.length = a.length + b.length - 1 → (∀ x, Dt.evL r x = Dt.evL a x * Dt.evL b x) → (∀ c ∈ r, Z (n + m + 10) c) → Q (.ref f) H'
theorem ok__law_multiplied {P : Program} {w : World} {K : PySem.W.Frag} {mg : Str → Option Value} {base : Heap} (T : Txt K mg) : ∃ fd, FnOk P w K mg base (L2.CX P w) 1 (He.ga K "_law_multiplied") fd ["one", "other"] (spMul K) ∧ Binds K fd ["one", "other"] [] := by
  obtain ⟨fd, F⟩ := T.d__law_multiplied
  refine ⟨fd, F.ok sc__law_multiplied sp2_len (fun cdv A outer s H vs Q E hr h => ?_), F.bindsN fun _ _ _ _ _ _ us hl => match us, hl with | [_, _], _ => rfl⟩
  obtain ⟨v, w', rfl, p, q, a, b, n, m, rfl, rfl, hp, hq, a1, b1, a2, b2, hn, hm, n0, m0, za, zb, k⟩ := sp2_is h
  refine ⟨_, (pss_cons (ps_set (i := 2) sc__law_multiplied.nd rfl (Or.inl rfl) (pe_op op_rep (pe_lst (pa_cons pe_int pa_nil)) (pe_op op_sub (pe_op op_add (pe_callB (kx_lens rfl) (by rfl) T.b_len PySem.boot_len (pa_cons (pv 0) pa_nil)) (pe_callB (kx_lens rfl) (by rfl) T.b_len PySem.boot_len (pa_cons (pv 1) pa_nil))) pe_int)))
      (pss_cons (ps_for (passes_of rfl) rfl (pi_enum (by rfl) T.b_enumerate (pa_cons (pv 0) pa_nil)) (pg_tup rfl (pgs_cons (pg_name (i := 3) sc__law_multiplied.nd rfl (Or.inl rfl)) (pgs_cons (pg_name (i := 4) sc__law_multiplied.nd rfl (Or.inl rfl)) pgs_nil))) (pss_one (ps_for (passes_of rfl) rfl (pi_enum (by rfl) T.b_enumerate (pa_cons (pv 1) pa_nil)) (pg_tup rfl (pgs_cons (pg_name (i := 5) sc__law_multiplied.nd rfl (Or.inl rfl)) (pgs_cons (pg_name (i := 6) sc__law_multiplied.nd rfl (Or.inl rfl)) pgs_nil))) (pss_one (ps_asg (pe_op op_add (pe_ix (kx_ixl rfl) (pv 2) (pe_op op_add (pv 3) (pv 5)) (fun _ _ => rfl)) (pe_op op_mulW (pv 4) (pv 6))) (pg_sub (pv 2) (pe_op op_add (pv 3) (pv 5)) set_list))))))
      (pss_one (ps_ret (pv 2))))), ?_⟩
  walk_at "rd"
  refine r_newL (sz_le (by simp)) fun q1 H1 _ e1 h1 => ?_
  walk_at "rd"
  refine len_l (e1 _ _ hp) ?_
  walk_at "rd"
  refine len_l (e1 _ _ hq) ?_
  rw [List.length_map, List.length_map]
  walk_at "rd"
  refine r_zeros h1 (m := a.length + b.length - 1) (by omega) (by omega) fun f H2 nf e2 h2 => ?_
  walk_at "rd"
  have hp2 := e2 _ _ (e1 _ _ hp)
  have hq2 := e2 _ _ (e1 _ _ hq)
  have fp : p ≠ f := ne_of_none (e1 _ _ hp) nf
  have fq : q ≠ f := ne_of_none (e1 _ _ hq) nf
  have nfH : H f = none := e1.free nf
  generalize hB : 2 ^ (n + m) = B
  generalize hL : a.length + b.length - 1 = L at *
  refine ⟨p, _, rfl, SqL.of hp2, ?_⟩
  refine for_enL (ns := a) (fun i σ' H' => ∃ r s3 s4 s5 s6, σ' = [some (.ref p), some (.ref q), some (.ref f), s3, s4, s5, s6] ∧ Bu f H2 H' ∧ H' f = some (.lst (r.map V.int)) ∧ r.length = L ∧ (∀ x, Dt.evL r x = Dt.evL (a.take i) x * Dt.evL b x) ∧ leL r (i * b.length * B)) ⟨GM.zr L, _, _, _, _, rfl, Bu.refl _ _, h2, zr_len L, fun x => by rw [zr_ev, List.take_zero, Dt.evL_nil, Int.zero_mul], fun c hc => by rw [List.eq_of_mem_replicate hc]; exact Nat.zero_le _⟩ (fun i σ' H' _ ⟨r, s3, s4, s5, s6, _, bu, _⟩ => bu _ _ fp hp2) ?_ ?_
  · rintro i c σ' H3 H4 hc ⟨r, s3, s4, s5, s6, rfl, bu, hf, lr, ev, le⟩ e4
    have hi := (List.getElem?_eq_some_iff.mp hc).1
    have zc := za c (List.mem_of_getElem? hc)
    have hf4 := e4 _ _ hf
    have bu4 : Bu f H2 H4 := bu.trans (Bu.of e4)
    have hq4 := bu4 _ _ fq hq2
    walk_at "rd"
    refine ⟨q, _, rfl, SqL.of hq4, ?_⟩
    refine for_enL (ns := b) (fun j σ' H' => ∃ r s5 s6, σ' = [some (.ref p), some (.ref q), some (.ref f), some (.int (i : Nat)), some (.int c), s5, s6] ∧ Bu f H2 H' ∧ H' f = some (.lst (r.map V.int)) ∧ r.length = L ∧ (∀ x, Dt.evL r x = Dt.evL (a.take i) x * Dt.evL b x + c * x ^ i * Dt.evL (b.take j) x) ∧ leL r (i * b.length * B + j * B)) ⟨r, _, _, rfl, bu4, hf4, lr, fun x => by rw [ev x, List.take_zero, Dt.evL_nil, Int.mul_zero, Int.add_zero], fun y hy => Nat.le_trans (le y hy) (by omega)⟩ (fun j σ' H' _ ⟨r, s5, s6, _, bu, _⟩ => bu _ _ fq hq2) ?_ ?_
    · rintro j d σ' H5 H6 hd ⟨r, s5, s6, rfl, bu5, hf5, lr, ev, le⟩ e6
      have hj := (List.getElem?_eq_some_iff.mp hd).1
      have zd := zb d (List.mem_of_getElem? hd)
      have hf6 := e6 _ _ hf5
      have hk : i + j < r.length := by omega
      walk_at "rd"
      refine r_ixL hf6 (v := .int (r.getD (i + j) 0)) (by rw [show ((i : Nat) : Int) + (j : Nat) = ((i + j : Nat) : Int) by push_cast; rfl]; exact atI_nat (by simp [hk])) ?_
      walk_at "rd"
      refine r_I (mulOk zc zd n0 m0 (by omega)) ?_
      walk_at "rd"
      refine r_setL hf6 (n := i + j) (by rw [List.length_map, show ((i : Nat) : Int) + (j : Nat) = ((i + j : Nat) : Int) by push_cast; rfl]; exact ixN_nat hk) ?_
      rw [set_ints]
      have cd : (c * d).natAbs ≤ B := by
        rw [Int.natAbs_mul, ← hB, Nat.pow_add]
        exact Nat.mul_le_mul (Nat.le_of_lt zc) (Nat.le_of_lt zd)
      refine ⟨r.set (i + j) (r.getD (i + j) 0 + c * d), _, _, rfl, (bu5.trans (Bu.of e6)).trans Bu.upd, upd_same, by rw [List.length_set]; exact lr, fun x => ?_, fun y hy => Nat.le_trans (le.set cd y hy) (by rw [Nat.succ_mul]; omega)⟩
      rw [Dt.evL_set hk, ev x, ev_take hd, Int.pow_add]
      generalize x ^ i = xi
      generalize x ^ j = xj
      grind
    · rintro σ' H5 ⟨r, s5, s6, rfl, bu5, hf5, lr, ev, le⟩
      refine ⟨r, _, _, _, _, rfl, bu5, hf5, lr, fun x => ?_, fun y hy => Nat.le_trans (le y hy) (by rw [Nat.succ_mul, Nat.add_mul]; omega)⟩
      rw [ev x, ev_take hc, List.take_length, Int.add_mul]
  · rintro σ' H3 ⟨r, s3, s4, s5, s6, rfl, bu, hf, lr, ev, le⟩
    walk_at "rd"
    refine k f r H3 nfH (bu_ex (e1.trans e2) nfH bu) hf (by omega) (fun x => by rw [ev x, List.take_length]) fun c hc => ?_
    have h1 := le c hc
    have h2 : a.length * b.length * B ≤ 900 * B := Nat.mul_le_mul_right _ (Nat.le_trans (Nat.mul_le_mul a2 b2) (by decide))
    have h3 : 0 < B := by rw [← hB]; exact Nat.pow_pos (by decide)
    show c.natAbs < 2 ^ (n + m + 10)
    rw [Nat.pow_add, hB]
    omega

end K10
namespace K10
open PySem PySem.Spec PyProof.Rows L2 GS TL LamX
local macro_rules | `(tactic| walk_at "rd") => `(tactic| (repeat (first
  | with_reducible refine r_next ?_
  | with_reducible refine r_seq ?_
  | with_reducible refine r_ret ?_
  | with_reducible refine r_ifS ?_
  | with_reducible refine r_asg ?_
  | with_reducible refine r_drop ?_
  | with_reducible refine r_op ?_
  | with_reducible refine r_un ?_
  | with_reducible refine r_cbInt ?_
  | with_reducible refine r_cbAbs ?_
  | with_reducible refine r_cbLen ?_
  | with_reducible refine r_cbList ?_
  | with_reducible refine r_cbTup ?_
  | with_reducible refine r_iEnT ?_
  | with_reducible refine r_iEnL ?_
  | with_reducible refine r_zipA ?_
  | with_reducible refine r_zipX ?_
  | with_reducible refine r_augS ?_
  | with_reducible refine r_cb ?_
  | with_reducible refine r_call ?_
  | with_reducible refine r_make ?_
  | with_reducible refine r_callN0 ?_
  | with_reducible refine r_makeK0 ?_
  | with_reducible refine r_makeS ?_
  | with_reducible refine r_callS ?_
  | with_reducible refine r_cons ?_
  | with_reducible refine r_nil ?_
  | with_reducible refine r_test ?_
  | with_reducible refine r_B ?_
  | with_reducible refine r_and ?_
  | with_reducible refine r_or ?_
  | with_reducible refine r_not ?_
  | with_reducible refine r_andV ?_
  | with_reducible refine r_orV ?_
  | with_reducible refine r_notV ?_
  | with_reducible refine r_if ?_
  | with_reducible refine r_tup ?_
  | with_reducible refine r_lst ?_
  | with_reducible refine r_c ?_
  | with_reducible refine r_lc ?_
  | with_reducible refine r_chain ?_
  | with_reducible refine r_iT ?_
  | with_reducible refine r_iL ?_
  | with_reducible refine r_iR1 ?_
  | with_reducible refine r_iR2 ?_
  | with_reducible refine r_iR3 ?_
  | with_reducible refine r_asgG ?_
  | with_reducible refine r_gSub ?_
  | with_reducible refine r_for ?_
  | with_reducible refine r_smeth ?_
  | with_reducible refine r_par ?_
  | with_reducible refine r_parK ?_
  | with_reducible refine r_gCons ?_
  | with_reducible refine r_gNil ?_
  | with_reducible refine r_gName ?_
  | with_reducible refine r_intI ?_
  | with_reducible refine r_intB ?_
  | with_reducible refine r_absI ?_
  | with_reducible refine r_k ?_
  | with_reducible refine r_kV ?_
  | ((with_reducible show tVar _ _ _ _); refine r_var3 ?_ (by rfl))
  | with_reducible refine r_I0 ?_
  | with_reducible refine r_U ?_
  | with_reducible refine r_eqI ?_
  | with_reducible refine r_neI ?_
  | with_reducible refine r_F ?_
  | dsimp only)))
local macro_rules | `(tactic| walk_at "rx") => `(tactic| (repeat (first
  | with_reducible refine r_next ?_
  | with_reducible refine r_ret ?_
  | with_reducible refine r_ifS ?_
  | with_reducible refine r_asg ?_
  | with_reducible refine r_drop ?_
  | with_reducible refine r_op ?_
  | with_reducible refine r_un ?_
  | with_reducible refine r_cbInt ?_
  | with_reducible refine r_cbAbs ?_
  | with_reducible refine r_cbLen ?_
  | with_reducible refine r_cbList ?_
  | with_reducible refine r_cbTup ?_
  | with_reducible refine r_iEnT ?_
  | with_reducible refine r_iEnL ?_
  | with_reducible refine r_zipA ?_
  | with_reducible refine r_zipX ?_
  | with_reducible refine r_augS ?_
  | with_reducible refine r_cb ?_
  | with_reducible refine r_call ?_
  | with_reducible refine r_make ?_
  | with_reducible refine r_callN0 ?_
  | with_reducible refine r_makeK0 ?_
  | with_reducible refine r_makeS ?_
  | with_reducible refine r_callS ?_
  | with_reducible refine r_cons ?_
  | with_reducible refine r_nil ?_
  | with_reducible refine r_test ?_
  | with_reducible refine r_B ?_
  | with_reducible refine r_and ?_
  | with_reducible refine r_or ?_
  | with_reducible refine r_not ?_
  | with_reducible refine r_andV ?_
  | with_reducible refine r_orV ?_
  | with_reducible refine r_notV ?_
  | with_reducible refine r_if ?_
  | with_reducible refine r_tup ?_
  | with_reducible refine r_lst ?_
  | with_reducible refine r_c ?_
  | with_reducible refine r_lc ?_
  | with_reducible refine r_chain ?_
  | with_reducible refine r_iT ?_
  | with_reducible refine r_iL ?_
  | with_reducible refine r_iR1 ?_
  | with_reducible refine r_iR2 ?_
  | with_reducible refine r_iR3 ?_
  | with_reducible refine r_asgG ?_
  | with_reducible refine r_gSub ?_
  | with_reducible refine r_for ?_
  | with_reducible refine r_smeth ?_
  | with_reducible refine r_par ?_
  | with_reducible refine r_parK ?_
  | with_reducible refine r_gCons ?_
  | with_reducible refine r_gNil ?_
  | with_reducible refine r_gName ?_
  | with_reducible refine r_intI ?_
  | with_reducible refine r_intB ?_
  | with_reducible refine r_absI ?_
  | with_reducible refine r_k ?_
  | with_reducible refine r_kV ?_
  | ((with_reducible show tVar _ _ _ _); refine r_var3 ?_ (by rfl))
  | with_reducible refine r_I0 ?_
  | with_reducible refine r_U ?_
  | with_reducible refine r_eqI ?_
  | with_reducible refine r_neI ?_
  | with_reducible refine r_F ?_
  | dsimp only)))
/-! ### a poly by orders -/
def spByO (K : PySem.W.Frag) : Sp := sp1 fun v H Q _ => ∃ (p : Addr) (cs : List Addr) (rs : List (List Int)) (d : Nat), v = .ref p ∧ H p = some (.lst (cs.map V.ref)) ∧ LA H cs rs ∧ Tab rs d ∧ d ≤ 5 ∧
  ∀ q r H', Ex H H' → H' q = some (.lst (r.map V.int)) → r.length = d + 1 → (∀ x, Dt.worthL r x = Dt.det d (Dt.lessM (en rs) x)) → Q (.ref q) H'
theorem ok__law_by_orders {P : Program} {w : World} {K : PySem.W.Frag} {mg : Str → Option Value} {base : Heap} (T : Txt K mg) : ∃ fd, FnOk P w K mg base (L2.CX P w) 2 (He.ga K "_law_by_orders") fd ["table"] (spByO K) ∧ Binds K fd ["table"] [] := by
  obtain ⟨fd, F⟩ := T.d__law_by_orders
  obtain ⟨fd__law_orders, F__law_orders, B__law_orders⟩ := ok__law_orders (P := P) (w := w) (base := base) T
  obtain ⟨fd__law_multiplied, F__law_multiplied, B__law_multiplied⟩ := ok__law_multiplied (P := P) (w := w) (base := base) T
  refine ⟨fd, F.ok sc__law_by_orders sp1_len (fun cdv A outer s H vs Q E hr h => ?_), F.bindsN fun _ _ _ _ _ _ us hl => match us, hl with | [_], _ => rfl⟩
  have hr__law_orders : Room 1 _ := hr.mono (by decide)
  have hr__law_multiplied : Room 1 _ := hr.mono (by decide)
  obtain ⟨v, rfl, p, cs, rs, d, rfl, hp, hla, tb, d5, k⟩ := sp1_is h
  refine ⟨_, (pss_cons (ps_set (i := 1) sc__law_by_orders.nd rfl (Or.inl rfl) (pe_callB (kx_lens rfl) (by rfl) T.b_len PySem.boot_len (pa_cons (pv 0) pa_nil)))
      (pss_cons (ps_set (i := 2) sc__law_by_orders.nd rfl (Or.inl rfl) (pe_op op_rep (pe_lst (pa_cons pe_int pa_nil)) (pe_op op_add (pv 1) pe_int)))
      (pss_cons (ps_for (passes_of rfl) rfl (pi_list (pe_call F__law_orders hr__law_orders (by rfl) T.g__law_orders T.k__law_orders B__law_orders .nil passL (pa_cons (pv 1) pa_nil))) (pg_tup rfl (pgs_cons (pg_name (i := 3) sc__law_by_orders.nd rfl (Or.inl rfl)) (pgs_cons (pg_name (i := 4) sc__law_by_orders.nd rfl (Or.inl rfl)) pgs_nil))) (pss_cons (ps_set (i := 5) sc__law_by_orders.nd rfl (Or.inl rfl) (pe_lst (pa_cons (pv 4) pa_nil)))
      (pss_cons (ps_for (passes_of rfl) rfl (pi_range1 (by rfl) T.b_range (pa_cons (pv 1) pa_nil)) (pg_name (i := 6) sc__law_by_orders.nd rfl (Or.inl rfl)) (pss_one (ps_set (i := 5) sc__law_by_orders.nd rfl (Or.inl rfl) (pe_call F__law_multiplied hr__law_multiplied (by rfl) T.g__law_multiplied T.k__law_multiplied B__law_multiplied .nil passL (pa_cons (pv 5) (pa_cons (pe_slice sl_list (pe_lst (pa_cons (pe_un un_neg (pe_ix (kx_ixl rfl) (pe_ix (kx_ixl rfl) (pv 0) (pv 6) (fun _ _ => rfl)) (pe_ix (kx_ixl rfl) (pv 3) (pv 6) (fun _ _ => rfl)) (fun _ _ => rfl))) (pa_cons pe_int pa_nil))) po_none (po_some (pe_op op_add pe_int (pe_callTy call_int1 (by rfl) T.b_int (by decide +kernel) (pa_cons (pe_cmpR op_eq (pe_ix (kx_ixl rfl) (pv 3) (pv 6) (fun _ _ => rfl)) (pv 6) (nomark _)) pa_nil))))) pa_nil))))))
      (pss_one (ps_for (passes_of rfl) rfl (pi_enum (by rfl) T.b_enumerate (pa_cons (pv 5) pa_nil)) (pg_tup rfl (pgs_cons (pg_name (i := 7) sc__law_by_orders.nd rfl (Or.inl rfl)) (pgs_cons (pg_name (i := 8) sc__law_by_orders.nd rfl (Or.inl rfl)) pgs_nil))) (pss_one (ps_asg (pe_op op_add (pe_ix (kx_ixl rfl) (pv 2) (pv 7) (fun _ _ => rfl)) (pv 8)) (pg_sub (pv 2) (pv 7) set_list))))))))
      (pss_one (ps_ret (pe_revL (pv 2))))))), ?_⟩
  walk_at "rd"
  refine len_l hp ?_
  rw [List.length_map, hla.1, tb.len]
  walk_at "rd"
  refine r_newL (sz_le (by simp)) fun q1 H1 _ e1 h1 => ?_
  walk_at "rd"
  refine r_zeros h1 (m := d + 1) (by omega) (by omega) fun f H2 nf e2 h2 => ?_
  walk_at "rd"
  refine ⟨_, rfl, d5, fun oq ts rws H3 e3 hoq os => ?_⟩
  refine ⟨oq, rfl, ⟨_, SqL.of hoq⟩, ?_⟩
  have hp3 := (e1.trans (e2.trans e3)) _ _ hp
  have la3 := hla.ex (e1.trans (e2.trans e3))
  have hf3 := e3 _ _ h2
  have nfH : H f = none := e1.free nf
  have fp : p ≠ f := ne_of_none (e1 _ _ hp) nf
  have fo : oq ≠ f := fun z => by
    rw [z, hf3] at hoq
    injection hoq with hoq
    injection hoq with hoq
    cases ts with
    | nil => simp [GM.zr] at hoq
    | cons t ts => simp [GM.zr, List.replicate_succ] at hoq
  have fcs : f ∉ cs := fun z => by
    obtain ⟨j, hj⟩ := List.getElem?_of_mem z
    obtain ⟨r, _, hr⟩ := (hla.ex e1).at hj
    rw [nf] at hr
    cases hr
  have lab : ∀ {H' : Hp}, Bu f H3 H' → LA H' cs rs := fun {H'} b => ⟨la3.1, fun j t r h1 h2 => b _ _ (fun z => fcs (by rw [← z]; exact List.mem_of_getElem? h1)) (la3.2 j t r h1 h2)⟩
  have fts : f ∉ ts := fun z => by
    obtain ⟨j, hj⟩ := List.getElem?_of_mem z
    obtain ⟨r, pq, _, _, hr, _⟩ := os.at hj
    rw [hf3] at hr
    cases hr
  have lts : ts.length = (Dt.orders d).length := os.1
  let M : Int → Dt.Mx := fun x => Dt.lessM (en rs) x
  let tm : List Nat × Int → Int → Int := fun pq x => pq.2 * Dt.Pr d fun i => M x i (pq.1.getD i 0)
  refine for_of (by simpa using walk_list (xs := ts.map V.ref)) (fun m σ' H' => ∃ r s3 s4 s5 s6 s7 s8, σ' = [some (.ref p), some (.int d), some (.ref f), s3, s4, s5, s6, s7, s8] ∧ Bu f H3 H' ∧ H' f = some (.lst (r.map V.int)) ∧ r.length = d + 1 ∧ ∀ x, Dt.evL r x = Dt.sumL ((Dt.orders d).take m) fun pq => tm pq x) ⟨GM.zr (d + 1), _, _, _, _, _, _, rfl, Bu.refl _ _, hf3, zr_len _, fun x => by rw [zr_ev, List.take_zero, Dt.sumL_nil]⟩ (fun m σ' H' _ ⟨r, s3, s4, s5, s6, s7, s8, _, bu, _⟩ => SqL.of (bu _ _ fo hoq)) ?_ ?_
  · rintro m x σ' H4 H4' hm ⟨r, s3, s4, s5, s6, s7, s8, rfl, bu, hf, lr, ev⟩ ⟨rfl, hx⟩
    obtain ⟨t, ht, rfl⟩ := ref_at hx
    obtain ⟨rr, pq, hr, hpq, h1t, h1r⟩ := os.at ht
    have mpq := List.mem_of_getElem? hpq
    have lpq := Dt.orders_len d pq mpq
    have ltq := Dt.orders_lt d pq mpq
    have spq := Dt.orders_sg d pq mpq
    have nrf : rr ≠ f := fun z => by
      rw [z, hf3] at h1r
      injection h1r with h1r
      injection h1r with h1r
      have := congrArg List.length h1r
      simp [GM.zr, lpq] at this
    have g1t := bu _ _ (fun z => fts (by rw [← z]; exact List.mem_of_getElem? ht)) h1t
    have g1r := bu _ _ nrf h1r
    refine r_gTup g1t rfl (r_gCons (r_gName (r_gCons (r_gName (r_gNil ?_)))))
    walk_at "rd"
    refine r_newL (sz_le (by simp)) fun P0 H5 nP0 e5 h5 => ?_
    walk_at "rd"
    refine ⟨_, rfl, by omega, by omega, ?_⟩
    rw [Int.toNat_natCast]
    have hpv : H4' p = some (.lst (cs.map V.ref)) := bu _ _ fp hp3
    have lav := lab bu
    refine for_of (walk_range (lo := 0) (n := d)) (fun i σ' H' => ∃ P pl s6, σ' = [some (.ref p), some (.int d), some (.ref f), some (.ref rr), some (.int pq.2), some (.ref P), s6, s7, s8] ∧ Ex H4' H' ∧ H' P = some (.lst (pl.map V.int)) ∧ H4' P = none ∧ 1 ≤ pl.length ∧ pl.length ≤ i + 1 ∧ (∀ c ∈ pl, Z (10 + 212 * i) c) ∧ ∀ x, Dt.evL pl x = pq.2 * Dt.Pr i fun i => M x i (pq.1.getD i 0)) ⟨P0, [pq.2], _, rfl, e5, h5, nP0, by simp, by simp, fun c hc => by rw [List.mem_singleton.mp hc]; rcases spq with z | z <;> rw [z] <;> (unfold Z; decide), fun x => by rw [Dt.evL_cons, Dt.evL_nil]; show pq.2 + x * 0 = pq.2 * 1; omega⟩ (fun _ _ _ _ _ => trivial) ?_ ?_
    · rintro i x σ' H6 H6' hi ⟨P, pl, s6, rfl, e6, hP, nP, l1, l2, zp, evp⟩ ⟨rfl, hx⟩
      obtain rfl : x = V.int (i : Nat) := hx.trans (congrArg V.int (Int.zero_add _))
      refine r_gName ?_
      walk_at "rd"
      have hc : pq.1[i]? = some (pq.1[i]'(by omega)) := List.getElem?_eq_getElem _
      have hcd : pq.1.getD i 0 = pq.1[i]'(by omega) := by rw [List.getD_eq_getElem?_getD, hc]; rfl
      have hlt : pq.1[i]'(by omega) < d := ltq _ (List.getElem_mem _)
      generalize pq.1[i]'(by omega) = c at hc hcd hlt
      have g6r := e6 _ _ g1r
      have g6p := e6 _ _ hpv
      have la6 := lav.ex e6
      obtain ⟨ri, hri, lri, gri⟩ := tb.rw hi
      obtain ⟨ti, hti, hwi⟩ := la6.col hri
      refine r_sl ?_
      walk_at "rd"
      refine r_ixL g6p (v := .ref ti) (atI_nat (by rw [List.getElem?_map, hti]; rfl)) ?_
      walk_at "rd"
      refine r_ixL g6r (v := nI c) (atI_nat (by rw [List.getElem?_map, hc]; rfl)) ?_
      refine r_ixL hwi (v := .int (en rs i c)) (atI_nat (by rw [List.getElem?_map, gri c hlt]; rfl)) ?_
      walk_at "rd"
      refine r_newL (sz_le (by simp)) fun q7 H7 _ e7 h7 => ?_
      refine r_noPart ?_
      refine r_part ?_
      walk_at "rd"
      refine r_ixL (e7 _ _ g6r) (v := nI c) (atI_nat (by rw [List.getElem?_map, hc]; rfl)) ?_
      walk_at "rd"
      rw [show decide (((c : Nat) : Int) = ((i : Nat) : Int)) = decide (c = i) by rw [decide_eq_decide]; omega]
      have zt : Z 202 (en rs i c) := (tb.z ri (List.mem_of_getElem? hri) _ (List.mem_of_getElem? (gri c hlt))).mono (by decide)
      have fin : ∀ (fc : List Int) (q8 : Addr) (H8 : Hp), Ex H7 H8 → H8 q8 = some (.lst (fc.map V.int)) → 1 ≤ fc.length → fc.length ≤ 2 → (∀ y ∈ fc, Z 202 y) → (∀ x, Dt.evL fc x = M x i c) → spMul K [.ref P, .ref q8] H8 (fun x H' => ∃ P pl s6, [some (V.ref p), some (.int (d : Int)), some (.ref f), some (.ref rr), some (.int pq.2), some x, some (.int (i : Nat)), s7, s8] = [some (.ref p), some (.int d), some (.ref f), some (.ref rr), some (.int pq.2), some (.ref P), s6, s7, s8] ∧ Ex H4' H' ∧ H' P = some (.lst (pl.map V.int)) ∧ H4' P = none ∧ 1 ≤ pl.length ∧ pl.length ≤ (i + 1) + 1 ∧ (∀ c ∈ pl, Z (10 + 212 * (i + 1)) c) ∧ ∀ x, Dt.evL pl x = pq.2 * Dt.Pr (i + 1) fun i => M x i (pq.1.getD i 0)) E0 := by
        intro fc q8 H8 e8 h8 f1 f2 fz fe
        refine ⟨P, q8, pl, fc, 10 + 212 * i, 202, rfl, rfl, e8 _ _ (e7 _ _ hP), h8, l1, f1, by omega, by omega, by omega, by omega, by omega, by omega, zp, fz, fun P' r' H9 nP' e9 h9 lr' ev' zr' => ?_⟩
        have e69 := e7.trans (e8.trans e9)
        refine ⟨P', r', _, rfl, e6.trans e69, h9, (e6.trans (e7.trans e8)).free nP', by omega, by omega, fun y hy => (zr' y hy).mono (by omega), fun x => ?_⟩
        rw [ev' x, evp x, fe x, ← hcd]
        show _ = pq.2 * (Dt.Pr i (fun i => M x i (pq.1.getD i 0)) * M x i (pq.1.getD i 0))
        grind
      by_cases ci : c = i
      · rw [decide_eq_true ci]
        refine ⟨2, rfl, r_slL h7 (zs := [V.int (-(en rs i c)), V.int 1]) rfl fun q8 H8 _ e8 h8 => ?_⟩
        walk_at "rd"
        refine fin [-(en rs i c), 1] q8 H8 e8 h8 (by simp) (by simp) (fun y hy => ?_) fun x => ?_
        · simp only [List.mem_cons, List.mem_nil_iff, or_false] at hy
          rcases hy with rfl | rfl
          · exact zneg zt
          · unfold Z; decide
        · rw [Dt.evL_cons, Dt.evL_cons, Dt.evL_nil]
          show _ = (if i = c then x else 0) - en rs i c
          rw [if_pos ci.symm]
          omega
      · rw [decide_eq_false ci]
        refine ⟨1, rfl, r_slL h7 (zs := [V.int (-(en rs i c))]) rfl fun q8 H8 _ e8 h8 => ?_⟩
        walk_at "rd"
        refine fin [-(en rs i c)] q8 H8 e8 h8 (by simp) (by simp) (fun y hy => ?_) fun x => ?_
        · rw [List.mem_singleton.mp hy]
          exact zneg zt
        · rw [Dt.evL_cons, Dt.evL_nil]
          show _ = (if i = c then x else 0) - en rs i c
          rw [if_neg (Ne.symm ci)]
          omega
    · rintro σ' H6 ⟨P, pl, s6, rfl, e6, hP, nP, l1, l2, zp, evp⟩
      walk_at "rd"
      have bu6 : Bu f H3 H6 := bu.trans (Bu.of e6)
      have hf6 := e6 _ _ hf
      have nPf : P ≠ f := fun z => by rw [z, hf] at nP; cases nP
      refine ⟨P, _, rfl, SqL.of hP, ?_⟩
      refine for_enL (ns := pl) (fun j σ' H' => ∃ r s6 s7 s8, σ' = [some (.ref p), some (.int d), some (.ref f), some (.ref rr), some (.int pq.2), some (.ref P), s6, s7, s8] ∧ Bu f H6 H' ∧ H' f = some (.lst (r.map V.int)) ∧ r.length = d + 1 ∧ ∀ x, Dt.evL r x = Dt.sumL ((Dt.orders d).take m) (fun pq => tm pq x) + Dt.evL (pl.take j) x) ⟨r, _, _, _, rfl, Bu.refl _ _, hf6, lr, fun x => by rw [ev x, List.take_zero, Dt.evL_nil]; omega⟩ (fun j σ' H' _ ⟨r, s6, s7, s8, _, b, _⟩ => b _ _ nPf hP) ?_ ?_
      · rintro j y σ' H7 H8 hy ⟨r, s6, s7, s8, rfl, b7, hf7, lr, ev⟩ e8
        have hj := (List.getElem?_eq_some_iff.mp hy).1
        have hf8 := e8 _ _ hf7
        have hk : j < r.length := by omega
        walk_at "rd"
        refine r_ixL hf8 (v := .int (r.getD j 0)) (atI_nat (by simp [hk])) ?_
        walk_at "rd"
        refine r_setL hf8 (n := j) (by rw [List.length_map]; exact ixN_nat hk) ?_
        rw [set_ints]
        refine ⟨_, _, _, _, rfl, (b7.trans (Bu.of e8)).trans Bu.upd, upd_same, by rw [List.length_set]; exact lr, fun x => ?_⟩
        rw [Dt.evL_set hk, ev x, ev_take hy]
        omega
      · rintro σ' H7 ⟨r, s6, s7, s8, rfl, b7, hf7, lr, ev⟩
        refine ⟨r, _, _, _, _, _, _, rfl, bu6.trans b7, hf7, lr, fun x => ?_⟩
        rw [ev x, List.take_length, evp x, List.take_add_one, hpq, Dt.sumL_app]
        show _ = _ + Dt.sumL [pq] _
        rw [Dt.sumL_cons, Dt.sumL_nil]
        show _ + pq.2 * _ = _ + (pq.2 * _ + 0)
        omega
  · rintro σ' H4 ⟨r, s3, s4, s5, s6, s7, s8, rfl, bu, hf, lr, ev⟩
    walk_at "rd"
    refine ⟨_, rfl, f, _, rfl, SqL.of hf, fun q nq => ?_⟩
    have e5 : Ex H4 (upd H4 q (.lst ((r.map V.int).reverse))) := Ex.new nq
    refine k q r.reverse _ (bu_ex (e1.trans (e2.trans e3)) nfH bu |>.trans e5) (by rw [upd_same, List.map_reverse]) (by rw [List.length_reverse, lr]) fun x => ?_
    rw [Dt.worth_rev, List.reverse_reverse, ev x, lts, List.take_length]
    exact Dt.leibniz d (M x)

end K10
namespace K10
open PySem PySem.Spec PyProof.Rows L2 GS TL LamX
local macro_rules | `(tactic| walk_at "rd") => `(tactic| (repeat (first
  | with_reducible refine r_next ?_
  | with_reducible refine r_seq ?_
  | with_reducible refine r_ret ?_
  | with_reducible refine r_ifS ?_
  | with_reducible refine r_asg ?_
  | with_reducible refine r_drop ?_
  | with_reducible refine r_op ?_
  | with_reducible refine r_un ?_
  | with_reducible refine r_cbInt ?_
  | with_reducible refine r_cbAbs ?_
  | with_reducible refine r_cbLen ?_
  | with_reducible refine r_cbList ?_
  | with_reducible refine r_cbTup ?_
  | with_reducible refine r_iEnT ?_
  | with_reducible refine r_iEnL ?_
  | with_reducible refine r_zipA ?_
  | with_reducible refine r_zipX ?_
  | with_reducible refine r_augS ?_
  | with_reducible refine r_cb ?_
  | with_reducible refine r_call ?_
  | with_reducible refine r_make ?_
  | with_reducible refine r_callN0 ?_
  | with_reducible refine r_makeK0 ?_
  | with_reducible refine r_makeS ?_
  | with_reducible refine r_callS ?_
  | with_reducible refine r_cons ?_
  | with_reducible refine r_nil ?_
  | with_reducible refine r_test ?_
  | with_reducible refine r_B ?_
  | with_reducible refine r_and ?_
  | with_reducible refine r_or ?_
  | with_reducible refine r_not ?_
  | with_reducible refine r_andV ?_
  | with_reducible refine r_orV ?_
  | with_reducible refine r_notV ?_
  | with_reducible refine r_if ?_
  | with_reducible refine r_tup ?_
  | with_reducible refine r_lst ?_
  | with_reducible refine r_c ?_
  | with_reducible refine r_lc ?_
  | with_reducible refine r_chain ?_
  | with_reducible refine r_iT ?_
  | with_reducible refine r_iL ?_
  | with_reducible refine r_iR1 ?_
  | with_reducible refine r_iR2 ?_
  | with_reducible refine r_iR3 ?_
  | with_reducible refine r_asgG ?_
  | with_reducible refine r_gSub ?_
  | with_reducible refine r_for ?_
  | with_reducible refine r_smeth ?_
  | with_reducible refine r_par ?_
  | with_reducible refine r_parK ?_
  | with_reducible refine r_gCons ?_
  | with_reducible refine r_gNil ?_
  | with_reducible refine r_gName ?_
  | with_reducible refine r_intI ?_
  | with_reducible refine r_intB ?_
  | with_reducible refine r_absI ?_
  | with_reducible refine r_k ?_
  | with_reducible refine r_kV ?_
  | ((with_reducible show tVar _ _ _ _); refine r_var3 ?_ (by rfl))
  | with_reducible refine r_I0 ?_
  | with_reducible refine r_U ?_
  | with_reducible refine r_eqI ?_
  | with_reducible refine r_neI ?_
  | with_reducible refine r_F ?_
  | dsimp only)))
local macro_rules | `(tactic| walk_at "rx") => `(tactic| (repeat (first
  | with_reducible refine r_next ?_
  | with_reducible refine r_ret ?_
  | with_reducible refine r_ifS ?_
  | with_reducible refine r_asg ?_
  | with_reducible refine r_drop ?_
  | with_reducible refine r_op ?_
  | with_reducible refine r_un ?_
  | with_reducible refine r_cbInt ?_
  | with_reducible refine r_cbAbs ?_
  | with_reducible refine r_cbLen ?_
  | with_reducible refine r_cbList ?_
  | with_reducible refine r_cbTup ?_
  | with_reducible refine r_iEnT ?_
  | with_reducible refine r_iEnL ?_
  | with_reducible refine r_zipA ?_
  | with_reducible refine r_zipX ?_
  | with_reducible refine r_augS ?_
  | with_reducible refine r_cb ?_
  | with_reducible refine r_call ?_
  | with_reducible refine r_make ?_
  | with_reducible refine r_callN0 ?_
  | with_reducible refine r_makeK0 ?_
  | with_reducible refine r_makeS ?_
  | with_reducible refine r_callS ?_
  | with_reducible refine r_cons ?_
  | with_reducible refine r_nil ?_
  | with_reducible refine r_test ?_
  | with_reducible refine r_B ?_
  | with_reducible refine r_and ?_
  | with_reducible refine r_or ?_
  | with_reducible refine r_not ?_
  | with_reducible refine r_andV ?_
  | with_reducible refine r_orV ?_
  | with_reducible refine r_notV ?_
  | with_reducible refine r_if ?_
  | with_reducible refine r_tup ?_
  | with_reducible refine r_lst ?_
  | with_reducible refine r_c ?_
  | with_reducible refine r_lc ?_
  | with_reducible refine r_chain ?_
  | with_reducible refine r_iT ?_
  | with_reducible refine r_iL ?_
  | with_reducible refine r_iR1 ?_
  | with_reducible refine r_iR2 ?_
  | with_reducible refine r_iR3 ?_
  | with_reducible refine r_asgG ?_
  | with_reducible refine r_gSub ?_
  | with_reducible refine r_for ?_
  | with_reducible refine r_smeth ?_
  | with_reducible refine r_par ?_
  | with_reducible refine r_parK ?_
  | with_reducible refine r_gCons ?_
  | with_reducible refine r_gNil ?_
  | with_reducible refine r_gName ?_
  | with_reducible refine r_intI ?_
  | with_reducible refine r_intB ?_
  | with_reducible refine r_absI ?_
  | with_reducible refine r_k ?_
  | with_reducible refine r_kV ?_
  | ((with_reducible show tVar _ _ _ _); refine r_var3 ?_ (by rfl))
  | with_reducible refine r_I0 ?_
  | with_reducible refine r_U ?_
  | with_reducible refine r_eqI ?_
  | with_reducible refine r_neI ?_
  | with_reducible refine r_F ?_
  | dsimp only)))
/-! ### the determinant by leading to steps -/
theorem r_eqIntsL {K : PySem.W.Frag} {H : Hp} {Q : VK} {p q : Addr} {xs ys : List Int} (h1 : H p = some (.lst (xs.map V.int))) (h2 : H q = some (.lst (ys.map V.int))) (k : Q (.bl (decide (xs = ys))) H) : rEqD K (.ref p) (.ref q) H Q := by
  refine ⟨_, _, .lst (SqL.of h1) (dp_ints xs), .lst (SqL.of h2) (dp_ints ys), (shaped_ints xs).1, (shaped_ints ys).1, ?_⟩
  show Q (.bl (PyData.eqvAll (xs.map PyData.int) (ys.map PyData.int))) H
  rw [eqv_ints]
  exact k
theorem given_ints (n : Nat) (t : Nat → Bool) (f : Nat → Int) : given n t (fun i => .int (f i)) = (((List.range n).filter t).map f).map V.int := by
  unfold given
  rw [List.map_map]
  rfl
theorem en_set {rs : List (List Int)} {i : Nat} {r : List Int} (hi : i < rs.length) (a b : Nat) : en (rs.set i r) a b = if a = i then r.getD b 0 else en rs a b := by
  unfold en
  by_cases c : a = i
  · subst c
    rw [if_pos rfl]
    simp [List.getD_eq_getElem?_getD, hi]
  · rw [if_neg c]
    congr 1
    rw [List.getD_eq_getElem?_getD, List.getElem?_set_ne (fun z => c z.symm), ← List.getD_eq_getElem?_getD]
theorem Rw.set {rs : List (List Int)} {d i : Nat} {r : List Int} (t : Rw rs d) (hr : r.length = d) : Rw (rs.set i r) d := by
  refine ⟨by rw [List.length_set]; exact t.len, fun q hq => ?_⟩
  rcases List.mem_or_eq_of_mem_set hq with z | z
  · exact t.row q z
  · rw [z]; exact hr
theorem Rw.get {rs : List (List Int)} {d : Nat} (t : Rw rs d) {i : Nat} (hi : i < d) : ∃ r, rs[i]? = some r ∧ r.length = d ∧ ∀ j, j < d → r[j]? = some (en rs i j) := by
  have hl : i < rs.length := by rw [t.len]; exact hi
  refine ⟨rs[i], by simp [hl], t.row _ (List.getElem_mem hl), fun j hj => ?_⟩
  have := t.row _ (List.getElem_mem hl)
  have hj' : j < rs[i].length := by omega
  simp [en, List.getD_eq_getElem?_getD, List.getElem?_eq_getElem hl, List.getElem?_eq_getElem hj']
theorem la_set {H : Hp} {us : List Addr} {rs : List (List Int)} {i : Nat} {u : Addr} {r : List Int} (h : LA H us rs) (hu : H u = some (.lst (r.map V.int))) : LA H (us.set i u) (rs.set i r) := by
  refine ⟨by simp [h.1], fun j t v h1 h2 => ?_⟩
  rw [List.getElem?_set] at h1 h2
  by_cases e : i = j
  · rw [if_pos e] at h1 h2
    split at h1
    · rename_i c
      rw [if_pos (by rw [← h.1]; exact c)] at h2
      cases h1
      cases h2
      exact hu
    · cases h1
  · rw [if_neg e] at h1 h2
    exact h.2 j t v h1 h2
theorem zlow {c : Int} (h : c.natAbs ≤ 2 ^ 4968) : Z 5000 c := Nat.lt_of_le_of_lt h (Nat.pow_lt_pow_right (by decide) (by decide))
/-- what is held of the rows while leading to steps -/
structure Rs (H0 H : Hp) (q : Addr) (us : List Addr) (rs : List (List Int)) (d : Nat) : Prop where
  bu : Bu q H0 H
  at_ : H q = some (.lst (us.map V.ref))
  la : LA H us rs
  rw : Rw rs d
  nq : q ∉ us
theorem Rs.ex {H0 H H' : Hp} {q : Addr} {us : List Addr} {rs : List (List Int)} {d : Nat} (h : Rs H0 H q us rs d) (e : Ex H H') : Rs H0 H' q us rs d := ⟨h.bu.trans (Bu.of e), e _ _ h.at_, h.la.ex e, h.rw, h.nq⟩
theorem Rs.set {H0 H : Hp} {q u : Addr} {us : List Addr} {rs : List (List Int)} {d i : Nat} {r : List Int} (h : Rs H0 H q us rs d) (hu : H u = some (.lst (r.map V.int))) (ne : q ≠ u) (hr : r.length = d) : Rs H0 (upd H q (.lst ((us.map V.ref).set i (.ref u)))) q (us.set i u) (rs.set i r) d := by
  have n2 : q ∉ us.set i u := fun z => by
    rcases List.mem_or_eq_of_mem_set z with z | z
    · exact h.nq z
    · exact ne z
  refine ⟨h.bu.trans Bu.upd, by rw [upd_same, List.map_set], (la_set h.la hu).upd n2, h.rw.set hr, n2⟩
def spDet (K : PySem.W.Frag) : Sp := sp1 fun v H Q _ => ∃ (p : Addr) (cs : List Addr) (rs : List (List Int)) (d : Nat), v = .ref p ∧ H p = some (.lst (cs.map V.ref)) ∧ LA H cs rs ∧ Rw rs d ∧ 1 ≤ d ∧ d ≤ 24 ∧ (∀ i j, i < d → j < d → (en rs i j).natAbs ≤ 2 ^ 202) ∧ ∀ H', Ex H H' → Q (.int (Dt.det d (en rs))) H'
theorem ok__law_determinant {P : Program} {w : World} {K : PySem.W.Frag} {mg : Str → Option Value} {base : Heap} (T : Txt K mg) : ∃ fd, FnOk P w K mg base (L2.CX P w) 1 (He.ga K "_law_determinant") fd ["table"] (spDet K) ∧ Binds K fd ["table"] [] := by
  obtain ⟨fd, F⟩ := T.d__law_determinant
  refine ⟨fd, F.ok sc__law_determinant sp1_len (fun cdv A outer s H vs Q E hr h => ?_), F.bindsN fun _ _ _ _ _ _ us hl => match us, hl with | [_], _ => rfl⟩
  obtain ⟨v, rfl, p, cs, rs, d, rfl, hp, hla, rw0, d1, d24, hz, k⟩ := sp1_is h
  refine ⟨_, (pss_cons (ps_asg (pe_tup (pa_cons (pe_lc (own := [("row", 4)]) (g := gName 4) (tt := tYes)  rfl sc__law_determinant.nd (pi_list (pv 0)) (blkOk_by (own := [("row", 4)]) (N := ["table", "rows", "last", "turn", "row", "at", "below", "lead", "head", "rest", "one", "two"]) (sc := defScope s__law_determinant) (by decide +kernel)) (fun _ _ _ _ _ => (pg_name (i := 4) sc__law_determinant.nd rfl (Or.inl rfl))) (fun _ _ _ _ _ => pts_nil) (fun _ _ _ _ _ => (pe_callTy (kx_listOf (K := K) rfl) (by rfl) T.b_list (by decide +kernel) (pa_cons (pv 4) pa_nil)))) (pa_cons pe_int (pa_cons pe_int pa_nil)))) (pg_tup rfl (pgs_cons (pg_name (i := 1) sc__law_determinant.nd rfl (Or.inr rfl)) (pgs_cons (pg_name (i := 2) sc__law_determinant.nd rfl (Or.inr rfl)) (pgs_cons (pg_name (i := 3) sc__law_determinant.nd rfl (Or.inl rfl)) pgs_nil)))))
      (pss_cons (ps_for (passes_of rfl) rfl (pi_range1 (by rfl) T.b_range (pa_cons (pe_op op_sub (pe_callB (kx_lens rfl) (by rfl) T.b_len PySem.boot_len (pa_cons (pv 1) pa_nil)) pe_int) pa_nil)) (pg_name (i := 5) sc__law_determinant.nd rfl (Or.inr rfl)) (pss_cons (ps_setLc (i := 6) (own := [("row", 4)]) (g := gName 4)  rfl sc__law_determinant.nd rfl rfl (sw_true rfl rfl rfl (by decide +kernel)) (pi_range2 (by rfl) T.b_range (pa_cons (pv 5) (pa_cons (pe_callB (kx_lens rfl) (by rfl) T.b_len PySem.boot_len (pa_cons (pv 1) pa_nil)) pa_nil))) (blkOk_by (own := [("row", 4)]) (N := ["table", "rows", "last", "turn", "row", "at", "below", "lead", "head", "rest", "one", "two"]) (sc := defScope s__law_determinant) (by decide +kernel)) (fun _ _ _ _ _ => (pg_name (i := 4) sc__law_determinant.nd rfl (Or.inl rfl))) (fun _ _ _ _ _ => (pts_one (pt_cmpR op_ne (pe_ix (kx_ixl rfl) (pe_ix (kx_ixl rfl) (pv 1) (pv 4) (fun _ _ => rfl)) (pv 5) (fun _ _ => rfl)) pe_int (nomark _)))) (fun _ _ _ _ _ => (pv 4)))
      (pss_cons (ps_if (pt_cmpR (op_eqD hr.units) (pv 6) (pe_lst pa_nil) (nomark _)) (pss_one (ps_ret pe_int)) pss_nil)
      (pss_cons (ps_if (pt_cmpR op_ne (pe_ix (kx_ixl rfl) (pv 6) pe_int (fun _ _ => rfl)) (pv 5) (nomark _)) (pss_one (ps_asg (pe_tup (pa_cons (pe_ix (kx_ixl rfl) (pv 1) (pe_ix (kx_ixl rfl) (pv 6) pe_int (fun _ _ => rfl)) (fun _ _ => rfl)) (pa_cons (pe_ix (kx_ixl rfl) (pv 1) (pv 5) (fun _ _ => rfl)) (pa_cons (pe_un un_neg (pv 3)) pa_nil)))) (pg_tup rfl (pgs_cons (pg_sub (pv 1) (pv 5) set_list) (pgs_cons (pg_sub (pv 1) (pe_ix (kx_ixl rfl) (pv 6) pe_int (fun _ _ => rfl)) set_list) (pgs_cons (pg_name (i := 3) sc__law_determinant.nd rfl (Or.inl rfl)) pgs_nil)))))) pss_nil)
      (pss_cons (ps_set (i := 7) sc__law_determinant.nd rfl (Or.inr rfl) (pe_ix (kx_ixl rfl) (pv 1) (pv 5) (fun _ _ => rfl)))
      (pss_cons (ps_for (passes_of rfl) rfl (pi_range2 (by rfl) T.b_range (pa_cons (pe_op op_add (pv 5) pe_int) (pa_cons (pe_callB (kx_lens rfl) (by rfl) T.b_len PySem.boot_len (pa_cons (pv 1) pa_nil)) pa_nil))) (pg_name (i := 4) sc__law_determinant.nd rfl (Or.inl rfl)) (pss_cons (ps_set (i := 8) sc__law_determinant.nd rfl (Or.inr rfl) (pe_ix (kx_ixl rfl) (pe_ix (kx_ixl rfl) (pv 1) (pv 4) (fun _ _ => rfl)) (pv 5) (fun _ _ => rfl)))
      (pss_cons (ps_setLc (i := 9) (own := [("one", 10), ("two", 11)]) (g := gTup K 2 (gCons (gName 10) (gCons (gName 11) (gNil)))) (tt := tYes)  rfl sc__law_determinant.nd rfl rfl (sw_true rfl rfl rfl (by decide +kernel)) (pi_zipX (by rfl) T.b_zip (pa_cons (pe_slice sl_list (pe_ix (kx_ixl rfl) (pv 1) (pv 4) (fun _ _ => rfl)) (po_some (pe_op op_add (pv 5) pe_int)) po_none) (pa_cons (pe_slice sl_list (pv 7) (po_some (pe_op op_add (pv 5) pe_int)) po_none) pa_nil))) (blkOk_by (own := [("one", 10), ("two", 11)]) (N := ["table", "rows", "last", "turn", "row", "at", "below", "lead", "head", "rest", "one", "two"]) (sc := defScope s__law_determinant) (by decide +kernel)) (fun _ _ _ _ _ => (pg_tup rfl (pgs_cons (pg_name (i := 10) sc__law_determinant.nd rfl (Or.inl rfl)) (pgs_cons (pg_name (i := 11) sc__law_determinant.nd rfl (Or.inl rfl)) pgs_nil)))) (fun _ _ _ _ _ => pts_nil) (fun _ _ _ _ _ => (pe_op op_fdivV (pe_op op_sub (pe_op op_mulW (pv 10) (pe_ix (kx_ixl rfl) (pv 7) (pv 5) (fun _ _ => rfl))) (pe_op op_mulW (pv 8) (pv 11))) (pv 2))))
      (pss_one (ps_asg (pe_op op_cat (pe_op op_rep (pe_lst (pa_cons pe_int pa_nil)) (pe_op op_add (pv 5) pe_int)) (pv 9)) (pg_sub (pv 1) (pv 4) set_list))))))
      (pss_one (ps_set (i := 2) sc__law_determinant.nd rfl (Or.inr rfl) (pe_ix (kx_ixl rfl) (pv 7) (pv 5) (fun _ _ => rfl))))))))))
      (pss_one (ps_ret (pe_op op_mulW (pv 3) (pe_ix (kx_ixl rfl) (pe_ix (kx_ixl rfl) (pv 1) (pe_un un_neg pe_int) (fun _ _ => rfl)) (pe_un un_neg pe_int) (fun _ _ => rfl))))))), ?_⟩
  walk_at "rd"
  have lcs : cs.length = d := by rw [hla.1]; exact rw0.len
  refine ⟨p, rfl, ⟨_, SqL.of hp⟩, ?_⟩
  refine r_lcLs (n := cs.length) (k := 4) (by simpa using walk_list (xs := cs.map V.ref)) (fun i => (rs.getD i []).map V.int) (by omega) (fun H' e => SqL.of (e _ _ hp)) (fun _ => rfl) ?_ ?_
  · rintro i y H2 H3 hi e2 ⟨rfl, hy⟩
    refine ⟨Ex.refl _, fun R kR => ?_⟩
    obtain ⟨t, ht, rfl⟩ := ref_at hy
    obtain ⟨r, hr, hrow⟩ := (hla.ex e2).at ht
    walk_at "rd"
    refine r_list (.inl (SqL.of hrow)) fun l H4 nl e4 h4 => ?_
    refine kR l H4 e4 nl ?_
    rw [h4, List.getD_eq_getElem?_getD, hr]
    rfl
  intro q ts H1 hq e1 h1 hlen hnd hnew hrow
  have nq : q ∉ ts := (List.nodup_cons.mp hnd).1
  have nd := (List.nodup_cons.mp hnd).2
  have la1 : LA H1 ts rs := by
    have := la_rows (n := cs.length) (f := fun i => rs.getD i []) hlen hrow
    rw [lcs, ← rw0.len] at this
    have e : (List.range rs.length).map (fun i => rs.getD i []) = rs := by
      refine List.ext_getElem (by simp) fun i h1 h2 => ?_
      simp at h1
      simp [h1]
    rw [e] at this
    exact this
  walk_at "rd"
  refine r_newT (sz_le (by simp)) fun t2 H2 _ e2 h2 => ?_
  refine r_gTup h2 rfl (r_gCons (r_gName (r_gCons (r_gName (r_gCons (r_gName (r_gNil ?_)))))))
  walk_at "rd"
  have r2 : Rs H2 H2 q ts rs d := ⟨Bu.refl _ _, e2 _ _ h1, la1.ex e2, rw0, nq⟩
  have e02 := e1.trans e2
  have lts : ts.length = d := by rw [hlen]; exact lcs
  refine len_l (e2 _ _ h1) ?_
  rw [List.length_map, lts]
  walk_at "rd"
  refine ⟨((d - 1 : Nat) : Int), by rw [show ((d : Nat) : Int) - 1 = ((d - 1 : Nat) : Int) by omega], by omega, by omega, ?_⟩
  rw [Int.toNat_natCast]
  refine for_of (walk_range (lo := 0) (n := d - 1)) (fun i σ' H' => ∃ us rs' last turn s4 s5 s6 s7 s8 s9, σ' = [some (.ref p), some (.ref q), some (.int last), some (.int turn), s4, s5, s6, s7, s8, s9, none, none] ∧ Rs H2 H' q us rs' d ∧ Dt.St d (en rs) i (en rs') last turn 202) ⟨ts, rs, 1, 1, _, _, _, _, _, _, rfl, r2, Dt.St.start hz⟩ (fun _ _ _ _ _ => trivial) ?_ ?_
  · rintro i x σ' H3 H3' hi ⟨us, rs', last, turn, s4, s5, s6, s7, s8, s9, rfl, r3, st⟩ ⟨rfl, hx⟩
    obtain rfl : x = V.int (i : Nat) := hx.trans (congrArg V.int (Int.zero_add _))
    refine r_gName ?_
    have lus : us.length = d := by rw [r3.la.1]; exact r3.rw.len
    -- which rows are other than 0 there
    refine r_seqJ (fun σ' H' => ∃ (B : Addr) (bl : List Int), σ' = [some (.ref p), some (.ref q), some (.int last), some (.int turn), s4, some (.int (i : Nat)), some (.ref B), s7, s8, s9, none, none] ∧ Rs H2 H' q us rs' d ∧ H' B = some (.lst (bl.map V.int)) ∧ bl = ((List.range (d - i)).filter fun j => !decide (en rs' (i + j) i = 0)).map fun j => ((i + j : Nat) : Int)) (fun N hN => ?_) ?_
    · walk_at "rx"
      refine len_l r3.at_ ?_
      rw [List.length_map, lus]
      walk_at "rd"
      refine ⟨_, _, rfl, by omega, ?_⟩
      rw [show (((d : Nat) : Int) - (i : Nat)).toNat = d - i by omega]
      refine r_lcF (n := d - i) (k := 4) (walk_range (lo := ((i : Nat) : Int))) (fun j => !decide (en rs' (i + j) i = 0)) (fun j => .int ((i + j : Nat) : Int)) (by omega) (fun _ _ => trivial) (fun _ => rfl) ?_ ?_ ?_
      · rintro j y H4 H4' hj e4 ⟨rfl, rfl⟩
        refine ⟨Ex.refl _, fun R kR => ?_⟩
        have r4 := r3.ex e4
        obtain ⟨r, hr, lr, gr⟩ := r4.rw.get (i := i + j) (by omega)
        obtain ⟨u, hu, hru⟩ := r4.la.col hr
        walk_at "rd"
        refine r_ixL r4.at_ (v := .ref u) (by rw [show ((i : Nat) : Int) + (j : Nat) = ((i + j : Nat) : Int) by push_cast; rfl]; exact atI_nat (by rw [List.getElem?_map, hu]; rfl)) ?_
        walk_at "rd"
        refine r_ixL hru (v := .int (en rs' (i + j) i)) (atI_nat (by rw [List.getElem?_map, gr i (by omega)]; rfl)) ?_
        walk_at "rd"
        exact kR _ (Ex.refl _)
      · rintro j y H4 hj tj e4 ⟨Ha, Hb, ⟨rfl, rfl⟩, ea, eb, ec⟩ R kR
        walk_at "rd"
        rw [show ((i : Nat) : Int) + (j : Nat) = ((i + j : Nat) : Int) by push_cast; rfl]
        exact kR _ (Ex.refl _)
      · intro B H4 nB e4 h4
        rw [given_ints (d - i) (fun j => !decide (en rs' (i + j) i = 0)) fun j => ((i + j : Nat) : Int)] at h4
        exact hN _ _ ⟨B, _, rfl, r3.ex e4, h4, rfl⟩
    rintro σ' H4 ⟨B, bl, rfl, r4, hB, hbl⟩
    cases bl with
    | nil =>
      walk_at "rd"
      refine r_newL (xs := []) (sz_le (by simp)) fun q5 H5 _ e5 h5 => ?_
      refine r_eqIntsL (xs := []) (ys := []) (e5 _ _ hB) h5 ?_
      refine ⟨_, rfl, ite_t rfl ?_⟩
      walk_at "rd"
      have z : Dt.det d (en rs) = 0 := st.none (by omega) fun a ha hb => by
        have := List.map_eq_nil_iff.mp hbl.symm
        have := List.filter_eq_nil_iff.mp this (a - i) (List.mem_range.mpr (by omega))
        rw [show i + (a - i) = a by omega] at this
        simpa using this
      have nqH : H q = none := hq
      have := k H5 (bu_ex e02 nqH (r4.bu.trans (Bu.of e5)))
      rw [z] at this
      exact this
    | cons b0 bl =>
      obtain ⟨i0, rfl, ge0, lt0, nz0⟩ : ∃ i0 : Nat, b0 = (i0 : Int) ∧ i ≤ i0 ∧ i0 < d ∧ en rs' i0 i ≠ 0 := by
        have hm : b0 ∈ ((List.range (d - i)).filter fun j => !decide (en rs' (i + j) i = 0)).map fun j => ((i + j : Nat) : Int) := by rw [← hbl]; exact List.mem_cons_self
        obtain ⟨j, hj, rfl⟩ := List.mem_map.mp hm
        obtain ⟨hj1, hj2⟩ := List.mem_filter.mp hj
        have hj1 := List.mem_range.mp hj1
        exact ⟨i + j, rfl, by omega, by omega, by simpa using hj2⟩
      clear hbl
      refine r_seqJ (fun σ' H' => σ' = [some (.ref p), some (.ref q), some (.int last), some (.int turn), s4, some (.int (i : Nat)), some (.ref B), s7, s8, s9, none, none] ∧ Ex H4 H') (fun N hN => ?_) ?_
      · walk_at "rx"
        refine r_newL (xs := []) (sz_le (by simp)) fun q5 H5 _ e5 h5 => ?_
        refine r_eqIntsL (ys := []) (e5 _ _ hB) h5 ?_
        refine ⟨_, rfl, ite_f (by simp) ?_⟩
        walk_at "rd"
        exact hN _ _ ⟨rfl, e5⟩
      rintro σ' H5 ⟨rfl, e5⟩
      have r5 := r4.ex e5
      have hB5 := e5 _ _ hB
      refine r_seqJ (fun σ' H' => ∃ us2 rs2 turn2, σ' = [some (.ref p), some (.ref q), some (.int last), some (.int turn2), s4, some (.int (i : Nat)), some (.ref B), s7, s8, s9, none, none] ∧ Rs H2 H' q us2 rs2 d ∧ Dt.St d (en rs) i (en rs2) last turn2 202 ∧ en rs2 i i ≠ 0) (fun N hN => ?_) ?_
      · walk_at "rx"
        refine r_ixL hB5 (v := .int (i0 : Nat)) (atI_nat (j := 0) rfl) ?_
        walk_at "rd"
        obtain ⟨r1, hr1, lr1, gr1⟩ := r5.rw.get lt0
        obtain ⟨u1, hu1, hw1⟩ := r5.la.col hr1
        obtain ⟨r0, hr0, lr0, gr0⟩ := r5.rw.get (i := i) (by omega)
        obtain ⟨u0, hu0, hw0⟩ := r5.la.col hr0
        by_cases c : i0 = i
        · refine ite_f (by simp [c]) ?_
          walk_at "rd"
          rw [c] at nz0
          exact hN _ _ ⟨us, rs', turn, rfl, r5, st, nz0⟩
        · refine ite_t (by simp; omega) ?_
          walk_at "rd"
          refine r_ixL hB5 (v := .int (i0 : Nat)) (atI_nat (j := 0) rfl) ?_
          refine r_ixL r5.at_ (v := .ref u1) (atI_nat (by rw [List.getElem?_map, hu1]; rfl)) ?_
          walk_at "rd"
          refine r_ixL r5.at_ (v := .ref u0) (atI_nat (by rw [List.getElem?_map, hu0]; rfl)) ?_
          walk_at "rd"
          refine r_newT (sz_le (by simp)) fun t6 H6 _ e6 h6 => ?_
          have r6 := r5.ex e6
          refine r_gTup h6 rfl (r_gCons ?_)
          walk_at "rd"
          have nqu : ∀ {u : Addr} {j : Nat}, us[j]? = some u → q ≠ u := fun h z => r5.nq (by rw [z]; exact List.mem_of_getElem? h)
          have nqB : B ≠ q := fun z => by
            rw [z, r5.at_] at hB5
            injection hB5 with hB5
            injection hB5 with hB5
            cases us with
            | nil => simp at hB5
            | cons u us => simp at hB5
          refine r_setL r6.at_ (n := i) (by rw [List.length_map, lus]; exact ixN_nat (by omega)) ?_
          have r7 := r6.set (i := i) (e6 _ _ hw1) (nqu hu1) lr1
          have hB7 : (upd H6 q (.lst ((us.map V.ref).set i (.ref u1)))) B = _ := (upd_ne nqB).trans (e6 _ _ hB5)
          have hw0' : (upd H6 q (.lst ((us.map V.ref).set i (.ref u1)))) u0 = _ := (upd_ne (fun z => nqu hu0 z.symm)).trans (e6 _ _ hw0)
          generalize upd H6 q (.lst ((us.map V.ref).set i (.ref u1))) = H7 at r7 hB7 hw0' ⊢
          refine r_gCons ?_
          walk_at "rd"
          refine r_ixL hB7 (v := .int (i0 : Nat)) (atI_nat (j := 0) rfl) ?_
          refine r_setL r7.at_ (n := i0) (by rw [List.length_map, List.length_set, lus]; exact ixN_nat lt0) ?_
          have r8 := r7.set (i := i0) hw0' (nqu hu0) lr0
          refine r_gCons (r_gName (r_gNil ?_))
          have en2 : ∀ a b, b < d → en ((rs'.set i r1).set i0 r0) a b = en rs' (Dt.sw i i0 a) b := fun a b hb => by
            have l0 : i < rs'.length := by rw [r5.rw.len]; omega
            have l1 : i0 < (rs'.set i r1).length := by rw [List.length_set, r5.rw.len]; exact lt0
            have g1 : r1.getD b 0 = en rs' i0 b := by rw [List.getD_eq_getElem?_getD, gr1 b hb]; rfl
            have g0 : r0.getD b 0 = en rs' i b := by rw [List.getD_eq_getElem?_getD, gr0 b hb]; rfl
            rw [en_set l1, en_set l0, g1, g0]
            unfold Dt.sw
            by_cases h1 : a = i
            · rw [if_pos h1, if_pos h1, if_neg (by omega)]
            · by_cases h2 : a = i0
              · rw [if_pos h2, if_neg h1, if_pos h2]
              · rw [if_neg h2, if_neg h1, if_neg h1, if_neg h2]
          refine hN _ _ ⟨_, _, -turn, rfl, r8, (st.swap (i0 := i0) (by omega) lt0).congr fun a b ha hb ha' hb' => en2 a b hb', ?_⟩
          rw [en2 i i (by omega)]
          unfold Dt.sw
          rw [if_pos rfl]
          exact nz0
      rintro σ' H6 ⟨us2, rs2, turn2, rfl, r6, st6, nz6⟩
      have lus2 : us2.length = d := by rw [r6.la.1]; exact r6.rw.len
      obtain ⟨rl, hrl, lrl, grl⟩ := r6.rw.get (i := i) (by omega)
      obtain ⟨ul, hul, hwl⟩ := r6.la.col hrl
      have nul : ul ≠ q := fun z => r6.nq (by rw [← z]; exact List.mem_of_getElem? hul)
      obtain ⟨zE, zl⟩ := st6.low d24 (by omega)
      have zL : Z 5000 last := zlow zl
      have znz : last ≠ 0 := st6.nz
      have lgl : last.natAbs.log2 < 9000 := by
        refine (Nat.log2_lt (by omega)).mpr (Nat.lt_of_le_of_lt zl (Nat.pow_lt_pow_right (by decide) (by decide)))
      walk_at "rd"
      refine r_ixL r6.at_ (v := .ref ul) (atI_nat (by rw [List.getElem?_map, hul]; rfl)) ?_
      walk_at "rd"
      refine len_l r6.at_ ?_
      rw [List.length_map, lus2]
      walk_at "rd"
      refine ⟨_, _, rfl, by omega, ?_⟩
      rw [show (((d : Nat) : Int) - (((i : Nat) : Int) + 1)).toNat = d - (i + 1) by omega]
      let F : Nat → Nat → Int := fun a b => (en rs2 a b * en rs2 i i - en rs2 a i * en rs2 i b).fdiv last
      refine for_of (walk_range (lo := ((i : Nat) : Int) + 1) (n := d - (i + 1))) (fun m σ' H' => ∃ us3 rs3 s4 s8 s9, σ' = [some (.ref p), some (.ref q), some (.int last), some (.int turn2), s4, some (.int (i : Nat)), some (.ref B), some (.ref ul), s8, s9, none, none] ∧ Rs H6 H' q us3 rs3 d ∧ (∀ a b, a < d → b < d → (a < i + 1 ∨ i + 1 + m ≤ a) → en rs3 a b = en rs2 a b) ∧ ∀ a b, i + 1 ≤ a → a < i + 1 + m → i + 1 ≤ b → b < d → en rs3 a b = F a b) ⟨us2, rs2, _, _, _, rfl, ⟨Bu.refl _ _, r6.at_, r6.la, r6.rw, r6.nq⟩, fun a b _ _ _ => rfl, fun a b h1 h2 => by omega⟩ (fun _ _ _ _ _ => trivial) ?_ ?_
      · rintro m x σ' H7 H7' hm ⟨us3, rs3, s4, s8, s9, rfl, r7, same, new⟩ ⟨rfl, hx⟩
        obtain rfl : x = V.int ((i + 1 + m : Nat) : Int) := hx.trans (congrArg V.int (by push_cast; omega))
        generalize ha : i + 1 + m = a at *
        have ad : a < d := by omega
        have lus3 : us3.length = d := by rw [r7.la.1]; exact r7.rw.len
        refine r_gName ?_
        obtain ⟨ra, hra, lra, gra⟩ := r7.rw.get ad
        obtain ⟨ua, hua, hwa⟩ := r7.la.col hra
        have hl7 := r7.bu _ _ nul hwl
        have ea : ∀ b, b < d → en rs3 a b = en rs2 a b := fun b hb => same a b ad hb (by omega)
        walk_at "rd"
        refine r_ixL r7.at_ (v := .ref ua) (atI_nat (by rw [List.getElem?_map, hua]; rfl)) ?_
        walk_at "rd"
        refine r_ixL hwa (v := .int (en rs2 a i)) (atI_nat (by rw [List.getElem?_map, gra i (by omega), ea i (by omega)]; rfl)) ?_
        walk_at "rd"
        refine r_sl ?_
        walk_at "rd"
        refine r_ixL r7.at_ (v := .ref ua) (atI_nat (by rw [List.getElem?_map, hua]; rfl)) ?_
        refine r_part ?_
        walk_at "rd"
        refine ⟨((i + 1 : Nat) : Int), by push_cast; rfl, ?_⟩
        refine r_noPart ?_
        refine r_slL hwa (cut_dr V.int ra (i + 1) (by omega)) fun x1 H8 _ e8 h8 => ?_
        walk_at "rd"
        refine r_sl ?_
        walk_at "rd"
        refine r_part ?_
        walk_at "rd"
        refine ⟨((i + 1 : Nat) : Int), by push_cast; rfl, ?_⟩
        refine r_noPart ?_
        refine r_slL (e8 _ _ hl7) (cut_dr V.int rl (i + 1) (by omega)) fun x2 H9 _ e9 h9 => ?_
        walk_at "rd"
        have lda : (ra.drop (i + 1)).length = d - (i + 1) := by rw [List.length_drop, lra]
        have ldl : (rl.drop (i + 1)).length = d - (i + 1) := by rw [List.length_drop, lrl]
        let rest : List Int := (List.range (d - (i + 1))).map fun t => F a (i + 1 + t)
        have hl9 := e9 _ _ (e8 _ _ hl7)
        refine ⟨false, false, x1, x2, (ra.drop (i + 1)).map V.int, (rl.drop (i + 1)).map V.int, rfl, SqL.of (e9 _ _ h8), SqL.of h9, ?_⟩
        refine r_lcZ (n := d - (i + 1)) (walk_zipX (xs := (ra.drop (i + 1)).map V.int) (ys := (rl.drop (i + 1)).map V.int) (by rw [List.length_map, List.length_map, lda, ldl]; omega)) rest (by simp [rest]) (by omega) (fun H' e => ⟨SqL.of (e _ _ (e9 _ _ h8)), SqL.of (e _ _ h9)⟩) ?_ ?_
        · rintro t x G1 G2 ht f1 ⟨T0, y1, y2, rfl, hT, rfl, g1, g2⟩ N hN
          obtain ⟨n1, hn1, rfl⟩ := int_at g1
          obtain ⟨n2, hn2, rfl⟩ := int_at g2
          have v1 : n1 = en rs2 a (i + 1 + t) := by
            rw [List.getElem?_drop, gra _ (by omega), ea _ (by omega)] at hn1
            exact (Option.some.inj hn1).symm
          have v2 : n2 = en rs2 i (i + 1 + t) := by
            rw [List.getElem?_drop, grl _ (by omega)] at hn2
            exact (Option.some.inj hn2).symm
          subst v1 v2
          have f2 : Ex G1 (upd G1 T0 (.tup [.int (en rs2 a (i + 1 + t)), .int (en rs2 i (i + 1 + t))])) := Ex.new hT
          refine r_gTup upd_same rfl (r_gCons (r_gName (r_gCons (r_gName (r_gNil ⟨rfl, ?_⟩)))))
          walk_at "rd"
          refine r_ixL (f2 _ _ (f1 _ _ hl9)) (v := .int (en rs2 i i)) (atI_nat (by rw [List.getElem?_map, grl i (by omega)]; rfl)) ?_
          refine r_I (mulOk (zlow (zE a (i + 1 + t) (by omega) ad (by omega) (by omega))) (zlow (zE i i (Nat.le_refl _) (by omega) (Nat.le_refl _) (by omega))) (by decide) (by decide) (by decide)) ?_
          walk_at "rd"
          refine r_I (mulOk (zlow (zE a i (by omega) ad (Nat.le_refl _) (by omega))) (zlow (zE i (i + 1 + t) (Nat.le_refl _) (by omega) (by omega) (by omega))) (by decide) (by decide) (by decide)) ?_
          walk_at "rd"
          refine r_I ⟨znz, lgl⟩ ?_
          have := hN _ f2
          rw [show rest.getD t 0 = F a (i + 1 + t) by simp [rest, List.getD_eq_getElem?_getD, ht]] at this
          exact this
        · intro D H10 nD e10 h10
          have r10 := (r7.ex e8).ex (e9.trans e10)
          walk_at "rd"
          refine r_newL (sz_le (by simp)) fun z1 H11 _ e11 h11 => ?_
          walk_at "rd"
          refine r_zeros h11 (m := i + 1) (by push_cast; rfl) (by omega) fun z2 H12 _ e12 h12 => ?_
          walk_at "rd"
          refine r_cat h12 (e12 _ _ (e11 _ _ h10)) (by simp [zr_len, rest]; omega) fun nr H13 nnr e13 h13 => ?_
          walk_at "rd"
          have r13 := r10.ex (e11.trans (e12.trans e13))
          rw [← List.map_append] at h13
          have lnr : (GM.zr (i + 1) ++ rest).length = d := by simp [zr_len, rest]; omega
          have nqn : q ≠ nr := fun z => by rw [← z, (r10.ex (e11.trans e12)).at_] at nnr; cases nnr
          refine r_setL r13.at_ (n := a) (by rw [List.length_map, lus3]; exact ixN_nat ad) ?_
          have r14 := r13.set (i := a) h13 nqn lnr
          have la3 : a < rs3.length := by rw [r7.rw.len]; exact ad
          refine ⟨_, _, _, _, _, rfl, r14, fun x b hx hb hxa => ?_, fun x b h1 h2 h3 h4 => ?_⟩
          · rw [en_set la3, if_neg (by omega)]
            exact same x b hx hb (by omega)
          · rw [en_set la3]
            by_cases hxa : x = a
            · rw [if_pos hxa, Dt.getD_app, if_neg (by rw [zr_len]; omega), zr_len, hxa]
              have : b - (i + 1) < d - (i + 1) := by omega
              simp only [rest, List.getD_eq_getElem?_getD, List.getElem?_map, List.getElem?_range this, Option.map_some, Option.getD_some]
              rw [show i + 1 + (b - (i + 1)) = b by omega]
            · rw [if_neg hxa]
              exact new x b h1 (by omega) h3 h4
      · rintro σ' H7 ⟨us3, rs3, s4, s8, s9, rfl, r7, same, new⟩
        have hl7 := r7.bu _ _ nul hwl
        walk_at "rd"
        refine r_ixL hl7 (v := .int (en rs2 i i)) (atI_nat (by rw [List.getElem?_map, grl i (by omega)]; rfl)) ?_
        refine ⟨us3, rs3, en rs2 i i, turn2, _, _, _, _, _, _, rfl, ⟨r6.bu.trans r7.bu, r7.at_, r7.la, r7.rw, r7.nq⟩, (st6.elim (by omega) nz6).congr fun a b h1 h2 h3 h4 => new a b h1 (by omega) h3 h4⟩
  · rintro σ' H3 ⟨us, rs', last, turn, s4, s5, s6, s7, s8, s9, rfl, r3, st⟩
    walk_at "rd"
    have last1 : ∀ {α : Type} (xs : List α) (f : α → V) (v : V), xs.length = d → xs[d - 1]?.map f = some v → atI (xs.map f) (-1) = some v := fun xs f v hl hv => by
      show (ixN (xs.map f).length (-1)).bind _ = _
      rw [List.length_map, hl]
      have : ixN d (-1) = some (d - 1) := by unfold ixN; simp; omega
      rw [this]
      show (xs.map f)[d - 1]? = _
      rw [List.getElem?_map]
      exact hv
    have lus : us.length = d := by rw [r3.la.1]; exact r3.rw.len
    obtain ⟨r, hr, lr, gr⟩ := r3.rw.get (i := d - 1) (by omega)
    obtain ⟨u, hu, hru⟩ := r3.la.col hr
    refine r_ixL r3.at_ (v := .ref u) (last1 us V.ref _ lus (by rw [hu]; rfl)) ?_
    walk_at "rd"
    refine r_ixL hru (v := .int (en rs' (d - 1) (d - 1))) (last1 r V.int _ lr (by rw [gr _ (by omega)]; rfl)) ?_
    have zt : Z 10 turn := by rcases st.tn with z | z <;> rw [z] <;> (unfold Z; decide)
    refine r_I (mulOk zt (zlow ((st.low d24 (by omega)).1 _ _ (Nat.le_refl _) (by omega) (Nat.le_refl _) (by omega))) (by decide) (by decide) (by decide)) ?_
    have := k H3 (bu_ex e02 hq r3.bu)
    obtain ⟨m, hm⟩ : ∃ m, d = m + 1 := ⟨d - 1, by omega⟩
    subst hm
    rw [Dt.St.fin st] at this
    exact this

end K10
namespace K10
open PySem PySem.Spec PyProof.Rows L2 GS TL LamX
local macro_rules | `(tactic| walk_at "rd") => `(tactic| (repeat (first
  | with_reducible refine r_next ?_
  | with_reducible refine r_seq ?_
  | with_reducible refine r_ret ?_
  | with_reducible refine r_ifS ?_
  | with_reducible refine r_asg ?_
  | with_reducible refine r_drop ?_
  | with_reducible refine r_op ?_
  | with_reducible refine r_un ?_
  | with_reducible refine r_cbInt ?_
  | with_reducible refine r_cbAbs ?_
  | with_reducible refine r_cbLen ?_
  | with_reducible refine r_cbList ?_
  | with_reducible refine r_cbTup ?_
  | with_reducible refine r_iEnT ?_
  | with_reducible refine r_iEnL ?_
  | with_reducible refine r_zipA ?_
  | with_reducible refine r_zipX ?_
  | with_reducible refine r_augS ?_
  | with_reducible refine r_cb ?_
  | with_reducible refine r_call ?_
  | with_reducible refine r_make ?_
  | with_reducible refine r_callN0 ?_
  | with_reducible refine r_makeK0 ?_
  | with_reducible refine r_makeS ?_
  | with_reducible refine r_callS ?_
  | with_reducible refine r_cons ?_
  | with_reducible refine r_nil ?_
  | with_reducible refine r_test ?_
  | with_reducible refine r_B ?_
  | with_reducible refine r_and ?_
  | with_reducible refine r_or ?_
  | with_reducible refine r_not ?_
  | with_reducible refine r_andV ?_
  | with_reducible refine r_orV ?_
  | with_reducible refine r_notV ?_
  | with_reducible refine r_if ?_
  | with_reducible refine r_tup ?_
  | with_reducible refine r_lst ?_
  | with_reducible refine r_c ?_
  | with_reducible refine r_lc ?_
  | with_reducible refine r_chain ?_
  | with_reducible refine r_iT ?_
  | with_reducible refine r_iL ?_
  | with_reducible refine r_iR1 ?_
  | with_reducible refine r_iR2 ?_
  | with_reducible refine r_iR3 ?_
  | with_reducible refine r_asgG ?_
  | with_reducible refine r_gSub ?_
  | with_reducible refine r_for ?_
  | with_reducible refine r_smeth ?_
  | with_reducible refine r_par ?_
  | with_reducible refine r_parK ?_
  | with_reducible refine r_gCons ?_
  | with_reducible refine r_gNil ?_
  | with_reducible refine r_gName ?_
  | with_reducible refine r_intI ?_
  | with_reducible refine r_intB ?_
  | with_reducible refine r_absI ?_
  | with_reducible refine r_k ?_
  | with_reducible refine r_kV ?_
  | ((with_reducible show tVar _ _ _ _); refine r_var3 ?_ (by rfl))
  | with_reducible refine r_I0 ?_
  | with_reducible refine r_U ?_
  | with_reducible refine r_eqI ?_
  | with_reducible refine r_neI ?_
  | with_reducible refine r_F ?_
  | dsimp only)))
local macro_rules | `(tactic| walk_at "rx") => `(tactic| (repeat (first
  | with_reducible refine r_next ?_
  | with_reducible refine r_ret ?_
  | with_reducible refine r_ifS ?_
  | with_reducible refine r_asg ?_
  | with_reducible refine r_drop ?_
  | with_reducible refine r_op ?_
  | with_reducible refine r_un ?_
  | with_reducible refine r_cbInt ?_
  | with_reducible refine r_cbAbs ?_
  | with_reducible refine r_cbLen ?_
  | with_reducible refine r_cbList ?_
  | with_reducible refine r_cbTup ?_
  | with_reducible refine r_iEnT ?_
  | with_reducible refine r_iEnL ?_
  | with_reducible refine r_zipA ?_
  | with_reducible refine r_zipX ?_
  | with_reducible refine r_augS ?_
  | with_reducible refine r_cb ?_
  | with_reducible refine r_call ?_
  | with_reducible refine r_make ?_
  | with_reducible refine r_callN0 ?_
  | with_reducible refine r_makeK0 ?_
  | with_reducible refine r_makeS ?_
  | with_reducible refine r_callS ?_
  | with_reducible refine r_cons ?_
  | with_reducible refine r_nil ?_
  | with_reducible refine r_test ?_
  | with_reducible refine r_B ?_
  | with_reducible refine r_and ?_
  | with_reducible refine r_or ?_
  | with_reducible refine r_not ?_
  | with_reducible refine r_andV ?_
  | with_reducible refine r_orV ?_
  | with_reducible refine r_notV ?_
  | with_reducible refine r_if ?_
  | with_reducible refine r_tup ?_
  | with_reducible refine r_lst ?_
  | with_reducible refine r_c ?_
  | with_reducible refine r_lc ?_
  | with_reducible refine r_chain ?_
  | with_reducible refine r_iT ?_
  | with_reducible refine r_iL ?_
  | with_reducible refine r_iR1 ?_
  | with_reducible refine r_iR2 ?_
  | with_reducible refine r_iR3 ?_
  | with_reducible refine r_asgG ?_
  | with_reducible refine r_gSub ?_
  | with_reducible refine r_for ?_
  | with_reducible refine r_smeth ?_
  | with_reducible refine r_par ?_
  | with_reducible refine r_parK ?_
  | with_reducible refine r_gCons ?_
  | with_reducible refine r_gNil ?_
  | with_reducible refine r_gName ?_
  | with_reducible refine r_intI ?_
  | with_reducible refine r_intB ?_
  | with_reducible refine r_absI ?_
  | with_reducible refine r_k ?_
  | with_reducible refine r_kV ?_
  | ((with_reducible show tVar _ _ _ _); refine r_var3 ?_ (by rfl))
  | with_reducible refine r_I0 ?_
  | with_reducible refine r_U ?_
  | with_reducible refine r_eqI ?_
  | with_reducible refine r_neI ?_
  | with_reducible refine r_F ?_
  | dsimp only)))
def lessR (rs : List (List Int)) (d : Nat) (x : Int) : List (List Int) := (List.range d).map fun i => (List.range d).map fun j => Dt.lessM (en rs) x i j
theorem lessR_en {rs : List (List Int)} {d : Nat} {x : Int} {i j : Nat} (hi : i < d) (hj : j < d) : en (lessR rs d x) i j = Dt.lessM (en rs) x i j := by
  simp [en, lessR, List.getD_eq_getElem?_getD, hi, hj]
theorem lessR_rw (rs : List (List Int)) (d : Nat) (x : Int) : Rw (lessR rs d x) d := by
  refine ⟨by simp [lessR], fun r hr => ?_⟩
  obtain ⟨i, _, rfl⟩ := List.mem_map.mp hr
  simp
def spLessT (K : PySem.W.Frag) : Sp := sp2 fun v w H Q _ => ∃ (p : Addr) (cs : List Addr) (rs : List (List Int)) (d : Nat) (x : Int), v = .ref p ∧ w = .int x ∧ H p = some (.lst (cs.map V.ref)) ∧ LA H cs rs ∧ Rw rs d ∧ d ≤ 24 ∧ Z 1000 x ∧
  ∀ q cs' H', Ex H H' → H' q = some (.lst (cs'.map V.ref)) → LA H' cs' (lessR rs d x) → Q (.ref q) H'
theorem ok__law_less {P : Program} {w : World} {K : PySem.W.Frag} {mg : Str → Option Value} {base : Heap} (T : Txt K mg) : ∃ fd, FnOk P w K mg base (L2.CX P w) 1 (He.ga K "_law_less") fd ["table", "x"] (spLessT K) ∧ Binds K fd ["table", "x"] [] := by
  obtain ⟨fd, F⟩ := T.d__law_less
  refine ⟨fd, F.ok sc__law_less sp2_len (fun cdv A outer s H vs Q E hr h => ?_), F.bindsN fun _ _ _ _ _ _ us hl => match us, hl with | [_, _], _ => rfl⟩
  obtain ⟨v, w', rfl, p, cs, rs, d, x, rfl, rfl, hp, hla, rw0, d24, zx, k⟩ := sp2_is h
  refine ⟨_, (pss_cons (ps_set (i := 2) sc__law_less.nd rfl (Or.inr rfl) (pe_callB (kx_lens rfl) (by rfl) T.b_len PySem.boot_len (pa_cons (pv 0) pa_nil)))
      (pss_one (ps_ret (pe_lc (own := [("one", 4)]) (g := gName 4) (tt := tYes)  rfl sc__law_less.nd (pi_range1 (by rfl) T.b_range (pa_cons (pv 2) pa_nil)) (blkOk_by (own := [("one", 4)]) (N := ["table", "x", "size", "other", "one"]) (sc := defScope s__law_less) (by decide +kernel)) (fun _ _ _ _ _ => (pg_name (i := 4) sc__law_less.nd rfl (Or.inr rfl))) (fun _ _ _ _ _ => pts_nil) (fun _ _ _ _ _ => (pe_lc (own := [("other", 3)]) (g := gName 3) (tt := tYes)  rfl sc__law_less.nd (pi_range1 (by rfl) T.b_range (pa_cons (pv 2) pa_nil)) (blkOk_by (own := [("other", 3)]) (N := ["table", "x", "size", "other", "one"]) (by rfl)) (fun _ _ _ _ _ => (pg_name (i := 3) sc__law_less.nd rfl (Or.inl rfl))) (fun _ _ _ _ _ => pts_nil) (fun _ _ _ _ _ => (pe_op op_sub (pe_op op_mulW (pv 1) (pe_callTy call_int1 (by rfl) T.b_int (by decide +kernel) (pa_cons (pe_cmpR op_eq (pv 4) (pv 3) (nomark _)) pa_nil))) (pe_ix (kx_ixl rfl) (pe_ix (kx_ixl rfl) (pv 0) (pv 4) (fun _ _ => rfl)) (pv 3) (fun _ _ => rfl)))))))))), ?_⟩
  have lcs : cs.length = d := by rw [hla.1]; exact rw0.len
  walk_at "rd"
  refine len_l hp ?_
  rw [List.length_map, lcs]
  walk_at "rd"
  refine ⟨_, rfl, by omega, by omega, ?_⟩
  rw [Int.toNat_natCast]
  refine r_lcLs (n := d) (k := 4) walk_range (fun i => ((List.range d).map fun j => Dt.lessM (en rs) x i j).map V.int) (by omega) (fun _ _ => trivial) (fun _ => rfl) ?_ ?_
  · rintro i y H2 H3 hi e2 ⟨rfl, rfl⟩
    refine ⟨Ex.refl _, fun R kR => ?_⟩
    walk_at "rd"
    refine ⟨_, rfl, by omega, by omega, ?_⟩
    rw [Int.toNat_natCast]
    refine r_lcM (n := d) (k := 3) walk_range (fun j => .int (Dt.lessM (en rs) x i j)) (by omega) (fun _ _ => trivial) (fun _ => rfl) ?_ ?_
    · rintro j y H4 H5 hj e4 ⟨rfl, rfl⟩
      refine ⟨Ex.refl _, fun H6 e6 R2 kR2 => ?_⟩
      obtain ⟨r, hr, lr, gr⟩ := rw0.get hi
      have e26 := e2.trans (e4.trans e6)
      obtain ⟨t, ht, hrow⟩ := (hla.ex e26).col hr
      walk_at "rd"
      have z01 : Z 10 (if decide ((0 : Int) + (i : Nat) = 0 + (j : Nat)) = true then 1 else 0) := by split <;> (unfold Z; decide)
      refine r_I (mulOk zx z01 (by decide) (by decide) (by decide)) ?_
      walk_at "rd"
      refine r_ixL (e26 _ _ hp) (v := .ref t) (by rw [Int.zero_add]; exact atI_nat (by rw [List.getElem?_map, ht]; rfl)) ?_
      walk_at "rd"
      refine r_ixL hrow (v := .int (en rs i j)) (by rw [Int.zero_add]; exact atI_nat (by rw [List.getElem?_map, gr j hj]; rfl)) ?_
      have v : x * (if decide ((0 : Int) + (i : Nat) = 0 + (j : Nat)) = true then 1 else 0) - en rs i j = Dt.lessM (en rs) x i j := by
        unfold Dt.lessM
        by_cases c : i = j
        · rw [if_pos c, if_pos (decide_eq_true (by omega))]
          omega
        · rw [if_neg c, if_neg (by simp; omega)]
          omega
      have := kR2 H6 (Ex.refl _)
      rw [← v] at this
      walk_at "rd"
      exact this
    · intro D H4 nD e4 h4
      refine kR D H4 e4 nD ?_
      rw [h4, List.map_map]
      rfl
  intro q ts H1 hq e1 h1 hlen hnd hnew hrow
  exact k q ts H1 e1 h1 (la_rows hlen hrow)
/-- the worth of numbers -/
def spWorth (K : PySem.W.Frag) : Sp := sp2 fun v w H Q _ => ∃ (p : Addr) (t : Bool) (ns : List Int) (x : Int), v = .ref p ∧ w = .int x ∧ OL t H p (ns.map V.int) ∧ ns.length ≤ 30 ∧ (∀ c ∈ ns, Z 6000 c) ∧ Z 1000 x ∧ ∀ H', Ex H H' → Q (.int (Dt.worthL ns x)) H'
theorem worth_z {ns : List Int} {x : Int} (zn : ∀ c ∈ ns, Z 6000 c) (zx : Z 1000 x) : ∀ i, Z (6001 + 1001 * i) (Dt.worthL (ns.take i) x)
  | 0 => by show (0 : Int).natAbs < _; exact Nat.pow_pos (by decide)
  | i + 1 => by
    have ih := worth_z zn zx i
    cases q : ns[i]? with
    | none =>
      rw [List.take_add_one, q]
      exact Z.mono (by simpa using ih) (by omega)
    | some c =>
      have e : Dt.worthL (ns.take (i + 1)) x = Dt.worthL (ns.take i) x * x + c := by
        rw [List.take_add_one, q]
        unfold Dt.worthL
        rw [List.foldl_append]
        rfl
      rw [e]
      exact ((ih.mul zx).add ((zn c (List.mem_of_getElem? q)).mono (m := 6001 + 1001 * i + 1000) (by omega))).mono (by omega)
theorem ok__law_worth {P : Program} {w : World} {K : PySem.W.Frag} {mg : Str → Option Value} {base : Heap} (T : Txt K mg) : ∃ fd, FnOk P w K mg base (L2.CX P w) 1 (He.ga K "_law_worth") fd ["numbers", "x"] (spWorth K) ∧ Binds K fd ["numbers", "x"] [] := by
  obtain ⟨fd, F⟩ := T.d__law_worth
  refine ⟨fd, F.ok sc__law_worth sp2_len (fun cdv A outer s H vs Q E hr h => ?_), F.bindsN fun _ _ _ _ _ _ us hl => match us, hl with | [_, _], _ => rfl⟩
  obtain ⟨v, w', rfl, p, t, ns, x, rfl, rfl, hp, hl, zn, zx, k⟩ := sp2_is h
  refine ⟨_, (pss_cons (ps_set (i := 2) sc__law_worth.nd rfl (Or.inl rfl) pe_int)
      (pss_cons (ps_for (passes_of rfl) rfl (pi_seq (pv 0)) (pg_name (i := 3) sc__law_worth.nd rfl (Or.inl rfl)) (pss_one (ps_set (i := 2) sc__law_worth.nd rfl (Or.inl rfl) (pe_op op_add (pe_op op_mulW (pv 2) (pv 1)) (pv 3)))))
      (pss_one (ps_ret (pv 2))))), ?_⟩
  walk_at "rd"
  refine iseq_o rfl hp fun J G wk hG => ?_
  refine for_of wk (fun i σ' H' => H' = H ∧ ∃ s3, σ' = [some (.ref p), some (.int x), some (.int (Dt.worthL (ns.take i) x)), s3]) ⟨rfl, none, rfl⟩ (fun i σ' H' _ h => by rw [h.1]; exact hG H (Ex.refl _)) ?_ ?_
  · rintro i y σ' H2 H3 hi ⟨rfl, s3, rfl⟩ ⟨rfl, hy⟩
    obtain ⟨c, hc, rfl⟩ := int_at hy
    have hi' := (List.getElem?_eq_some_iff.mp hc).1
    refine r_gName ?_
    walk_at "rd"
    refine r_I (mulOk (worth_z zn zx i) zx (by omega) (by decide) (by omega)) ?_
    walk_at "rd"
    refine ⟨rfl, some (.int c), ?_⟩
    have e : Dt.worthL (ns.take (i + 1)) x = Dt.worthL (ns.take i) x * x + c := by
      rw [List.take_add_one, hc]
      unfold Dt.worthL
      rw [List.foldl_append]
      rfl
    rw [e]
    rfl
  · rintro σ' H2 ⟨rfl, s3, rfl⟩
    walk_at "rd"
    rw [List.length_map, List.take_length]
    exact k H2 (Ex.refl _)

end K10
namespace K10
open PySem PySem.Spec PyProof.Rows L2 GS TL LamX
local macro_rules | `(tactic| walk_at "rd") => `(tactic| (repeat (first
  | with_reducible refine r_next ?_
  | with_reducible refine r_seq ?_
  | with_reducible refine r_ret ?_
  | with_reducible refine r_ifS ?_
  | with_reducible refine r_asg ?_
  | with_reducible refine r_drop ?_
  | with_reducible refine r_op ?_
  | with_reducible refine r_un ?_
  | with_reducible refine r_cbInt ?_
  | with_reducible refine r_cbAbs ?_
  | with_reducible refine r_cbLen ?_
  | with_reducible refine r_cbList ?_
  | with_reducible refine r_cbTup ?_
  | with_reducible refine r_iEnT ?_
  | with_reducible refine r_iEnL ?_
  | with_reducible refine r_zipA ?_
  | with_reducible refine r_zipX ?_
  | with_reducible refine r_augS ?_
  | with_reducible refine r_cb ?_
  | with_reducible refine r_call ?_
  | with_reducible refine r_make ?_
  | with_reducible refine r_callN0 ?_
  | with_reducible refine r_makeK0 ?_
  | with_reducible refine r_makeS ?_
  | with_reducible refine r_callS ?_
  | with_reducible refine r_cons ?_
  | with_reducible refine r_nil ?_
  | with_reducible refine r_test ?_
  | with_reducible refine r_B ?_
  | with_reducible refine r_and ?_
  | with_reducible refine r_or ?_
  | with_reducible refine r_not ?_
  | with_reducible refine r_andV ?_
  | with_reducible refine r_orV ?_
  | with_reducible refine r_notV ?_
  | with_reducible refine r_if ?_
  | with_reducible refine r_tup ?_
  | with_reducible refine r_lst ?_
  | with_reducible refine r_c ?_
  | with_reducible refine r_lc ?_
  | with_reducible refine r_chain ?_
  | with_reducible refine r_iT ?_
  | with_reducible refine r_iL ?_
  | with_reducible refine r_iR1 ?_
  | with_reducible refine r_iR2 ?_
  | with_reducible refine r_iR3 ?_
  | with_reducible refine r_asgG ?_
  | with_reducible refine r_gSub ?_
  | with_reducible refine r_for ?_
  | with_reducible refine r_smeth ?_
  | with_reducible refine r_par ?_
  | with_reducible refine r_parK ?_
  | with_reducible refine r_gCons ?_
  | with_reducible refine r_gNil ?_
  | with_reducible refine r_gName ?_
  | with_reducible refine r_intI ?_
  | with_reducible refine r_intB ?_
  | with_reducible refine r_absI ?_
  | with_reducible refine r_k ?_
  | with_reducible refine r_kV ?_
  | ((with_reducible show tVar _ _ _ _); refine r_var3 ?_ (by rfl))
  | with_reducible refine r_I0 ?_
  | with_reducible refine r_U ?_
  | with_reducible refine r_eqI ?_
  | with_reducible refine r_neI ?_
  | with_reducible refine r_F ?_
  | dsimp only)))
local macro_rules | `(tactic| walk_at "rx") => `(tactic| (repeat (first
  | with_reducible refine r_next ?_
  | with_reducible refine r_ret ?_
  | with_reducible refine r_ifS ?_
  | with_reducible refine r_asg ?_
  | with_reducible refine r_drop ?_
  | with_reducible refine r_op ?_
  | with_reducible refine r_un ?_
  | with_reducible refine r_cbInt ?_
  | with_reducible refine r_cbAbs ?_
  | with_reducible refine r_cbLen ?_
  | with_reducible refine r_cbList ?_
  | with_reducible refine r_cbTup ?_
  | with_reducible refine r_iEnT ?_
  | with_reducible refine r_iEnL ?_
  | with_reducible refine r_zipA ?_
  | with_reducible refine r_zipX ?_
  | with_reducible refine r_augS ?_
  | with_reducible refine r_cb ?_
  | with_reducible refine r_call ?_
  | with_reducible refine r_make ?_
  | with_reducible refine r_callN0 ?_
  | with_reducible refine r_makeK0 ?_
  | with_reducible refine r_makeS ?_
  | with_reducible refine r_callS ?_
  | with_reducible refine r_cons ?_
  | with_reducible refine r_nil ?_
  | with_reducible refine r_test ?_
  | with_reducible refine r_B ?_
  | with_reducible refine r_and ?_
  | with_reducible refine r_or ?_
  | with_reducible refine r_not ?_
  | with_reducible refine r_andV ?_
  | with_reducible refine r_orV ?_
  | with_reducible refine r_notV ?_
  | with_reducible refine r_if ?_
  | with_reducible refine r_tup ?_
  | with_reducible refine r_lst ?_
  | with_reducible refine r_c ?_
  | with_reducible refine r_lc ?_
  | with_reducible refine r_chain ?_
  | with_reducible refine r_iT ?_
  | with_reducible refine r_iL ?_
  | with_reducible refine r_iR1 ?_
  | with_reducible refine r_iR2 ?_
  | with_reducible refine r_iR3 ?_
  | with_reducible refine r_asgG ?_
  | with_reducible refine r_gSub ?_
  | with_reducible refine r_for ?_
  | with_reducible refine r_smeth ?_
  | with_reducible refine r_par ?_
  | with_reducible refine r_parK ?_
  | with_reducible refine r_gCons ?_
  | with_reducible refine r_gNil ?_
  | with_reducible refine r_gName ?_
  | with_reducible refine r_intI ?_
  | with_reducible refine r_intB ?_
  | with_reducible refine r_absI ?_
  | with_reducible refine r_k ?_
  | with_reducible refine r_kV ?_
  | ((with_reducible show tVar _ _ _ _); refine r_var3 ?_ (by rfl))
  | with_reducible refine r_I0 ?_
  | with_reducible refine r_U ?_
  | with_reducible refine r_eqI ?_
  | with_reducible refine r_neI ?_
  | with_reducible refine r_F ?_
  | dsimp only)))
/-! ### the numbers and the determinants -/
theorem range_S : ∀ (l r : List Int), r.length ≤ l.length → dotL l r = Dt.S r.length (fun i => l.getD i 0 * r.getD i 0)
  | _, [], _ => by simp [dotL, Dt.S]
  | [], b :: r, h => by simp at h
  | a :: l, b :: r, h => by
    have e := range_S l r (by simpa using h)
    rw [List.length_cons, Dt.S_left]
    show a * b + dotL l r = a * b + _
    rw [e]
    rfl
theorem dot_take {l r : List Int} (h : l.length ≤ r.length) : dotL l r = Dt.S l.length (fun i => l.getD i 0 * r.getD i 0) := by
  have : dotL l r = dotL r l := by
    unfold dotL
    congr 1
    refine List.ext_getElem (by simp [Nat.min_comm]) fun i h1 h2 => ?_
    simp [Int.mul_comm]
  rw [this, range_S r l h]
  exact Dt.S_congr fun i _ => Int.mul_comm _ _
/-- powers of a row -/
theorem pw_vec {rs : List (List Int)} {d n : Nat} (t : Tab rs d) (hn : n < d) : ∀ (s i : Nat), i < n → (pw rs n s).getD i 0 = Dt.vec n (en rs) (fun i => en rs n i) s i
  | 0, i, hi => by
    show ((rs.getD n []).take n).getD i 0 = en rs n i
    unfold en
    simp [List.getD_eq_getElem?_getD, List.getElem?_take, hi]
  | s + 1, i, hi => by
    show (ttL (rs.take n) (pw rs n s)).getD i 0 = Dt.S n fun j => en rs i j * Dt.vec n (en rs) (fun i => en rs n i) s j
    obtain ⟨r, hr, lr, gr⟩ := t.rw (show i < d by omega)
    have e1 : (ttL (rs.take n) (pw rs n s)).getD i 0 = dotL r (pw rs n s) := by
      unfold ttL
      rw [List.getD_eq_getElem?_getD, List.getElem?_map, List.getElem?_take, if_pos hi, hr]
      rfl
    rw [e1, range_S r _ (by rw [pw_len t hn, lr]; omega), pw_len t hn]
    refine Dt.S_congr fun j hj => ?_
    rw [pw_vec t hn s j hj, List.getD_eq_getElem?_getD, gr j (by omega)]
    rfl
theorem dot_pw {rs : List (List Int)} {d n : Nat} (t : Tab rs d) (hn : n < d) (a b : Nat) : dotL (pw rs n a) (pw rs n b) = Dt.dot n (fun j => en rs n j) (Dt.vec n (en rs) (fun i => en rs n i) (a + b)) := by
  have sy : ∀ i j, i < n → j < n → en rs i j = en rs j i := fun i j hi hj => t.sym i j (by omega) (by omega)
  rw [← Dt.dot_pow sy, range_S _ _ (by rw [pw_len t hn, pw_len t hn]; exact Nat.le_refl _), pw_len t hn]
  exact Dt.S_congr fun i hi => by rw [pw_vec t hn a i hi, pw_vec t hn b i hi]
theorem rowF_fac {rs : List (List Int)} {d n : Nat} (t : Tab rs d) (hn : n < d) (i : Nat) (hi : i < n + 2) : (rowF rs n).getD i 0 = Dt.fac (en rs n n) (fun s => Dt.dot n (fun j => en rs n j) (Dt.vec n (en rs) (fun i => en rs i n) s)) i := by
  have sw : ∀ s i, i < n → Dt.vec n (en rs) (fun i => en rs n i) s i = Dt.vec n (en rs) (fun i => en rs i n) s i := by
    intro s
    induction s with
    | zero => exact fun i hi => t.sym n i hn (by omega)
    | succ s ih => exact fun i hi => Dt.S_congr fun j hj => by rw [ih j hj]
  match i, hi with
  | 0, _ => rfl
  | 1, _ => rfl
  | k + 2, hi =>
    have hk : k < n := by omega
    show ((List.range n).map fun k => -(dotL (pw rs n (k / 2)) (pw rs n ((k + 1) / 2)))).getD k 0 = - Dt.dot n _ _
    rw [List.getD_eq_getElem?_getD, List.getElem?_map, List.getElem?_range hk]
    show -(dotL (pw rs n (k / 2)) (pw rs n ((k + 1) / 2))) = _
    rw [dot_pw t hn, show k / 2 + (k + 1) / 2 = k by omega]
    congr 1
    exact Dt.S_congr fun i hi => by rw [sw k i hi]
theorem tn_cs {rs : List (List Int)} {d : Nat} (t : Tab rs d) : ∀ n, n ≤ d → tn rs n = (List.range (n + 1)).map (Dt.cs (en rs) n)
  | 0, _ => rfl
  | n + 1, hn => by
    have ih := tn_cs t n (by omega)
    have gc : ∀ i, (tn rs n).getD i 0 = Dt.cs (en rs) n i := fun i => by
      rw [ih, List.getD_eq_getElem?_getD, List.getElem?_map]
      by_cases h : i < n + 1
      · rw [List.getElem?_range h]; rfl
      · rw [List.getElem?_eq_none (by simp; omega), Dt.cs_zero (en rs) n i (by omega)]
        rfl
    show (List.range (n + 2)).map (fun a => dotL (tn rs n) ((rowF rs n).take (a + 1)).reverse) = _
    refine List.map_congr_left fun a ha => ?_
    have ha := List.mem_range.mp ha
    show _ = (if a ≤ n + 1 then Dt.nxt (Dt.cs (en rs) n) _ a else 0)
    rw [if_pos (by omega)]
    have lr : ((rowF rs n).take (a + 1)).reverse.length = a + 1 := by rw [List.length_reverse, List.length_take, rowF_len]; omega
    have gr : ∀ i, i ≤ a → ((rowF rs n).take (a + 1)).reverse.getD i 0 = Dt.fac (en rs n n) (fun s => Dt.dot n (fun j => en rs n j) (Dt.vec n (en rs) (fun i => en rs i n) s)) (a - i) := fun i hi => by
      rw [← rowF_fac t (by omega) (a - i) (by omega), List.getD_eq_getElem?_getD, List.getElem?_reverse (by rw [← List.length_reverse, lr]; omega)]
      have l2 : ((rowF rs n).take (a + 1)).length = a + 1 := by rw [← List.length_reverse, lr]
      rw [l2, List.getElem?_take, if_pos (by omega), show a + 1 - 1 - i = a - i by omega]
      rfl
    unfold Dt.nxt
    rcases Nat.lt_or_ge a (n + 1) with c | c
    · rw [range_S _ _ (by rw [lr, tn_len]; omega), lr]
      exact Dt.S_congr fun i hi => by rw [gc, gr i (by omega)]
    · rw [dot_take (by rw [lr, tn_len]; omega), tn_len]
      have : a = n + 1 := by omega
      subst this
      rw [Dt.S_succ (n + 1), Dt.cs_zero (en rs) n (n + 1) (by omega), Int.zero_mul, Int.add_zero]
      exact Dt.S_congr fun i hi => by rw [gc, gr i (by omega)]
/-- the numbers' worth is a determinant -/
theorem tn_det {rs : List (List Int)} {d : Nat} (t : Tab rs d) (x : Int) : Dt.worthL (tn rs d) x = Dt.det d (Dt.lessM (en rs) x) := by
  rw [tn_cs t d (Nat.le_refl _), Dt.worth_dv, ← Dt.cs_det]

end K10
namespace K10
open PySem PySem.Spec PyProof.Rows L2 GS TL LamX
local macro_rules | `(tactic| walk_at "rd") => `(tactic| (repeat (first
  | with_reducible refine r_next ?_
  | with_reducible refine r_seq ?_
  | with_reducible refine r_ret ?_
  | with_reducible refine r_ifS ?_
  | with_reducible refine r_asg ?_
  | with_reducible refine r_drop ?_
  | with_reducible refine r_op ?_
  | with_reducible refine r_un ?_
  | with_reducible refine r_cbInt ?_
  | with_reducible refine r_cbAbs ?_
  | with_reducible refine r_cbLen ?_
  | with_reducible refine r_cbList ?_
  | with_reducible refine r_cbTup ?_
  | with_reducible refine r_iEnT ?_
  | with_reducible refine r_iEnL ?_
  | with_reducible refine r_zipA ?_
  | with_reducible refine r_zipX ?_
  | with_reducible refine r_augS ?_
  | with_reducible refine r_cb ?_
  | with_reducible refine r_call ?_
  | with_reducible refine r_make ?_
  | with_reducible refine r_callN0 ?_
  | with_reducible refine r_makeK0 ?_
  | with_reducible refine r_makeS ?_
  | with_reducible refine r_callS ?_
  | with_reducible refine r_cons ?_
  | with_reducible refine r_nil ?_
  | with_reducible refine r_test ?_
  | with_reducible refine r_B ?_
  | with_reducible refine r_and ?_
  | with_reducible refine r_or ?_
  | with_reducible refine r_not ?_
  | with_reducible refine r_andV ?_
  | with_reducible refine r_orV ?_
  | with_reducible refine r_notV ?_
  | with_reducible refine r_if ?_
  | with_reducible refine r_tup ?_
  | with_reducible refine r_lst ?_
  | with_reducible refine r_c ?_
  | with_reducible refine r_lc ?_
  | with_reducible refine r_chain ?_
  | with_reducible refine r_iT ?_
  | with_reducible refine r_iL ?_
  | with_reducible refine r_iR1 ?_
  | with_reducible refine r_iR2 ?_
  | with_reducible refine r_iR3 ?_
  | with_reducible refine r_asgG ?_
  | with_reducible refine r_gSub ?_
  | with_reducible refine r_for ?_
  | with_reducible refine r_smeth ?_
  | with_reducible refine r_par ?_
  | with_reducible refine r_parK ?_
  | with_reducible refine r_gCons ?_
  | with_reducible refine r_gNil ?_
  | with_reducible refine r_gName ?_
  | with_reducible refine r_intI ?_
  | with_reducible refine r_intB ?_
  | with_reducible refine r_absI ?_
  | with_reducible refine r_k ?_
  | with_reducible refine r_kV ?_
  | ((with_reducible show tVar _ _ _ _); refine r_var3 ?_ (by rfl))
  | with_reducible refine r_I0 ?_
  | with_reducible refine r_U ?_
  | with_reducible refine r_eqI ?_
  | with_reducible refine r_neI ?_
  | with_reducible refine r_F ?_
  | dsimp only)))
local macro_rules | `(tactic| walk_at "rx") => `(tactic| (repeat (first
  | with_reducible refine r_next ?_
  | with_reducible refine r_ret ?_
  | with_reducible refine r_ifS ?_
  | with_reducible refine r_asg ?_
  | with_reducible refine r_drop ?_
  | with_reducible refine r_op ?_
  | with_reducible refine r_un ?_
  | with_reducible refine r_cbInt ?_
  | with_reducible refine r_cbAbs ?_
  | with_reducible refine r_cbLen ?_
  | with_reducible refine r_cbList ?_
  | with_reducible refine r_cbTup ?_
  | with_reducible refine r_iEnT ?_
  | with_reducible refine r_iEnL ?_
  | with_reducible refine r_zipA ?_
  | with_reducible refine r_zipX ?_
  | with_reducible refine r_augS ?_
  | with_reducible refine r_cb ?_
  | with_reducible refine r_call ?_
  | with_reducible refine r_make ?_
  | with_reducible refine r_callN0 ?_
  | with_reducible refine r_makeK0 ?_
  | with_reducible refine r_makeS ?_
  | with_reducible refine r_callS ?_
  | with_reducible refine r_cons ?_
  | with_reducible refine r_nil ?_
  | with_reducible refine r_test ?_
  | with_reducible refine r_B ?_
  | with_reducible refine r_and ?_
  | with_reducible refine r_or ?_
  | with_reducible refine r_not ?_
  | with_reducible refine r_andV ?_
  | with_reducible refine r_orV ?_
  | with_reducible refine r_notV ?_
  | with_reducible refine r_if ?_
  | with_reducible refine r_tup ?_
  | with_reducible refine r_lst ?_
  | with_reducible refine r_c ?_
  | with_reducible refine r_lc ?_
  | with_reducible refine r_chain ?_
  | with_reducible refine r_iT ?_
  | with_reducible refine r_iL ?_
  | with_reducible refine r_iR1 ?_
  | with_reducible refine r_iR2 ?_
  | with_reducible refine r_iR3 ?_
  | with_reducible refine r_asgG ?_
  | with_reducible refine r_gSub ?_
  | with_reducible refine r_for ?_
  | with_reducible refine r_smeth ?_
  | with_reducible refine r_par ?_
  | with_reducible refine r_parK ?_
  | with_reducible refine r_gCons ?_
  | with_reducible refine r_gNil ?_
  | with_reducible refine r_gName ?_
  | with_reducible refine r_intI ?_
  | with_reducible refine r_intB ?_
  | with_reducible refine r_absI ?_
  | with_reducible refine r_k ?_
  | with_reducible refine r_kV ?_
  | ((with_reducible show tVar _ _ _ _); refine r_var3 ?_ (by rfl))
  | with_reducible refine r_I0 ?_
  | with_reducible refine r_U ?_
  | with_reducible refine r_eqI ?_
  | with_reducible refine r_neI ?_
  | with_reducible refine r_F ?_
  | dsimp only)))
/-! ### texts of data -/
structure Sw (n k : Nat) (d : PyData) : Prop where
  sh : d.showable = true
  nd : d.hasDict = false
  ln : d.shown.length ≤ n
  dp : d.depth ≤ k
theorem zlog {c : Int} (h : Z 1900 c) : c.natAbs.log2 < 1920 := by
  by_cases z : c.natAbs = 0
  · rw [z]; decide
  · exact (Nat.log2_lt z).mpr (Nat.lt_trans h (Nat.pow_lt_pow_right (by decide) (by decide)))
theorem z600 {c : Int} (h : Z 1900 c) : c.natAbs < 10 ^ 600 := Nat.lt_trans h (by decide +kernel)
theorem Sw.int {c : Int} {k : Nat} (h : Z 1900 c) : Sw 601 k (.int c) := ⟨by simp only [PyData.showable]; exact decide_eq_true (zlog h), by simp only [PyData.hasDict], by
  have e : PyData.shown (.int c) = nS c := by simp only [PyData.shown]; rfl
  rw [e]
  exact nS_len (k := 600) (by decide) (z600 h), Nat.zero_le _⟩
theorem sw_all {n k : Nat} : ∀ {ds : List PyData}, (∀ d ∈ ds, Sw n k d) → PyData.showableAll ds = true ∧ PyData.hasDictAll ds = false ∧ ((PyData.shownAll ds).map fun x => x.length).sum ≤ ds.length * n ∧ (PyData.shownAll ds).length = ds.length ∧ PyData.depthAll ds ≤ k
  | [], _ => ⟨by simp only [PyData.showableAll], by simp only [PyData.hasDictAll], by simp [PyData.shownAll], by simp [PyData.shownAll], Nat.zero_le _⟩
  | d :: ds, h => by
    obtain ⟨h1, h2, h3, h4, h5⟩ := sw_all fun e m => h e (List.mem_cons_of_mem _ m)
    have q := h d List.mem_cons_self
    refine ⟨by simp only [PyData.showableAll, q.sh, h1, Bool.and_self], by simp only [PyData.hasDictAll, q.nd, h2, Bool.or_self], ?_, by simp only [PyData.shownAll, List.length_cons, h4], ?_⟩
    · have := q.ln
      simp only [PyData.shownAll, List.map_cons, List.sum_cons, List.length_cons, Nat.succ_mul]
      omega
    · show max d.depth (PyData.depthAll ds) ≤ k
      have := q.dp
      omega
theorem Sw.list {n k : Nat} {ds : List PyData} (h : ∀ d ∈ ds, Sw n k d) : Sw (ds.length * n + 2 * ds.length + 3) (k + 1) (.list ds) := by
  obtain ⟨h1, h2, h3, h4, h5⟩ := sw_all h
  refine ⟨by simp only [PyData.showable]; exact h1, by simp only [PyData.hasDict]; exact h2, ?_, ?_⟩
  · simp only [PyData.shown]
    have := listText_len_le (PyData.shownAll ds)
    rw [h4] at this
    omega
  · show PyData.depthAll ds + 1 ≤ k + 1
    omega
theorem Sw.tup {n k : Nat} {ds : List PyData} (h : ∀ d ∈ ds, Sw n k d) : Sw (ds.length * n + 2 * ds.length + 3) (k + 1) (.tuple ds) := by
  obtain ⟨h1, h2, h3, h4, h5⟩ := sw_all h
  refine ⟨by simp only [PyData.showable]; exact h1, by simp only [PyData.hasDict]; exact h2, ?_, ?_⟩
  · simp only [PyData.shown]
    have := tupleText_len_le (PyData.shownAll ds)
    rw [h4] at this
    omega
  · show PyData.depthAll ds + 1 ≤ k + 1
    omega
theorem Sw.mono {n m k j : Nat} {d : PyData} (h : Sw n k d) (a : n ≤ m) (b : k ≤ j) : Sw m j d := ⟨h.sh, h.nd, Nat.le_trans h.ln a, Nat.le_trans h.dp b⟩
theorem sw_ints {ns : List Int} (h : ∀ c ∈ ns, Z 1900 c) : ∀ d ∈ ns.map PyData.int, Sw 601 0 d := fun d hd => by
  obtain ⟨c, hc, rfl⟩ := List.mem_map.mp hd
  exact Sw.int (h c hc)
/-- repr of data -/
theorem r_show {K : PySem.W.Frag} {H : Hp} {Q : VK} {a : Addr} {d : PyData} (hd : Dat K H (.ref a) d) (s : Sw 100000 50 d) (q : Q (.str d.shown) H) : rShow K [.ref a] H Q := ⟨a, d, rfl, hd, s.sh, s.nd, sz_le s.ln, Nat.le_trans s.dp (show 50 ≤ 60 by decide), q⟩
def spIsP (K : PySem.W.Frag) : Sp := sp2 fun v w H Q _ => ∃ (a b : Addr) (ns : List Int), v = .ref a ∧ w = .ref b ∧ Pl K H a ns ∧ H b = some (.lst (ns.map V.int)) ∧ (∀ c ∈ ns, Z 1900 c) ∧ ns.length ≤ 10 ∧ ∀ H', Ex H H' → Q (.bl true) H'
theorem ok__law_is_poly {P : Program} {w : World} {K : PySem.W.Frag} {mg : Str → Option Value} {base : Heap} (T : Txt K mg) : ∃ fd, FnG P w K mg base (L2.CX P w) 1 (He.ga K "_law_is_poly") fd ["poly", "due"] (spIsP K) ∧ Binds K fd ["poly", "due"] [] := by
  obtain ⟨fd, F⟩ := T.d__law_is_poly
  refine ⟨fd, okG F sc__law_is_poly sp2_len (fun cdv A outer s H vs Q E quiet hr h => ?_), F.bindsN fun _ _ _ _ _ _ us hl => match us, hl with | [_, _], _ => rfl⟩
  obtain ⟨v, w', rfl, a, b, ns, rfl, rfl, ha, hb, hz, hl, k⟩ := sp2_is h
  refine ⟨_, (pss_one (ps_ret (pe_and (pe_callB (cr_isi rfl) (by rfl) T.b_isinstance (by decide +kernel) (pa_cons (pv 0) (pa_cons (pe_glob (v := .ref (He.ga K "Poly")) rfl T.g_Poly rfl) pa_nil))) (pe_one (pe_cmpR op_eq (pe_callB (cr_show quiet hr.units) (by rfl) T.b_repr (by decide +kernel) (pa_cons (kx_fld rfl (pv 0) rfl) pa_nil)) (pe_callB (cr_show quiet hr.units) (by rfl) T.b_repr (by decide +kernel) (pa_cons (pe_callTy (kx_tupOf (K := K) rfl) (by rfl) T.b_tuple (by decide +kernel) (pa_cons (pv 1) pa_nil)) pa_nil)) (nomark _)))))), ?_⟩
  walk_at "rd"
  obtain ⟨dx, fs, hi⟩ := ha.inst
  have swt : Sw 100000 50 (.tuple (ns.map PyData.int)) := (Sw.tup (sw_ints hz)).mono (by rw [List.length_map]; omega) (by decide)
  refine ⟨_, _, _, _, true, rfl, .own _, ty_own T (by decide) hi, T.cc_Poly.me, ?_⟩
  refine ⟨_, rfl, ite_t rfl ?_⟩
  walk_at "rd"
  obtain ⟨_, _, _, dx1, t1, hp1, h1⟩ := ha
  refine ⟨a, _, dx1, _, .ref t1, rfl, hp1, T.cl_Poly, T.na_Poly_numbers, rfl, ?_⟩
  walk_at "rd"
  refine r_show (.tup (SqT.of h1) (Dats.ints _)) swt ?_
  walk_at "rd"
  refine r_tupL (SqL.of hb) fun t2 H2 _ e2 h2 => ?_
  walk_at "rd"
  refine r_show (.tup (SqT.of h2) (Dats.ints _)) swt ?_
  refine r_eq rfl ?_
  rw [decide_eq_true rfl]
  exact k H2 e2

end K10
namespace K10
open PySem PySem.Spec PyProof.Rows L2 GS TL LamX
local macro_rules | `(tactic| walk_at "rd") => `(tactic| (repeat (first
  | with_reducible refine r_next ?_
  | with_reducible refine r_seq ?_
  | with_reducible refine r_ret ?_
  | with_reducible refine r_ifS ?_
  | with_reducible refine r_asg ?_
  | with_reducible refine r_drop ?_
  | with_reducible refine r_op ?_
  | with_reducible refine r_un ?_
  | with_reducible refine r_cbInt ?_
  | with_reducible refine r_cbAbs ?_
  | with_reducible refine r_cbLen ?_
  | with_reducible refine r_cbList ?_
  | with_reducible refine r_cbTup ?_
  | with_reducible refine r_iEnT ?_
  | with_reducible refine r_iEnL ?_
  | with_reducible refine r_zipA ?_
  | with_reducible refine r_zipX ?_
  | with_reducible refine r_augS ?_
  | with_reducible refine r_cb ?_
  | with_reducible refine r_call ?_
  | with_reducible refine r_make ?_
  | with_reducible refine r_callN0 ?_
  | with_reducible refine r_makeK0 ?_
  | with_reducible refine r_makeS ?_
  | with_reducible refine r_callS ?_
  | with_reducible refine r_cons ?_
  | with_reducible refine r_nil ?_
  | with_reducible refine r_test ?_
  | with_reducible refine r_B ?_
  | with_reducible refine r_and ?_
  | with_reducible refine r_or ?_
  | with_reducible refine r_not ?_
  | with_reducible refine r_andV ?_
  | with_reducible refine r_orV ?_
  | with_reducible refine r_notV ?_
  | with_reducible refine r_if ?_
  | with_reducible refine r_tup ?_
  | with_reducible refine r_lst ?_
  | with_reducible refine r_c ?_
  | with_reducible refine r_lc ?_
  | with_reducible refine r_chain ?_
  | with_reducible refine r_iT ?_
  | with_reducible refine r_iL ?_
  | with_reducible refine r_iR1 ?_
  | with_reducible refine r_iR2 ?_
  | with_reducible refine r_iR3 ?_
  | with_reducible refine r_asgG ?_
  | with_reducible refine r_gSub ?_
  | with_reducible refine r_for ?_
  | with_reducible refine r_smeth ?_
  | with_reducible refine r_par ?_
  | with_reducible refine r_parK ?_
  | with_reducible refine r_gCons ?_
  | with_reducible refine r_gNil ?_
  | with_reducible refine r_gName ?_
  | with_reducible refine r_intI ?_
  | with_reducible refine r_intB ?_
  | with_reducible refine r_absI ?_
  | with_reducible refine r_k ?_
  | with_reducible refine r_kV ?_
  | ((with_reducible show tVar _ _ _ _); refine r_var3 ?_ (by rfl))
  | with_reducible refine r_I0 ?_
  | with_reducible refine r_U ?_
  | with_reducible refine r_eqI ?_
  | with_reducible refine r_neI ?_
  | with_reducible refine r_F ?_
  | dsimp only)))
local macro_rules | `(tactic| walk_at "rx") => `(tactic| (repeat (first
  | with_reducible refine r_next ?_
  | with_reducible refine r_ret ?_
  | with_reducible refine r_ifS ?_
  | with_reducible refine r_asg ?_
  | with_reducible refine r_drop ?_
  | with_reducible refine r_op ?_
  | with_reducible refine r_un ?_
  | with_reducible refine r_cbInt ?_
  | with_reducible refine r_cbAbs ?_
  | with_reducible refine r_cbLen ?_
  | with_reducible refine r_cbList ?_
  | with_reducible refine r_cbTup ?_
  | with_reducible refine r_iEnT ?_
  | with_reducible refine r_iEnL ?_
  | with_reducible refine r_zipA ?_
  | with_reducible refine r_zipX ?_
  | with_reducible refine r_augS ?_
  | with_reducible refine r_cb ?_
  | with_reducible refine r_call ?_
  | with_reducible refine r_make ?_
  | with_reducible refine r_callN0 ?_
  | with_reducible refine r_makeK0 ?_
  | with_reducible refine r_makeS ?_
  | with_reducible refine r_callS ?_
  | with_reducible refine r_cons ?_
  | with_reducible refine r_nil ?_
  | with_reducible refine r_test ?_
  | with_reducible refine r_B ?_
  | with_reducible refine r_and ?_
  | with_reducible refine r_or ?_
  | with_reducible refine r_not ?_
  | with_reducible refine r_andV ?_
  | with_reducible refine r_orV ?_
  | with_reducible refine r_notV ?_
  | with_reducible refine r_if ?_
  | with_reducible refine r_tup ?_
  | with_reducible refine r_lst ?_
  | with_reducible refine r_c ?_
  | with_reducible refine r_lc ?_
  | with_reducible refine r_chain ?_
  | with_reducible refine r_iT ?_
  | with_reducible refine r_iL ?_
  | with_reducible refine r_iR1 ?_
  | with_reducible refine r_iR2 ?_
  | with_reducible refine r_iR3 ?_
  | with_reducible refine r_asgG ?_
  | with_reducible refine r_gSub ?_
  | with_reducible refine r_for ?_
  | with_reducible refine r_smeth ?_
  | with_reducible refine r_par ?_
  | with_reducible refine r_parK ?_
  | with_reducible refine r_gCons ?_
  | with_reducible refine r_gNil ?_
  | with_reducible refine r_gName ?_
  | with_reducible refine r_intI ?_
  | with_reducible refine r_intB ?_
  | with_reducible refine r_absI ?_
  | with_reducible refine r_k ?_
  | with_reducible refine r_kV ?_
  | ((with_reducible show tVar _ _ _ _); refine r_var3 ?_ (by rfl))
  | with_reducible refine r_I0 ?_
  | with_reducible refine r_U ?_
  | with_reducible refine r_eqI ?_
  | with_reducible refine r_neI ?_
  | with_reducible refine r_F ?_
  | dsimp only)))
/-! ### small tables -/
theorem Tab.perm {rs qs : List (List Int)} {d : Nat} {l : List Nat} (t : Tab rs d) (hl : l.Perm (List.range d)) (hq : Rw qs d) (e : ∀ i j, i < d → j < d → en qs i j = en rs (l.getD i 0) (l.getD j 0)) : Tab qs d ∧ tn qs d = tn rs d := by
  have ll : l.length = d := by rw [hl.length_eq, List.length_range]
  have lt : ∀ i, i < d → l.getD i 0 < d := fun i hi => by
    have : l.getD i 0 ∈ l := by simp [List.getD_eq_getElem?_getD, show i < l.length by omega]
    exact List.mem_range.mp (hl.mem_iff.mp this)
  have inj : ∀ i j, i < d → j < d → (l.getD i 0 = l.getD j 0 ↔ i = j) := fun i j hi hj => by
    have nd : l.Nodup := hl.nodup_iff.mpr List.nodup_range
    refine ⟨fun h => ?_, fun h => by rw [h]⟩
    rw [List.getD_eq_getElem?_getD, List.getD_eq_getElem?_getD, List.getElem?_eq_getElem (by omega), List.getElem?_eq_getElem (by omega)] at h
    exact (List.getElem_inj nd).mp h
  have tq : Tab qs d := by
    refine ⟨hq.len, t.d1, t.d3, hq.row, fun i j hi hj => ?_, fun r hr c hc => ?_⟩
    · rw [e i j hi hj, e j i hj hi]
      exact t.sym _ _ (lt i hi) (lt j hj)
    · obtain ⟨i, hi⟩ := List.getElem?_of_mem hr
      obtain ⟨j, hj⟩ := List.getElem?_of_mem hc
      have li := (List.getElem?_eq_some_iff.mp hi).1
      have lj := (List.getElem?_eq_some_iff.mp hj).1
      have lr := hq.row r hr
      have lq := hq.len
      have ev : en qs i j = c := by simp [en, List.getD_eq_getElem?_getD, hi, hj]
      rw [e i j (by omega) (by omega)] at ev
      obtain ⟨rr, h1, _, h3⟩ := t.rw (lt i (by omega))
      have := t.z rr (List.mem_of_getElem? h1) _ (List.mem_of_getElem? (h3 _ (lt j (by omega))))
      rw [ev] at this
      exact this
  refine ⟨tq, Dt.worth_same (by rw [tn_len, tn_len]) fun x => ?_⟩
  rw [tn_det tq, tn_det t]
  refine Eq.trans ?_ (Dt.perm_same hl (Dt.lessM (en rs) x))
  refine Dt.det_congr fun i j hi hj => ?_
  unfold Dt.byL Dt.lessM
  rw [e i j hi hj]
  by_cases c : i = j
  · rw [if_pos c, if_pos ((inj i j hi hj).mpr c)]
  · rw [if_neg c, if_neg (fun z => c ((inj i j hi hj).mp z))]
theorem tn_lowz {rs : List (List Int)} {d : Nat} (t : Tab rs d) (h : d ≤ 8) : ∀ c ∈ tn rs d, Z 1900 c := fun c hc => by
  obtain ⟨i, hi⟩ := List.getElem?_of_mem hc
  have := (List.getElem?_eq_some_iff.mp hi).1
  rw [tn_len] at this
  exact (tn_g t d (Nat.le_refl _) i c hi).mono (by omega)
theorem less_abs {rs : List (List Int)} {d : Nat} (t : Tab rs d) {x : Int} (hx : x.natAbs ≤ 2 ^ 200) (i j : Nat) (hi : i < d) (hj : j < d) : (en (lessR rs d x) i j).natAbs ≤ 2 ^ 202 := by
  rw [lessR_en hi hj]
  obtain ⟨r, hr, _, gr⟩ := t.rw hi
  have z := t.z r (List.mem_of_getElem? hr) _ (List.mem_of_getElem? (gr j hj))
  have z : (en rs i j).natAbs < 2 ^ 201 := z
  have e : (2 : Nat) ^ 202 = 2 ^ 201 + 2 ^ 201 := by rw [Nat.pow_succ]
  have e1 : (2 : Nat) ^ 201 = 2 ^ 200 + 2 ^ 200 := by rw [Nat.pow_succ]
  unfold Dt.lessM
  generalize (2 : Nat) ^ 200 = B at *
  split <;> omega
theorem less_det {rs : List (List Int)} {d : Nat} (x : Int) : Dt.det d (en (lessR rs d x)) = Dt.det d (Dt.lessM (en rs) x) := Dt.det_congr fun _ _ hi hj => lessR_en hi hj
theorem RA.bg {H H' : Hp} {p : Addr} {n : Int} {ts : List Addr} {rs : List (List Int)} (h : RA H ts rs) (hb : Bag H p n) (g : Bg p H H') : RA H' ts rs := ⟨h.1, fun j t r h1 h2 => by
  rcases h.2 j t r h1 h2 with z | z
  · refine .inl (g.at_ (hb.ne z fun L x y w => ?_) z)
    injection w with w
    cases r with
    | nil => cases w
    | cons a r => injection w with w1; cases w1
  · exact .inr (g.at_ (hb.ne z fun _ _ _ w => by cases w) z)⟩
theorem rg_ints (d : Nat) : rgV 0 (d : Int) = ((List.range d).map fun i => ((i : Nat) : Int)).map V.int := by
  unfold rgV
  rw [List.map_map, show (((d : Nat) : Int) - 0).toNat = d by omega]
  exact List.map_congr_left fun i _ => congrArg V.int (Int.zero_add _)
theorem r_lstRg {d : Nat} {n : Nat} {σ : L2.St} {H : Hp} {Q : VK} (hs : σ[n]? = some (some (.int (d : Int)))) (hd : d ≤ 1000) (q : ∀ l H', H l = none → Ex H H' → H' l = some (.lst (((List.range d).map fun i => ((i : Nat) : Int)).map V.int)) → Q (.ref l) H') : tLstRg (tRg1 (tVar n)) σ H Q :=
  ⟨_, hs, _, rfl, RgOk.of_le (by omega) (by omega) (by omega) (by omega), fun l hl => q l _ hl (Ex.new hl) (by rw [upd_same, rg_ints])⟩
/-- a row of places in another order, as places -/
theorem order_nat {zs : List Int} {d : Nat} (h : zs.Perm ((List.range d).map fun i => ((i : Nat) : Int))) : ∃ l : List Nat, l.Perm (List.range d) ∧ zs = l.map fun i => ((i : Nat) : Int) := by
  refine ⟨zs.map Int.toNat, ?_, ?_⟩
  · have := h.map Int.toNat
    rw [List.map_map] at this
    have e : (List.range d).map (Int.toNat ∘ fun i => ((i : Nat) : Int)) = List.range d := by
      refine List.ext_getElem (by simp) fun i h1 h2 => ?_
      simp
    rw [e] at this
    exact this
  · rw [List.map_map]
    refine List.ext_getElem (by simp) fun i h1 h2 => ?_
    have : zs[i] ∈ (List.range d).map fun i => ((i : Nat) : Int) := h.mem_iff.mp (List.getElem_mem h1)
    obtain ⟨k, _, e⟩ := List.mem_map.mp this
    simp only [List.getElem_map, Function.comp_apply]
    rw [← e]
    simp
/-! ### rows against one another -/
def rwD (rs : List (List Int)) : List PyData := rs.map fun r => PyData.list (r.map PyData.int)
theorem dp_rows {K : PySem.W.Frag} {H : Hp} : ∀ {ts : List Addr} {rs : List (List Int)}, LA H ts rs → DpAll K H (ts.map V.ref) (rwD rs)
  | [], [], _ => .nil
  | [], r :: rs, h => by have := h.1; simp at this
  | t :: ts, [], h => by have := h.1; simp at this
  | t :: ts, r :: rs, h => .cons (.lst (SqL.of (h.2 0 t r rfl rfl)) (dp_ints r)) (dp_rows ⟨by simpa using h.1, fun j t' r' h1 h2 => h.2 (j + 1) t' r' (by simpa using h1) (by simpa using h2)⟩)
theorem can_rows : ∀ rs : List (List Int), PyData.canLayAll0 (rwD rs) = true
  | [] => rfl
  | r :: rs => by
    show (PyData.canLayAll0 (r.map PyData.int) && PyData.canLayAll0 (rwD rs)) = true
    rw [can_ints r, can_rows rs]
    rfl
theorem depth_rows : ∀ rs : List (List Int), PyData.depthAll (rwD rs) ≤ 1
  | [] => Nat.zero_le _
  | r :: rs => by
    show max (PyData.depthAll (r.map PyData.int) + 1) (PyData.depthAll (rwD rs)) ≤ 1
    have := depth_rows rs
    rw [depth_ints r]
    omega
theorem eqv_rows : ∀ rs : List (List Int), PyData.eqvAll (rwD rs) (rwD rs) = true
  | [] => rfl
  | r :: rs => by
    show (PyData.eqvAll (r.map PyData.int) (r.map PyData.int) && PyData.eqvAll (rwD rs) (rwD rs)) = true
    rw [eqv_ints, eqv_rows rs]
    simp
theorem r_neRows {K : PySem.W.Frag} {H : Hp} {Q : VK} {p q : Addr} {ts us : List Addr} {rs : List (List Int)} (h1 : H p = some (.lst (ts.map V.ref))) (h2 : H q = some (.lst (us.map V.ref))) (a : LA H ts rs) (b : LA H us rs) (k : Q (.bl false) H) : rNeD K (.ref p) (.ref q) H Q := by
  have sh : SeqAt.shaped (.list (rwD rs)) = true := by
    show (PyData.canLayAll0 (rwD rs) && decide (PyData.depthAll (rwD rs) + 1 ≤ 64)) = true
    have := depth_rows rs
    rw [can_rows, decide_eq_true (by omega)]
    rfl
  refine ⟨_, _, .lst (SqL.of h1) (dp_rows a), .lst (SqL.of h2) (dp_rows b), sh, sh, ?_⟩
  show Q (.bl (!PyData.eqvAll (rwD rs) (rwD rs))) H
  rw [eqv_rows]
  exact k
def spSmall (K : PySem.W.Frag) : Sp := sp2 fun b s H Q _ => ∃ (p : Addr) (n : Int) (d : Nat), b = .ref p ∧ s = .int d ∧ 1 ≤ d ∧ d ≤ 5 ∧ n ≤ 70000 ∧ Bag H p n ∧ ∀ H', Bg p H H' → Bag H' p (n + 4000) → Q (.bl true) H'
theorem ok__law_small_right {P : Program} {w : World} {K : PySem.W.Frag} {mg : Str → Option Value} {base : Heap} (T : Txt K mg) : ∃ fd, FnG P w K mg base (L2.CX P w) 6 (He.ga K "_law_small_right") fd ["tub", "size"] (spSmall K) ∧ Binds K fd ["tub", "size"] [] := by
  obtain ⟨fd, F⟩ := T.d__law_small_right
  obtain ⟨fd__law_worth, F__law_worth, B__law_worth⟩ := ok__law_worth (P := P) (w := w) (base := base) T
  obtain ⟨fd__law_determinant, F__law_determinant, B__law_determinant⟩ := ok__law_determinant (P := P) (w := w) (base := base) T
  obtain ⟨fd__law_less, F__law_less, B__law_less⟩ := ok__law_less (P := P) (w := w) (base := base) T
  obtain ⟨fd__law_is_poly, F__law_is_poly, B__law_is_poly⟩ := ok__law_is_poly (P := P) (w := w) (base := base) T
  obtain ⟨fd_table_poly, F_table_poly, B_table_poly, kb_table_poly_0⟩ := ok_table_poly (P := P) (w := w) (base := base) T
  obtain ⟨fd__law_stirred, F__law_stirred, B__law_stirred⟩ := ok__law_stirred (P := P) (w := w) (base := base) T
  obtain ⟨fd__law_scoop, F__law_scoop, B__law_scoop⟩ := ok__law_scoop (P := P) (w := w) (base := base) T
  obtain ⟨fd__law_by_orders, F__law_by_orders, B__law_by_orders⟩ := ok__law_by_orders (P := P) (w := w) (base := base) T
  obtain ⟨fd__law_table, F__law_table, B__law_table⟩ := ok__law_table (P := P) (w := w) (base := base) T
  refine ⟨fd, okG F sc__law_small_right sp2_len (fun cdv A outer s H vs Q E quiet hr h => ?_), F.bindsN fun _ _ _ _ _ _ us hl => match us, hl with | [_, _], _ => rfl⟩
  have hr__law_worth : Room 1 _ := hr.mono (by decide)
  have hr__law_determinant : Room 1 _ := hr.mono (by decide)
  have hr__law_less : Room 1 _ := hr.mono (by decide)
  have hr__law_is_poly : Room 1 _ := hr.mono (by decide)
  have hr_table_poly : Room 5 _ := hr.mono (by decide)
  have hr__law_stirred : Room 2 _ := hr.mono (by decide)
  have hr__law_scoop : Room 1 _ := hr.mono (by decide)
  have hr__law_by_orders : Room 2 _ := hr.mono (by decide)
  have hr__law_table : Room 4 _ := hr.mono (by decide)
  obtain ⟨b0, s0, rfl, p, n, d, rfl, rfl, d1, d5, hn, hb, k⟩ := sp2_is h
  refine ⟨_, (pss_cons (ps_set (i := 2) sc__law_small_right.nd rfl (Or.inr rfl) (pe_call F__law_table hr__law_table (by rfl) T.g__law_table T.k__law_table B__law_table .nil passL (pa_cons (pv 0) (pa_cons (pv 1) (pa_cons (pe_call F__law_scoop hr__law_scoop (by rfl) T.g__law_scoop T.k__law_scoop B__law_scoop .nil passL (pa_cons (pv 0) (pa_cons pe_int pa_nil))) pa_nil)))))
      (pss_cons (ps_set (i := 3) sc__law_small_right.nd rfl (Or.inl rfl) (pe_call F__law_by_orders hr__law_by_orders (by rfl) T.g__law_by_orders T.k__law_by_orders B__law_by_orders .nil passL (pa_cons (pv 2) pa_nil)))
      (pss_cons (ps_set (i := 4) sc__law_small_right.nd rfl (Or.inl rfl) (pe_callTy (kx_tupOf (K := K) rfl) (by rfl) T.b_tuple (by decide +kernel) (pa_cons (pe_lc (own := [("row", 5)]) (g := gName 5) (tt := tYes)  rfl sc__law_small_right.nd (pi_list (pv 2)) (blkOk_by (own := [("row", 5)]) (N := ["tub", "size", "table", "due", "handed", "row", "order", "turned", "other", "one"]) (sc := defScope s__law_small_right) (by decide +kernel)) (fun _ _ _ _ _ => (pg_name (i := 5) sc__law_small_right.nd rfl (Or.inl rfl))) (fun _ _ _ _ _ => pts_nil) (fun _ _ _ _ _ => (pe_ifExp (pt_cmpR op_eq (pe_call F__law_scoop hr__law_scoop (by rfl) T.g__law_scoop T.k__law_scoop B__law_scoop .nil passL (pa_cons (pv 0) (pa_cons pe_int pa_nil))) pe_int (nomark _)) (pe_callTy (kx_tupOf (K := K) rfl) (by rfl) T.b_tuple (by decide +kernel) (pa_cons (pv 5) pa_nil)) (pe_callTy (kx_listOf (K := K) rfl) (by rfl) T.b_list (by decide +kernel) (pa_cons (pv 5) pa_nil))))) pa_nil)))
      (pss_cons (ps_if (PW.pt (pw_or (pt_not (pt_val (pe_callG F__law_is_poly quiet hr__law_is_poly (by rfl) T.g__law_is_poly T.k__law_is_poly B__law_is_poly .nil passL (pa_cons (pe_call F_table_poly hr_table_poly (by rfl) T.g_table_poly T.k_table_poly B_table_poly .nil passL (pa_cons (pv 4) pa_nil)) (pa_cons (pv 3) pa_nil))))) (pw_or1 (pt_not (pt_val (pe_callG F__law_is_poly quiet hr__law_is_poly (by rfl) T.g__law_is_poly T.k__law_is_poly B__law_is_poly .nil passL (pa_cons (pe_callK0 F_table_poly hr_table_poly (by rfl) T.g_table_poly T.k_table_poly kb_table_poly_0 passL (pk_cons (pe_lc (own := [("row", 5)]) (g := gName 5) (tt := tYes)  rfl sc__law_small_right.nd (pi_tup (pv 4)) (blkOk_by (own := [("row", 5)]) (N := ["tub", "size", "table", "due", "handed", "row", "order", "turned", "other", "one"]) (sc := defScope s__law_small_right) (by decide +kernel)) (fun _ _ _ _ _ => (pg_name (i := 5) sc__law_small_right.nd rfl (Or.inl rfl))) (fun _ _ _ _ _ => pts_nil) (fun _ _ _ _ _ => (pe_callTy (kx_listOf (K := K) rfl) (by rfl) T.b_list (by decide +kernel) (pa_cons (pv 5) pa_nil)))) pk_nil)) (pa_cons (pv 3) pa_nil)))))))) (pss_one (ps_ret pe_bl)) pss_nil)
      (pss_cons (ps_set (i := 6) sc__law_small_right.nd rfl (Or.inr rfl) (pe_call F__law_stirred hr__law_stirred (by rfl) T.g__law_stirred T.k__law_stirred B__law_stirred .nil passL (pa_cons (pv 0) (pa_cons (pe_listRg (by rfl) (by rfl) T.b_list (prg_1 (by rfl) T.b_range (pv 1))) pa_nil))))
      (pss_cons (ps_setLc (i := 7) (own := [("one", 9)]) (g := gName 9) (tt := tYes)  rfl sc__law_small_right.nd rfl rfl (sw_true rfl rfl rfl (by decide +kernel)) (pi_list (pv 6)) (blkOk_by (own := [("one", 9)]) (N := ["tub", "size", "table", "due", "handed", "row", "order", "turned", "other", "one"]) (sc := defScope s__law_small_right) (by decide +kernel)) (fun _ _ _ _ _ => (pg_name (i := 9) sc__law_small_right.nd rfl (Or.inr rfl))) (fun _ _ _ _ _ => pts_nil) (fun _ _ _ _ _ => (pe_lc (own := [("other", 8)]) (g := gName 8) (tt := tYes)  rfl sc__law_small_right.nd (kx_pilist (K := K) rfl (pv 6)) (blkOk_by (own := [("other", 8)]) (N := ["tub", "size", "table", "due", "handed", "row", "order", "turned", "other", "one"]) (by rfl)) (fun _ _ _ _ _ => (pg_name (i := 8) sc__law_small_right.nd rfl (Or.inl rfl))) (fun _ _ _ _ _ => pts_nil) (fun _ _ _ _ _ => (pe_ix (kx_ixl rfl) (pe_ix (kx_ixl rfl) (pv 2) (pv 9) (fun _ _ => rfl)) (pv 8) (fun _ _ => rfl))))))
      (pss_cons (ps_if (PW.pt (pw_or (pt_not (pt_val (pe_callG F__law_is_poly quiet hr__law_is_poly (by rfl) T.g__law_is_poly T.k__law_is_poly B__law_is_poly .nil passL (pa_cons (pe_call F_table_poly hr_table_poly (by rfl) T.g_table_poly T.k_table_poly B_table_poly .nil passL (pa_cons (pv 7) pa_nil)) (pa_cons (pv 3) pa_nil))))) (pw_or1 (pt_cmpR (op_neD hr.units) (pe_lc (own := [("row", 5)]) (g := gName 5) (tt := tYes)  rfl sc__law_small_right.nd (pi_tup (pv 4)) (blkOk_by (own := [("row", 5)]) (N := ["tub", "size", "table", "due", "handed", "row", "order", "turned", "other", "one"]) (sc := defScope s__law_small_right) (by decide +kernel)) (fun _ _ _ _ _ => (pg_name (i := 5) sc__law_small_right.nd rfl (Or.inl rfl))) (fun _ _ _ _ _ => pts_nil) (fun _ _ _ _ _ => (pe_callTy (kx_listOf (K := K) rfl) (by rfl) T.b_list (by decide +kernel) (pa_cons (pv 5) pa_nil)))) (pv 2) (nomark _))))) (pss_one (ps_ret pe_bl)) pss_nil)
      (pss_one (ps_ret (pe_cmpR op_eq (pe_call F__law_worth hr__law_worth (by rfl) T.g__law_worth T.k__law_worth B__law_worth .nil passL (pa_cons (pv 3) (pa_cons pe_int pa_nil))) (pe_call F__law_determinant hr__law_determinant (by rfl) T.g__law_determinant T.k__law_determinant B__law_determinant .nil passL (pa_cons (pe_call F__law_less hr__law_less (by rfl) T.g__law_less T.k__law_less B__law_less .nil passL (pa_cons (pv 2) (pa_cons pe_int pa_nil))) pa_nil)) (nomark _))))))))))), ?_⟩
  walk_at "rd"
  refine r_DrawG hb (by omega) (by decide) (zsm (by decide)) fun kd H1 k0 k1 g1 b1 => ?_
  walk_at "rd"
  refine ⟨p, n + 1, d, kd, rfl, rfl, rfl, d1, by omega, by omega, b1, fun q cs rs H2 hq hnew nd nq g2 b2 h2 la2 sy => ?_⟩
  have tb := sy.tab d1 (by omega)
  walk_at "rd"
  refine ⟨q, cs, rs, d, rfl, h2, la2, tb, d5, fun dq r H3 e3 h3 lr wr => ?_⟩
  have er : r = tn rs d := Dt.worth_same (by rw [lr, tn_len]) fun x => by rw [wr x, tn_det tb]
  subst er
  have h23 := e3 _ _ h2
  have la3 := la2.ex e3
  have b3 := b2.ex e3
  have zt := tn_lowz tb (by omega)
  have lt : (tn rs d).length ≤ 10 := by rw [tn_len]; omega
  walk_at "rd"
  have lcs : cs.length = d := by rw [la2.1]; exact tb.len
  refine ⟨q, rfl, ⟨_, SqL.of h23⟩, ?_⟩
  refine r_lcG (n := d) (by have := walk_list (K := K) (a := q) (xs := cs.map V.ref); rwa [List.length_map, lcs] at this) (fun D i ys H' => ∃ us : List Addr, ys = us.map V.ref ∧ D ∉ us ∧ RA H' us (rs.take i) ∧ Bg p H3 H' ∧ Bag H' p (n + 3001 + (i : Nat))) (by omega) (fun D i ys H' h => by obtain ⟨us, _, _, _, g, _⟩ := h; exact SqL.of (g.at_ (ls_ne b3 h23) h23)) (fun D hD => ⟨[], rfl, by simp, by rw [List.take_zero]; exact RA.nil, (Bg.refl p H3).updD b3 hD, (b3.le (by omega)).updD b3 (Bg.refl p H3) hD⟩) ?_ ?_ ?_
  · rintro D j ys H' o hD ⟨us, e, n1, ra, g, hb'⟩
    exact ⟨us, e, n1, ra.upd n1, g.updD b3 hD, hb'.updD b3 g hD⟩
  · rintro D j x ys G8 H' hj hD hl' li ⟨us, rfl, n1, ra, g, hb'⟩ ⟨rfl, hx⟩ N hN
    obtain ⟨t, ht, rfl⟩ := ref_at hx
    obtain ⟨rr, hr, hrow⟩ := (la3.bg b3 g).at ht
    have nD : D ≠ p := by rintro rfl; obtain ⟨L, xs, a, l, h1, _⟩ := b3.is; rw [hD] at h1; cases h1
    refine r_gName ⟨rfl, ?_⟩
    walk_at "rd"
    refine r_DrawG hb' (by omega) (by decide) (zsm (by decide)) fun c H9 c0 c1 g9 b9 => ?_
    have hrow9 := (la3.bg b3 (g.trans g9)).2 j t rr ht hr
    have hD9 := g9.at_ nD hl'
    have ra9 := ra.bg hb' g9
    have fin : ∀ (u : Addr) (H10 : Hp), Ex H9 H10 → H9 u = none → IL H10 u rr → N (.ref u) H10 := fun u H10 e10 nu il => by
      have nuD : D ≠ u := fun z => by rw [← z, hD9] at nu; cases nu
      refine hN _ H10 (e10 _ _ hD9) ⟨us ++ [u], by simp, fun z => ?_, ?_, (g.trans g9).trans (Bg.of e10), (b9.ex e10).le (by push_cast; omega)⟩
      · rcases List.mem_append.mp z with z | z
        · exact n1 z
        · exact nuD (List.mem_singleton.mp z)
      · rw [List.take_add_one, hr]
        exact (ra9.ex e10).app (RA.cons il RA.nil)
    walk_at "rd"
    refine ite_b (fun _ => ?_) fun _ => ?_
    · walk_at "rd"
      refine r_tupL (SqL.of hrow9) fun u H10 nu e10 h10 => ?_
      exact fin u H10 e10 nu (.inr h10)
    · walk_at "rd"
      refine r_list (.inl (SqL.of hrow9)) fun u H10 nu e10 h10 => ?_
      exact fin u H10 e10 nu (.inl h10)
  rintro D ys H4 hD hl' li ⟨us, rfl, n1, ra, g4, b4⟩
  rw [List.take_of_length_le (by rw [tb.len]; exact Nat.le_refl _)] at ra
  walk_at "rd"
  refine r_tupL (SqL.of hl') fun hd H5 nhd e5 h5 => ?_
  have ra5 := ra.ex e5
  have h35 : H5 dq = some (.lst ((tn rs d).map V.int)) := e5 _ _ (g4.at_ (b3.ne h3 (fun L x y z => by
    injection z with z
    have := tn_len rs d
    cases q : tn rs d with
    | nil => rw [q] at z; cases z
    | cons a r => rw [q] at z; cases z)) h3)
  walk_at "rd"
  refine .inr ⟨true, hd, us, rs, d, rfl, h5, ra5, tb, fun a H6 na e6 pl => ?_⟩
  walk_at "rd"
  refine ⟨a, dq, tn rs d, rfl, rfl, pl, e6 _ _ h35, zt, lt, fun H7 e7 => ⟨_, rfl, ite_f rfl ?_⟩⟩
  walk_at "rd"
  have e57 := e6.trans e7
  have h7 := e57 _ _ h5
  have ra7 := ra5.ex e57
  have lus : us.length = d := by rw [ra.1]; exact tb.len
  have lists : ∀ (G : Hp), Ex H5 G → ∀ (i : Nat) (y : V), (us.map V.ref)[i]? = some y → ∃ t, y = .ref t ∧ IL G t (rs.getD i []) := fun G e i y hy => by
    obtain ⟨t, ht, rfl⟩ := ref_at hy
    obtain ⟨rr, hr, hrow⟩ := (ra5.ex e).at ht
    refine ⟨t, rfl, ?_⟩
    rw [List.getD_eq_getElem?_getD, hr]
    exact hrow
  have back : ∀ {G : Hp} {ts : List Addr}, ts.length = d → (∀ (j : Nat) (t : Addr), ts[j]? = some t → G t = some (.lst ((rs.getD j []).map V.int))) → LA G ts rs := fun {G ts} hl h => by
    have := la_rows (n := d) (f := fun i => rs.getD i []) hl h
    have e : (List.range d).map (fun i => rs.getD i []) = rs := by
      refine List.ext_getElem (by simp [tb.len]) fun i h1 h2 => ?_
      simp at h1
      simp [tb.len, h1]
    rw [e] at this
    exact this
  refine ⟨hd, rfl, ⟨_, SqT.of h7⟩, ?_⟩
  refine r_lcLs (n := d) (k := 5) (by have := walk_tup (K := K) (a := hd) (xs := us.map V.ref); rwa [List.length_map, lus] at this) (fun i => (rs.getD i []).map V.int) (by omega) (fun H' e => SqT.of (e _ _ h7)) (fun _ => rfl) ?_ ?_
  · rintro i y G1 G2 hi f1 ⟨rfl, hy⟩
    refine ⟨Ex.refl _, fun R kR => ?_⟩
    obtain ⟨t, rfl, il⟩ := lists _ (e57.trans f1) i y hy
    walk_at "rd"
    refine r_list (il.imp SqL.of SqT.of) fun l G3 nl f3 g3 => ?_
    exact kR l G3 f3 nl g3
  intro q2 ts2 H8 nq2 e8 h8 hlen2 _ _ hrow2
  have la8 := back hlen2 hrow2
  walk_at "rd"
  refine ⟨rfl, rfl, ?_⟩
  refine .inr ⟨false, q2, ts2, rs, d, rfl, h8, la8.ra, tb, fun a2 H9 na2 e9 pl2 => ?_⟩
  walk_at "rd"
  have e59 := e57.trans (e8.trans e9)
  refine ⟨a2, dq, tn rs d, rfl, rfl, pl2, e59 _ _ h35, zt, lt, fun H10 e10 => ⟨_, rfl, ite_f rfl ?_⟩⟩
  walk_at "rd"
  have e510 := e59.trans e10
  have b10 := (b4.ex e5).ex e510
  have g10 : Bg p H3 H10 := (g4.trans (Bg.of e5)).trans (Bg.of e510)
  have la10 := la3.bg b3 g10
  have h10 := g10.at_ (ls_ne b3 h23) h23
  have hd10 := e510 _ _ h5
  have ra10 := ra5.ex e510
  have due10 := e510 _ _ h35
  refine r_lstRg rfl (by omega) fun rg H11 nrg e11 h11 => ?_
  walk_at "rd"
  refine ⟨p, _, rg, _, rfl, rfl, h11, by simp; omega, by omega, b10.ex e11, fun oq zs H12 pm noq ho12 g12 b12 => ?_⟩
  obtain ⟨ol, hol, rfl⟩ := order_nat pm
  have lol : ol.length = d := by rw [hol.length_eq, List.length_range]
  have gl : ∀ i, i < d → ol[i]? = some (ol.getD i 0) := fun i hi => by rw [List.getD_eq_getElem?_getD, List.getElem?_eq_getElem (by omega)]; rfl
  have ol_lt : ∀ i, i < d → ol.getD i 0 < d := fun i hi => List.mem_range.mp (hol.mem_iff.mp (List.mem_of_getElem? (gl i hi)))
  have b11 := b10.ex e11
  have g12' := (Bg.of e11).trans g12
  have la12 := la10.bg b10 g12'
  have h12 := g12'.at_ (ls_ne b10 h10) h10
  have gx : ∀ {t : Addr} {xs : List V}, H10 t = some (.tup xs) → H12 t = some (.tup xs) := fun h => g12'.at_ (b10.ne h fun _ _ _ z => by cases z) h
  have hd12 := gx hd10
  have ra12 := ra10.bg b10 g12'
  have due12 : H12 dq = some (.lst ((tn rs d).map V.int)) := g12'.at_ (b10.ne due10 (fun L x y z => by
    injection z with z
    have := tn_len rs d
    cases q : tn rs d with
    | nil => rw [q] at z; cases z
    | cons a r => rw [q] at z; cases z)) due10
  walk_at "rd"
  have on : ∀ {i : Nat} {y : V}, ((ol.map fun i => ((i : Nat) : Int)).map V.int)[i]? = some y → i < d → y = nI (ol.getD i 0) := fun {i y} hy hi => by
    rw [List.getElem?_map, List.getElem?_map, gl i hi] at hy
    exact (Option.some.inj hy).symm
  refine ⟨oq, rfl, ⟨_, SqL.of ho12⟩, ?_⟩
  refine r_lcLs (n := d) (k := 9) (by have := walk_list (K := K) (a := oq) (xs := (ol.map fun i => ((i : Nat) : Int)).map V.int); rwa [List.length_map, List.length_map, lol] at this) (fun i => ((List.range d).map fun j => en rs (ol.getD i 0) (ol.getD j 0)).map V.int) (by omega) (fun H' e => SqL.of (e _ _ ho12)) (fun _ => rfl) ?_ ?_
  · rintro i y G1 G2 hi f1 ⟨rfl, hy⟩
    refine ⟨Ex.refl _, fun R kR => ?_⟩
    rw [on hy hi]
    have ho1 := f1 _ _ ho12
    walk_at "rd"
    refine ⟨oq, rfl, ⟨_, SqL.of ho1⟩, ?_⟩
    refine r_lcM (n := d) (k := 8) (by have := walk_list (K := K) (a := oq) (xs := (ol.map fun i => ((i : Nat) : Int)).map V.int); rwa [List.length_map, List.length_map, lol] at this) (fun j => .int (en rs (ol.getD i 0) (ol.getD j 0))) (by omega) (fun H' e => SqL.of (e _ _ ho1)) (fun _ => rfl) ?_ ?_
    · rintro j z G3 G4 hj f3 ⟨rfl, hz⟩
      refine ⟨Ex.refl _, fun G5 f5 R2 kR2 => ?_⟩
      rw [on hz hj]
      have f15 := f1.trans (f3.trans f5)
      obtain ⟨rr, hr, _, gr⟩ := tb.rw (ol_lt i hi)
      obtain ⟨t, ht, hrow⟩ := (la12.ex f15).col hr
      walk_at "rd"
      refine r_ixL (f15 _ _ h12) (v := .ref t) (atI_nat (by rw [List.getElem?_map, ht]; rfl)) ?_
      walk_at "rd"
      refine r_ixL hrow (v := .int (en rs (ol.getD i 0) (ol.getD j 0))) (atI_nat (by rw [List.getElem?_map, gr _ (ol_lt j hj)]; rfl)) ?_
      exact kR2 _ (Ex.refl _)
    · intro D2 G3 nD2 f3 g3
      refine kR D2 G3 f3 nD2 ?_
      rw [g3, List.map_map]
      rfl
  intro q3 ts3 H13 nq3 e13 h13 hlen3 _ _ hrow3
  let qs : List (List Int) := (List.range d).map fun i => (List.range d).map fun j => en rs (ol.getD i 0) (ol.getD j 0)
  have la13 : LA H13 ts3 qs := la_rows hlen3 hrow3
  have rwq : Rw qs d := by
    refine ⟨by simp [qs], fun r hr => ?_⟩
    obtain ⟨i, _, rfl⟩ := List.mem_map.mp hr
    simp
  obtain ⟨tq, etn⟩ := tb.perm hol rwq fun i j hi hj => by simp [en, qs, List.getD_eq_getElem?_getD, hi, hj]
  walk_at "rd"
  refine .inr ⟨false, q3, ts3, qs, d, rfl, h13, la13.ra, tq, fun a3 H14 na3 e14 pl3 => ?_⟩
  rw [etn] at pl3
  walk_at "rd"
  have due14 := e14 _ _ (e13 _ _ due12)
  refine ⟨a3, dq, tn rs d, rfl, rfl, pl3, due14, zt, lt, fun H15 e15 => ⟨_, rfl, ite_f rfl ?_⟩⟩
  have e1215 := e13.trans (e14.trans e15)
  have hd15 := e1215 _ _ hd12
  have ra15 := ra12.ex e1215
  have la15 := la12.ex e1215
  have h15 := e1215 _ _ h12
  walk_at "rd"
  refine ⟨hd, rfl, ⟨_, SqT.of hd15⟩, ?_⟩
  refine r_lcLs (n := d) (k := 5) (by have := walk_tup (K := K) (a := hd) (xs := us.map V.ref); rwa [List.length_map, lus] at this) (fun i => (rs.getD i []).map V.int) (by omega) (fun H' e => SqT.of (e _ _ hd15)) (fun _ => rfl) ?_ ?_
  · rintro i y G1 G2 hi f1 ⟨rfl, hy⟩
    refine ⟨Ex.refl _, fun R kR => ?_⟩
    obtain ⟨t, ht, rfl⟩ := ref_at hy
    obtain ⟨rr, hr, il⟩ := (ra15.ex f1).at ht
    walk_at "rd"
    refine r_list (il.imp SqL.of SqT.of) fun l G3 nl f3 g3 => ?_
    refine kR l G3 f3 nl ?_
    rw [g3, List.getD_eq_getElem?_getD, hr]
    rfl
  intro q4 ts4 H16 nq4 e16 h16 hlen4 _ _ hrow4
  have la16 := back hlen4 hrow4
  walk_at "rd"
  have e1516 := e16
  have due16 := (e15.trans e16) _ _ due14
  refine r_neRows h16 (e16 _ _ h15) la16 (la15.ex e16) ⟨_, rfl, ite_f rfl ?_⟩
  walk_at "rd"
  have z3 : Z 1000 (3 : Int) := zsm (by decide)
  refine ⟨dq, false, tn rs d, 3, rfl, rfl, due16, by omega, fun c hc => (tn_z tb d (Nat.le_refl _) c hc), z3, fun H17 e17 => ?_⟩
  walk_at "rd"
  have e1517 := e16.trans e17
  refine ⟨q, cs, rs, d, 3, rfl, rfl, e1517 _ _ h15, la15.ex e1517, ⟨tb.len, tb.row⟩, by omega, z3, fun lq lcs' H18 e18 h18 la18 => ?_⟩
  walk_at "rd"
  refine ⟨lq, lcs', lessR rs d 3, d, rfl, h18, la18, lessR_rw rs d 3, d1, by omega, less_abs tb (Nat.le_trans (by decide : (3 : Int).natAbs ≤ 2 ^ 2) (Nat.pow_le_pow_right (by decide) (by decide))), fun H19 e19 => ?_⟩
  rw [less_det, ← tn_det tb]
  refine r_eq rfl ?_
  rw [decide_eq_true rfl]
  have eall : Ex H12 H19 := e1215.trans (e16.trans (e17.trans (e18.trans e19)))
  have g0 : Bg p H H3 := (g1.trans g2).trans (Bg.of e3)
  exact k _ (((g0.trans g10).trans g12').trans (Bg.of eall)) ((b12.ex eall).le (by omega))

end K10
namespace K10
open PySem PySem.Spec PyProof.Rows L2 GS TL LamX
local macro_rules | `(tactic| walk_at "rd") => `(tactic| (repeat (first
  | with_reducible refine r_next ?_
  | with_reducible refine r_seq ?_
  | with_reducible refine r_ret ?_
  | with_reducible refine r_ifS ?_
  | with_reducible refine r_asg ?_
  | with_reducible refine r_drop ?_
  | with_reducible refine r_op ?_
  | with_reducible refine r_un ?_
  | with_reducible refine r_cbInt ?_
  | with_reducible refine r_cbAbs ?_
  | with_reducible refine r_cbLen ?_
  | with_reducible refine r_cbList ?_
  | with_reducible refine r_cbTup ?_
  | with_reducible refine r_iEnT ?_
  | with_reducible refine r_iEnL ?_
  | with_reducible refine r_zipA ?_
  | with_reducible refine r_zipX ?_
  | with_reducible refine r_augS ?_
  | with_reducible refine r_cb ?_
  | with_reducible refine r_call ?_
  | with_reducible refine r_make ?_
  | with_reducible refine r_callN0 ?_
  | with_reducible refine r_makeK0 ?_
  | with_reducible refine r_makeS ?_
  | with_reducible refine r_callS ?_
  | with_reducible refine r_cons ?_
  | with_reducible refine r_nil ?_
  | with_reducible refine r_test ?_
  | with_reducible refine r_B ?_
  | with_reducible refine r_and ?_
  | with_reducible refine r_or ?_
  | with_reducible refine r_not ?_
  | with_reducible refine r_andV ?_
  | with_reducible refine r_orV ?_
  | with_reducible refine r_notV ?_
  | with_reducible refine r_if ?_
  | with_reducible refine r_tup ?_
  | with_reducible refine r_lst ?_
  | with_reducible refine r_c ?_
  | with_reducible refine r_lc ?_
  | with_reducible refine r_chain ?_
  | with_reducible refine r_iT ?_
  | with_reducible refine r_iL ?_
  | with_reducible refine r_iR1 ?_
  | with_reducible refine r_iR2 ?_
  | with_reducible refine r_iR3 ?_
  | with_reducible refine r_asgG ?_
  | with_reducible refine r_gSub ?_
  | with_reducible refine r_for ?_
  | with_reducible refine r_smeth ?_
  | with_reducible refine r_par ?_
  | with_reducible refine r_parK ?_
  | with_reducible refine r_gCons ?_
  | with_reducible refine r_gNil ?_
  | with_reducible refine r_gName ?_
  | with_reducible refine r_intI ?_
  | with_reducible refine r_intB ?_
  | with_reducible refine r_absI ?_
  | with_reducible refine r_k ?_
  | with_reducible refine r_kV ?_
  | ((with_reducible show tVar _ _ _ _); refine r_var3 ?_ (by rfl))
  | with_reducible refine r_I0 ?_
  | with_reducible refine r_U ?_
  | with_reducible refine r_eqI ?_
  | with_reducible refine r_neI ?_
  | with_reducible refine r_F ?_
  | dsimp only)))
local macro_rules | `(tactic| walk_at "rx") => `(tactic| (repeat (first
  | with_reducible refine r_next ?_
  | with_reducible refine r_ret ?_
  | with_reducible refine r_ifS ?_
  | with_reducible refine r_asg ?_
  | with_reducible refine r_drop ?_
  | with_reducible refine r_op ?_
  | with_reducible refine r_un ?_
  | with_reducible refine r_cbInt ?_
  | with_reducible refine r_cbAbs ?_
  | with_reducible refine r_cbLen ?_
  | with_reducible refine r_cbList ?_
  | with_reducible refine r_cbTup ?_
  | with_reducible refine r_iEnT ?_
  | with_reducible refine r_iEnL ?_
  | with_reducible refine r_zipA ?_
  | with_reducible refine r_zipX ?_
  | with_reducible refine r_augS ?_
  | with_reducible refine r_cb ?_
  | with_reducible refine r_call ?_
  | with_reducible refine r_make ?_
  | with_reducible refine r_callN0 ?_
  | with_reducible refine r_makeK0 ?_
  | with_reducible refine r_makeS ?_
  | with_reducible refine r_callS ?_
  | with_reducible refine r_cons ?_
  | with_reducible refine r_nil ?_
  | with_reducible refine r_test ?_
  | with_reducible refine r_B ?_
  | with_reducible refine r_and ?_
  | with_reducible refine r_or ?_
  | with_reducible refine r_not ?_
  | with_reducible refine r_andV ?_
  | with_reducible refine r_orV ?_
  | with_reducible refine r_notV ?_
  | with_reducible refine r_if ?_
  | with_reducible refine r_tup ?_
  | with_reducible refine r_lst ?_
  | with_reducible refine r_c ?_
  | with_reducible refine r_lc ?_
  | with_reducible refine r_chain ?_
  | with_reducible refine r_iT ?_
  | with_reducible refine r_iL ?_
  | with_reducible refine r_iR1 ?_
  | with_reducible refine r_iR2 ?_
  | with_reducible refine r_iR3 ?_
  | with_reducible refine r_asgG ?_
  | with_reducible refine r_gSub ?_
  | with_reducible refine r_for ?_
  | with_reducible refine r_smeth ?_
  | with_reducible refine r_par ?_
  | with_reducible refine r_parK ?_
  | with_reducible refine r_gCons ?_
  | with_reducible refine r_gNil ?_
  | with_reducible refine r_gName ?_
  | with_reducible refine r_intI ?_
  | with_reducible refine r_intB ?_
  | with_reducible refine r_absI ?_
  | with_reducible refine r_k ?_
  | with_reducible refine r_kV ?_
  | ((with_reducible show tVar _ _ _ _); refine r_var3 ?_ (by rfl))
  | with_reducible refine r_I0 ?_
  | with_reducible refine r_U ?_
  | with_reducible refine r_eqI ?_
  | with_reducible refine r_neI ?_
  | with_reducible refine r_F ?_
  | dsimp only)))
/-! ### great tables -/
theorem cs_second (B : Dt.Mx) : ∀ k, Dt.cs B (k + 1) 1 = - Dt.S (k + 1) fun i => B i i
  | 0 => by
    show (if 1 ≤ 0 + 1 then Dt.nxt (Dt.cs B 0) _ 1 else 0) = _
    rw [if_pos (by omega)]
    unfold Dt.nxt
    show 0 + Dt.cs B 0 0 * (-(B 0 0)) + Dt.cs B 0 1 * 1 = -(0 + B 0 0)
    rw [Dt.cs_first, Dt.cs_zero B 0 1 (by omega)]
    omega
  | k + 1 => by
    show (if 1 ≤ k + 1 + 1 then Dt.nxt (Dt.cs B (k + 1)) _ 1 else 0) = _
    rw [if_pos (by omega), Dt.S_succ]
    unfold Dt.nxt
    show 0 + Dt.cs B (k + 1) 0 * (-(B (k + 1) (k + 1))) + Dt.cs B (k + 1) 1 * 1 = _
    rw [Dt.cs_first, cs_second B k]
    omega
theorem tn_at {rs : List (List Int)} {d : Nat} (t : Tab rs d) : (tn rs d)[0]? = some 1 ∧ (tn rs d)[1]? = some (- Dt.S d fun i => en rs i i) := by
  obtain ⟨m, rfl⟩ : ∃ m, d = m + 1 := ⟨d - 1, by have := t.d1; omega⟩
  rw [tn_cs t _ (Nat.le_refl _)]
  refine ⟨?_, ?_⟩
  · rw [List.getElem?_map, List.getElem?_range (by omega)]
    exact congrArg some (Dt.cs_first (en rs) (m + 1))
  · rw [List.getElem?_map, List.getElem?_range (by omega)]
    exact congrArg some (cs_second (en rs) m)
theorem sum_range (d : Nat) (f : Nat → Int) : ((List.range d).map f).sum = Dt.S d f := Dt.sumL_range f d
theorem pow1050 : (10 : Int) ^ (50 : Int).toNat = 100000000000000000000000000000000000000000000000000 := rfl
def spGreat (K : PySem.W.Frag) : Sp := sp3 fun b s kd H Q _ => ∃ (p : Addr) (n : Int) (d : Nat) (kind : Int), b = .ref p ∧ s = .int d ∧ kd = .int kind ∧ 1 ≤ d ∧ d ≤ 24 ∧ n ≤ 70000 ∧ Bag H p n ∧ ∀ H', Bg p H H' → Bag H' p (n + 4000) → Q (.bl true) H'
theorem ok__law_great_right {P : Program} {w : World} {K : PySem.W.Frag} {mg : Str → Option Value} {base : Heap} (T : Txt K mg) : ∃ fd, FnG P w K mg base (L2.CX P w) 6 (He.ga K "_law_great_right") fd ["tub", "size", "kind"] (spGreat K) ∧ Binds K fd ["tub", "size", "kind"] [] := by
  obtain ⟨fd, F⟩ := T.d__law_great_right
  obtain ⟨fd__law_number, F__law_number, B__law_number⟩ := ok__law_number (P := P) (w := w) (base := base) T
  obtain ⟨fd__law_scoop, F__law_scoop, B__law_scoop⟩ := ok__law_scoop (P := P) (w := w) (base := base) T
  obtain ⟨fd__law_worth, F__law_worth, B__law_worth⟩ := ok__law_worth (P := P) (w := w) (base := base) T
  obtain ⟨fd__law_determinant, F__law_determinant, B__law_determinant⟩ := ok__law_determinant (P := P) (w := w) (base := base) T
  obtain ⟨fd__law_less, F__law_less, B__law_less⟩ := ok__law_less (P := P) (w := w) (base := base) T
  obtain ⟨fd_table_poly, F_table_poly, B_table_poly, kb_table_poly_0⟩ := ok_table_poly (P := P) (w := w) (base := base) T
  obtain ⟨fd__law_table, F__law_table, B__law_table⟩ := ok__law_table (P := P) (w := w) (base := base) T
  refine ⟨fd, okG F sc__law_great_right sp3_len (fun cdv A outer s H vs Q E quiet hr h => ?_), F.bindsN fun _ _ _ _ _ _ us hl => match us, hl with | [_, _, _], _ => rfl⟩
  have hr__law_number : Room 3 _ := hr.mono (by decide)
  have hr__law_scoop : Room 1 _ := hr.mono (by decide)
  have hr__law_worth : Room 1 _ := hr.mono (by decide)
  have hr__law_determinant : Room 1 _ := hr.mono (by decide)
  have hr__law_less : Room 1 _ := hr.mono (by decide)
  have hr_table_poly : Room 5 _ := hr.mono (by decide)
  have hr__law_table : Room 4 _ := hr.mono (by decide)
  obtain ⟨b0, s0, k0, rfl, p, n, d, kind, rfl, rfl, rfl, d1, d24, hn, hb, k⟩ := sp3_is h
  refine ⟨_, (pss_cons (ps_set (i := 3) sc__law_great_right.nd rfl (Or.inr rfl) (pe_call F__law_table hr__law_table (by rfl) T.g__law_table T.k__law_table B__law_table .nil passL (pa_cons (pv 0) (pa_cons (pv 1) (pa_cons (pv 2) pa_nil)))))
      (pss_cons (ps_set (i := 4) sc__law_great_right.nd rfl (Or.inl rfl) (pe_call F_table_poly hr_table_poly (by rfl) T.g_table_poly T.k_table_poly B_table_poly .nil passL (pa_cons (pv 3) pa_nil)))
      (pss_cons (ps_if (PW.pt (pw_or (pt_not (pt_val (pe_callB (cr_isi rfl) (by rfl) T.b_isinstance (by decide +kernel) (pa_cons (pv 4) (pa_cons (pe_glob (v := .ref (He.ga K "Poly")) rfl T.g_Poly rfl) pa_nil))))) (pw_or (pt_cmpR op_ne (pe_callB (kx_lens rfl) (by rfl) T.b_len PySem.boot_len (pa_cons (kx_fld rfl (pv 4) rfl) pa_nil)) (pe_op op_add (pv 1) pe_int) (nomark _)) (pw_or1 (pt_cmpR op_ne (pe_ix (kx_ixt rfl) (kx_fld rfl (pv 4) rfl) pe_int (fun _ _ => rfl)) pe_int (nomark _)))))) (pss_one (ps_ret pe_bl)) pss_nil)
      (pss_cons (ps_if (pt_cmpR op_ne (pe_ix (kx_ixt rfl) (kx_fld rfl (pv 4) rfl) pe_int (fun _ _ => rfl)) (pe_un un_neg (pe_callB (kx_sum (K := K) rfl rfl) (by rfl) T.b_sum (by decide +kernel) (pa_cons (pe_lc (own := [("at", 5)]) (g := gName 5) (tt := tYes)  rfl sc__law_great_right.nd (pi_range1 (by rfl) T.b_range (pa_cons (pv 1) pa_nil)) (blkOk_by (own := [("at", 5)]) (N := ["tub", "size", "kind", "table", "poly", "at", "x", "number"]) (sc := defScope s__law_great_right) (by decide +kernel)) (fun _ _ _ _ _ => (pg_name (i := 5) sc__law_great_right.nd rfl (Or.inl rfl))) (fun _ _ _ _ _ => pts_nil) (fun _ _ _ _ _ => (pe_ix (kx_ixl rfl) (pe_ix (kx_ixl rfl) (pv 3) (pv 5) (fun _ _ => rfl)) (pv 5) (fun _ _ => rfl)))) pa_nil))) (nomark _)) (pss_one (ps_ret pe_bl)) pss_nil)
      (pss_cons (ps_for (passes_of rfl) rfl (pi_tup (pe_tup (pa_cons pe_int (pa_cons pe_int (pa_cons (pe_op op_sub (pe_op op_fdivW (pe_call F__law_number hr__law_number (by rfl) T.g__law_number T.k__law_number B__law_number .nil passL (pa_cons (pv 0) pa_nil)) (pe_op op_powW pe_int pe_int)) (pe_call F__law_scoop hr__law_scoop (by rfl) T.g__law_scoop T.k__law_scoop B__law_scoop .nil passL (pa_cons (pv 0) (pa_cons pe_int pa_nil)))) pa_nil))))) (pg_name (i := 6) sc__law_great_right.nd rfl (Or.inl rfl)) (pss_one (ps_if (pt_cmpR op_ne (pe_call F__law_worth hr__law_worth (by rfl) T.g__law_worth T.k__law_worth B__law_worth .nil passL (pa_cons (kx_fld rfl (pv 4) rfl) (pa_cons (pv 6) pa_nil))) (pe_call F__law_determinant hr__law_determinant (by rfl) T.g__law_determinant T.k__law_determinant B__law_determinant .nil passL (pa_cons (pe_call F__law_less hr__law_less (by rfl) T.g__law_less T.k__law_less B__law_less .nil passL (pa_cons (pv 3) (pa_cons (pv 6) pa_nil))) pa_nil)) (nomark _)) (pss_one (ps_ret pe_bl)) pss_nil)))
      (pss_one (ps_ret (pe_cmpR (op_eqD hr.units) (pe_lc (own := [("number", 7)]) (g := gName 7)  rfl sc__law_great_right.nd (pi_tup (kx_fld rfl (pv 4) rfl)) (blkOk_by (own := [("number", 7)]) (N := ["tub", "size", "kind", "table", "poly", "at", "x", "number"]) (sc := defScope s__law_great_right) (by decide +kernel)) (fun _ _ _ _ _ => (pg_name (i := 7) sc__law_great_right.nd rfl (Or.inl rfl))) (fun _ _ _ _ _ => (pts_one (PW.pt (pw_or (pt_val (pe_callB (cr_isi rfl) (by rfl) T.b_isinstance (by decide +kernel) (pa_cons (pv 7) (pa_cons (pe_bltn (v := .ty "bool") (by rfl) T.b_bool (by decide +kernel) rfl) pa_nil)))) (pw_or1 (pt_not (pt_val (pe_callB (cr_isi rfl) (by rfl) T.b_isinstance (by decide +kernel) (pa_cons (pv 7) (pa_cons (pe_bltn (v := .ty "int") (by rfl) T.b_int (by decide +kernel) rfl) pa_nil)))))))))) (fun _ _ _ _ _ => (pv 7))) (pe_lst pa_nil) (nomark _))))))))), ?_⟩
  walk_at "rd"
  refine ⟨p, n, d, kind, rfl, rfl, rfl, d1, by omega, by omega, hb, fun q cs rs H2 hq hnew nd nq g2 b2 h2 la2 sy => ?_⟩
  have tb := sy.tab d1 (by omega)
  have lcs : cs.length = d := by rw [la2.1]; exact tb.len
  obtain ⟨n0, n1⟩ := tn_at tb
  walk_at "rd"
  refine .inr ⟨false, q, cs, rs, d, rfl, h2, la2.ra, tb, fun a H3 na e3 pl => ?_⟩
  obtain ⟨dx, fs, hi⟩ := pl.inst
  walk_at "rd"
  refine ⟨_, _, _, _, true, rfl, .own _, ty_own T (by decide) hi, T.cc_Poly.me, ?_⟩
  refine ⟨_, rfl, ite_f rfl ?_⟩
  walk_at "rd"
  obtain ⟨_, _, _, dx1, t1, hp1, h1⟩ := pl
  have fld : ∀ {H' : Hp} {Q' : VK}, Ex H3 H' → Q' (.ref t1) H' → fldK K "numbers" Q' (.ref a) H' := fun e q => ⟨a, _, dx1, _, .ref t1, rfl, e _ _ hp1, T.cl_Poly, T.na_Poly_numbers, rfl, q⟩
  have len_t : ∀ {H' : Hp} {Q' : VK}, Ex H3 H' → Q' (.int ((d + 1 : Nat) : Int)) H' → lenK K Q' [.ref t1] H' := fun e q => ⟨t1, _, rfl, .inr (SqT.of (e _ _ h1)), by rw [List.length_map, tn_len]; exact q⟩
  refine fld (Ex.refl _) ?_
  walk_at "rd"
  refine len_t (Ex.refl _) ?_
  walk_at "rd"
  refine ite_f (by simp) ?_
  walk_at "rd"
  refine fld (Ex.refl _) ?_
  walk_at "rd"
  refine r_ixT h1 (v := .int 1) (atI_nat (j := 0) (by rw [List.getElem?_map, n0]; rfl)) ?_
  walk_at "rd"
  refine ite_f (by simp) ?_
  walk_at "rd"
  refine fld (Ex.refl _) ?_
  walk_at "rd"
  refine r_ixT h1 (v := .int (- Dt.S d fun i => en rs i i)) (atI_nat (j := 1) (by rw [List.getElem?_map, n1]; rfl)) ?_
  walk_at "rd"
  refine ⟨_, rfl, by omega, by omega, ?_⟩
  rw [Int.toNat_natCast]
  have h3q := e3 _ _ h2
  have la3 := la2.ex e3
  refine r_lcM (n := d) (k := 5) walk_range (fun i => .int (en rs i i)) (by omega) (fun _ _ => trivial) (fun _ => rfl) ?_ ?_
  · rintro i y G1 G2 hi f1 ⟨rfl, rfl⟩
    refine ⟨Ex.refl _, fun G3 f3 R kR => ?_⟩
    obtain ⟨r, hr, _, gr⟩ := tb.rw hi
    obtain ⟨t, ht, hrow⟩ := (la3.ex (f1.trans f3)).col hr
    walk_at "rd"
    refine r_ixL ((f1.trans f3) _ _ h3q) (v := .ref t) (by rw [Int.zero_add]; exact atI_nat (by rw [List.getElem?_map, ht]; rfl)) ?_
    walk_at "rd"
    refine r_ixL hrow (v := .int (en rs i i)) (by rw [Int.zero_add]; exact atI_nat (by rw [List.getElem?_map, gr i hi]; rfl)) ?_
    exact kR _ (Ex.refl _)
  intro D H4 nD e4 h4
  have h4' : H4 D = some (.lst (((List.range d).map fun i => en rs i i).map V.int)) := by rw [h4, List.map_map]; rfl
  walk_at "rd"
  refine ⟨D, _, rfl, SqL.of h4', ?_⟩
  rw [sum_range]
  walk_at "rd"
  refine ite_f (by simp) ?_
  walk_at "rd"
  have b4 := (b2.ex e3).ex e4
  have e34 := e4
  refine ⟨p, _, rfl, by omega, b4, fun c H5 zc g5 b5 => ?_⟩
  walk_at "rd"
  refine r_pow (p10 50 (by decide)) pow1050 ?_
  refine r_I (wide_div (b := 200) (by decide) (by decide) (by decide) (by decide)) ?_
  walk_at "rd"
  refine r_DrawG b5 (by omega) (by decide) (zsm (by decide)) fun r H6 r0 r1 g6 b6 => ?_
  walk_at "rd"
  generalize hy : c / 100000000000000000000000000000000000000000000000000 - r = y
  have yb : y.natAbs ≤ 2 ^ 200 := by
    have zc : c.natAbs < 3213876088517980551083924184682325205044405987565585670602752 := zc
    have : (2 : Nat) ^ 200 = 1606938044258990275541962092341162602522202993782792835301376 := rfl
    omega
  refine r_newT (sz_le (by simp)) fun t7 H7 _ e7 h7 => ?_
  have g37 : Bg p H3 H7 := (((Bg.of e4).trans g5).trans g6).trans (Bg.of e7)
  have b3 : Bag H3 p (n + 3000) := b2.ex e3
  have pl7 : H7 a = _ := g37.at_ (b3.ne hp1 fun _ _ _ z => by cases z) hp1
  have tl7 : H7 t1 = _ := g37.at_ (b3.ne h1 fun _ _ _ z => by cases z) h1
  have la7 := la3.bg b3 g37
  have q7 := g37.at_ (ls_ne b3 h3q) h3q
  have fld7 : ∀ {H' : Hp} {Q' : VK}, Ex H7 H' → Q' (.ref t1) H' → fldK K "numbers" Q' (.ref a) H' := fun e q => ⟨a, _, dx1, _, .ref t1, rfl, e _ _ pl7, T.cl_Poly, T.na_Poly_numbers, rfl, q⟩
  refine ⟨t7, rfl, ⟨_, SqT.of h7⟩, ?_⟩
  refine for_of (walk_tup (xs := [V.int 0, .int 1, .int y])) (fun i σ' H' => ∃ s6, σ' = [some (.ref p), some (.int d), some (.int kind), some (.ref q), some (.ref a), none, s6, none] ∧ Ex H7 H') ⟨_, rfl, Ex.refl _⟩ (fun i σ' H' _ ⟨s6, _, e⟩ => SqT.of (e _ _ h7)) ?_ ?_
  · rintro i x σ' H8 H8' hi ⟨s6, rfl, e8⟩ ⟨rfl, hx⟩
    obtain ⟨x, rfl, xb⟩ : ∃ x0 : Int, x = .int x0 ∧ x0.natAbs ≤ 2 ^ 200 := by
      have hm := List.mem_of_getElem? hx
      simp only [List.mem_cons, List.mem_nil_iff, or_false] at hm
      rcases hm with rfl | rfl | rfl
      · exact ⟨0, rfl, Nat.zero_le _⟩
      · exact ⟨1, rfl, Nat.pow_pos (by decide)⟩
      · exact ⟨y, rfl, yb⟩
    have zx : Z 1000 x := Nat.lt_of_le_of_lt xb (Nat.pow_lt_pow_right (by decide) (by decide))
    refine r_gName ?_
    walk_at "rd"
    refine fld7 e8 ?_
    walk_at "rd"
    refine ⟨t1, true, tn rs d, x, rfl, rfl, e8 _ _ tl7, by rw [tn_len]; omega, fun c hc => tn_z tb d (Nat.le_refl _) c hc, zx, fun H9 e9 => ?_⟩
    walk_at "rd"
    have e79 := e8.trans e9
    refine ⟨q, cs, rs, d, x, rfl, rfl, e79 _ _ q7, la7.ex e79, ⟨tb.len, tb.row⟩, by omega, zx, fun lq lcs' H10 e10 h10 la10 => ?_⟩
    walk_at "rd"
    refine ⟨lq, lcs', lessR rs d x, d, rfl, h10, la10, lessR_rw rs d x, d1, by omega, less_abs tb xb, fun H11 e11 => ?_⟩
    rw [less_det, ← tn_det tb]
    refine r_ne rfl ?_
    refine ⟨_, rfl, ite_f (by simp) ?_⟩
    walk_at "rd"
    exact ⟨_, rfl, e79.trans (e10.trans e11)⟩
  · rintro σ' H8 ⟨s6, rfl, e8⟩
    walk_at "rd"
    refine fld7 e8 ⟨t1, rfl, ⟨_, SqT.of (e8 _ _ tl7)⟩, ?_⟩
    have ti : PySem.W.kitOne K (.type "int") (.type "int") = some true := kit_ty (K := K) (kit_all "int" (by decide) "int" (by decide))
    have tbo : PySem.W.kitOne K (.type "int") (.type "bool") = some false := kit_ty (K := K) (kit_all "int" (by decide) "bool" (by decide))
    refine r_lcF (n := (tn rs d).length) (k := 7) (by have := walk_tup (K := K) (a := t1) (xs := (tn rs d).map V.int); rwa [List.length_map] at this) (fun _ => false) (fun _ => .non) (by rw [tn_len]; omega) (fun H' e => SqT.of (e _ _ (e8 _ _ tl7))) (fun _ => rfl) ?_ (fun _ _ _ _ z => by cases z) ?_
    · rintro i z G1 G2 hi f1 ⟨rfl, hz⟩
      refine ⟨Ex.refl _, fun R kR => ?_⟩
      obtain ⟨c, hc, rfl⟩ := int_at hz
      walk_at "rd"
      refine ⟨_, _, _, _, false, rfl, .ty "bool", .base (.int c), tbo, ?_⟩
      refine ⟨_, rfl, ite_f rfl ?_⟩
      walk_at "rd"
      refine ⟨_, _, _, _, true, rfl, .ty "int", .base (.int c), ti, ?_⟩
      exact ⟨_, rfl, kR _ (Ex.refl _)⟩
    · intro D2 H9 nD2 e9 h9
      have hl' : H9 D2 = some (.lst (([] : List Int).map V.int)) := by
        rw [h9]
        unfold given
        rw [List.filter_eq_nil_iff.mpr (fun _ _ => by simp)]
        rfl
      walk_at "rd"
      refine r_newL (xs := []) (sz_le (by simp)) fun q2' H10 _ e10 h10 => ?_
      refine r_eqIntsL (ys := []) (e10 _ _ hl') h10 ?_
      have ex := e8.trans (e9.trans e10)
      exact k _ (((g2.trans (Bg.of e3)).trans g37).trans (Bg.of ex)) (((b6.ex e7).ex ex).le (by omega))

end K10
namespace K10
open PySem PySem.Spec PyProof.Rows L2 GS TL LamX
local macro_rules | `(tactic| walk_at "rd") => `(tactic| (repeat (first
  | with_reducible refine r_next ?_
  | with_reducible refine r_seq ?_
  | with_reducible refine r_ret ?_
  | with_reducible refine r_ifS ?_
  | with_reducible refine r_asg ?_
  | with_reducible refine r_drop ?_
  | with_reducible refine r_op ?_
  | with_reducible refine r_un ?_
  | with_reducible refine r_cbInt ?_
  | with_reducible refine r_cbAbs ?_
  | with_reducible refine r_cbLen ?_
  | with_reducible refine r_cbList ?_
  | with_reducible refine r_cbTup ?_
  | with_reducible refine r_iEnT ?_
  | with_reducible refine r_iEnL ?_
  | with_reducible refine r_zipA ?_
  | with_reducible refine r_zipX ?_
  | with_reducible refine r_augS ?_
  | with_reducible refine r_cb ?_
  | with_reducible refine r_call ?_
  | with_reducible refine r_make ?_
  | with_reducible refine r_callN0 ?_
  | with_reducible refine r_makeK0 ?_
  | with_reducible refine r_makeS ?_
  | with_reducible refine r_callS ?_
  | with_reducible refine r_cons ?_
  | with_reducible refine r_nil ?_
  | with_reducible refine r_test ?_
  | with_reducible refine r_B ?_
  | with_reducible refine r_and ?_
  | with_reducible refine r_or ?_
  | with_reducible refine r_not ?_
  | with_reducible refine r_andV ?_
  | with_reducible refine r_orV ?_
  | with_reducible refine r_notV ?_
  | with_reducible refine r_if ?_
  | with_reducible refine r_tup ?_
  | with_reducible refine r_lst ?_
  | with_reducible refine r_c ?_
  | with_reducible refine r_lc ?_
  | with_reducible refine r_chain ?_
  | with_reducible refine r_iT ?_
  | with_reducible refine r_iL ?_
  | with_reducible refine r_iR1 ?_
  | with_reducible refine r_iR2 ?_
  | with_reducible refine r_iR3 ?_
  | with_reducible refine r_asgG ?_
  | with_reducible refine r_gSub ?_
  | with_reducible refine r_for ?_
  | with_reducible refine r_smeth ?_
  | with_reducible refine r_par ?_
  | with_reducible refine r_parK ?_
  | with_reducible refine r_gCons ?_
  | with_reducible refine r_gNil ?_
  | with_reducible refine r_gName ?_
  | with_reducible refine r_intI ?_
  | with_reducible refine r_intB ?_
  | with_reducible refine r_absI ?_
  | with_reducible refine r_k ?_
  | with_reducible refine r_kV ?_
  | ((with_reducible show tVar _ _ _ _); refine r_var3 ?_ (by rfl))
  | with_reducible refine r_I0 ?_
  | with_reducible refine r_U ?_
  | with_reducible refine r_eqI ?_
  | with_reducible refine r_neI ?_
  | with_reducible refine r_F ?_
  | dsimp only)))
local macro_rules | `(tactic| walk_at "rx") => `(tactic| (repeat (first
  | with_reducible refine r_next ?_
  | with_reducible refine r_ret ?_
  | with_reducible refine r_ifS ?_
  | with_reducible refine r_asg ?_
  | with_reducible refine r_drop ?_
  | with_reducible refine r_op ?_
  | with_reducible refine r_un ?_
  | with_reducible refine r_cbInt ?_
  | with_reducible refine r_cbAbs ?_
  | with_reducible refine r_cbLen ?_
  | with_reducible refine r_cbList ?_
  | with_reducible refine r_cbTup ?_
  | with_reducible refine r_iEnT ?_
  | with_reducible refine r_iEnL ?_
  | with_reducible refine r_zipA ?_
  | with_reducible refine r_zipX ?_
  | with_reducible refine r_augS ?_
  | with_reducible refine r_cb ?_
  | with_reducible refine r_call ?_
  | with_reducible refine r_make ?_
  | with_reducible refine r_callN0 ?_
  | with_reducible refine r_makeK0 ?_
  | with_reducible refine r_makeS ?_
  | with_reducible refine r_callS ?_
  | with_reducible refine r_cons ?_
  | with_reducible refine r_nil ?_
  | with_reducible refine r_test ?_
  | with_reducible refine r_B ?_
  | with_reducible refine r_and ?_
  | with_reducible refine r_or ?_
  | with_reducible refine r_not ?_
  | with_reducible refine r_andV ?_
  | with_reducible refine r_orV ?_
  | with_reducible refine r_notV ?_
  | with_reducible refine r_if ?_
  | with_reducible refine r_tup ?_
  | with_reducible refine r_lst ?_
  | with_reducible refine r_c ?_
  | with_reducible refine r_lc ?_
  | with_reducible refine r_chain ?_
  | with_reducible refine r_iT ?_
  | with_reducible refine r_iL ?_
  | with_reducible refine r_iR1 ?_
  | with_reducible refine r_iR2 ?_
  | with_reducible refine r_iR3 ?_
  | with_reducible refine r_asgG ?_
  | with_reducible refine r_gSub ?_
  | with_reducible refine r_for ?_
  | with_reducible refine r_smeth ?_
  | with_reducible refine r_par ?_
  | with_reducible refine r_parK ?_
  | with_reducible refine r_gCons ?_
  | with_reducible refine r_gNil ?_
  | with_reducible refine r_gName ?_
  | with_reducible refine r_intI ?_
  | with_reducible refine r_intB ?_
  | with_reducible refine r_absI ?_
  | with_reducible refine r_k ?_
  | with_reducible refine r_kV ?_
  | ((with_reducible show tVar _ _ _ _); refine r_var3 ?_ (by rfl))
  | with_reducible refine r_I0 ?_
  | with_reducible refine r_U ?_
  | with_reducible refine r_eqI ?_
  | with_reducible refine r_neI ?_
  | with_reducible refine r_F ?_
  | dsimp only)))
/-! ### tables beside one another -/
def besR (rs qs : List (List Int)) (n m : Nat) : List (List Int) := (rs.map fun r => r ++ GM.zr m) ++ qs.map fun r => GM.zr n ++ r
theorem bes_en {rs qs : List (List Int)} {n m : Nat} (t : Rw rs n) (u : Rw qs m) (i j : Nat) (hi : i < n + m) (hj : j < n + m) :
    en (besR rs qs n m) i j = if i < n then (if j < n then en rs i j else 0) else if j < n then 0 else en qs (i - n) (j - n) := by
  have z : ∀ k l, (GM.zr k).getD l 0 = 0 := fun k l => by
    unfold GM.zr
    by_cases h : l < k <;> simp [h]
  unfold en besR
  by_cases h : i < n
  · obtain ⟨r, hr, lr, gr⟩ := t.get h
    rw [if_pos h, show ((rs.map fun r => r ++ GM.zr m) ++ qs.map fun r => GM.zr n ++ r).getD i [] = r ++ GM.zr m by
      rw [List.getD_eq_getElem?_getD, List.getElem?_append_left (by simp [t.len]; exact h), List.getElem?_map, hr]; rfl]
    rw [Dt.getD_app, lr, show rs.getD i [] = r by rw [List.getD_eq_getElem?_getD, hr]; rfl]
    by_cases c : j < n
    · rw [if_pos c, if_pos c]
    · rw [if_neg c, if_neg c, z]
  · obtain ⟨r, hr, lr, gr⟩ := u.get (i := i - n) (by omega)
    rw [if_neg h, show ((rs.map fun r => r ++ GM.zr m) ++ qs.map fun r => GM.zr n ++ r).getD i [] = GM.zr n ++ r by
      rw [List.getD_eq_getElem?_getD, List.getElem?_append_right (by simp [t.len]; omega), List.getElem?_map]
      simp only [List.length_map, t.len]
      rw [hr]; rfl]
    rw [Dt.getD_app, zr_len, show qs.getD (i - n) [] = r by rw [List.getD_eq_getElem?_getD, hr]; rfl]
    by_cases c : j < n
    · rw [if_pos c, if_pos c, z]
    · rw [if_neg c, if_neg c]
theorem bes_rw {rs qs : List (List Int)} {n m : Nat} (t : Rw rs n) (u : Rw qs m) : Rw (besR rs qs n m) (n + m) := by
  refine ⟨by simp [besR, t.len, u.len], fun r hr => ?_⟩
  rcases List.mem_append.mp hr with h | h
  · obtain ⟨q, hq, rfl⟩ := List.mem_map.mp h
    rw [List.length_append, t.row q hq, zr_len]
  · obtain ⟨q, hq, rfl⟩ := List.mem_map.mp h
    rw [List.length_append, u.row q hq, zr_len]
theorem bes_tab {rs qs : List (List Int)} {n m : Nat} (t : Tab rs n) (u : Tab qs m) (h : n + m ≤ 24) : Tab (besR rs qs n m) (n + m) := by
  have tr : Rw rs n := ⟨t.len, t.row⟩
  have ur : Rw qs m := ⟨u.len, u.row⟩
  have br := bes_rw tr ur
  have n1 := t.d1
  refine ⟨br.len, by omega, h, br.row, fun i j hi hj => ?_, fun r hr c hc => ?_⟩
  · rw [bes_en tr ur i j hi hj, bes_en tr ur j i hj hi]
    by_cases c1 : i < n <;> by_cases c2 : j < n
    · rw [if_pos c1, if_pos c2, if_pos c2, if_pos c1]; exact t.sym i j c1 c2
    · rw [if_pos c1, if_neg c2, if_neg c2, if_pos c1]
    · rw [if_neg c1, if_pos c2, if_pos c2, if_neg c1]
    · rw [if_neg c1, if_neg c2, if_neg c2, if_neg c1]; exact u.sym _ _ (by omega) (by omega)
  · have z0 : Z 201 (0 : Int) := Nat.pow_pos (by decide)
    have zz : ∀ k, ∀ c ∈ GM.zr k, Z 201 c := fun k c hc => by rw [List.eq_of_mem_replicate hc]; exact z0
    rcases List.mem_append.mp hr with h | h
    · obtain ⟨q, hq, rfl⟩ := List.mem_map.mp h
      rcases List.mem_append.mp hc with z | z
      · exact t.z q hq c z
      · exact zz m c z
    · obtain ⟨q, hq, rfl⟩ := List.mem_map.mp h
      rcases List.mem_append.mp hc with z | z
      · exact zz n c z
      · exact u.z q hq c z
theorem tn_ev {rs : List (List Int)} {d : Nat} (t : Tab rs d) (x : Int) : Dt.evL (tn rs d) x = Dt.det d (Dt.lessM (fun i j => x * en rs i j) 1) := by
  rw [tn_cs t d (Nat.le_refl _), Dt.cs_ev]
theorem bes_tn {rs qs : List (List Int)} {n m : Nat} (t : Tab rs n) (u : Tab qs m) (h : n + m ≤ 24) (x : Int) : Dt.evL (tn (besR rs qs n m) (n + m)) x = Dt.evL (tn rs n) x * Dt.evL (tn qs m) x := by
  have tr : Rw rs n := ⟨t.len, t.row⟩
  have ur : Rw qs m := ⟨u.len, u.row⟩
  rw [tn_ev (bes_tab t u h), tn_ev t, tn_ev u, Dt.det_block n m _ fun i j hi h1 h2 => ?_]
  · congr 1
    · refine Dt.det_congr fun i j hi hj => ?_
      show (if i = j then (1 : Int) else 0) - x * en (besR rs qs n m) i j = (if i = j then 1 else 0) - x * en rs i j
      rw [bes_en tr ur i j (by omega) (by omega), if_pos hi, if_pos hj]
    · refine Dt.det_congr fun i j hi hj => ?_
      show (if n + i = n + j then (1 : Int) else 0) - x * en (besR rs qs n m) (n + i) (n + j) = (if i = j then 1 else 0) - x * en qs i j
      rw [bes_en tr ur (n + i) (n + j) (by omega) (by omega), if_neg (show ¬ n + i < n by omega), if_neg (show ¬ n + j < n by omega), show n + i - n = i by omega, show n + j - n = j by omega]
      by_cases c : i = j
      · rw [if_pos c, if_pos (by omega)]
      · rw [if_neg c, if_neg (by omega)]
  · show (if i = j then (1 : Int) else 0) - x * en (besR rs qs n m) i j = 0
    rw [bes_en tr ur i j (by omega) (by omega), if_pos hi, if_neg (show ¬ j < n by omega), if_neg (show ¬ i = j by omega)]
    omega
theorem range_rows {d : Nat} {rs : List (List Int)} (h : rs.length = d) (g : List Int → List Int) : (List.range d).map (fun i => g (rs.getD i [])) = rs.map g := by
  refine List.ext_getElem (by simp [h]) fun i h1 h2 => ?_
  simp at h1
  simp [h, h1]
theorem LA.col' {H : Hp} {ts : List Addr} {rs : List (List Int)} {i : Nat} {y : V} (h : LA H ts rs) (hy : (ts.map V.ref)[i]? = some y) : ∃ t, y = .ref t ∧ H t = some (.lst ((rs.getD i []).map V.int)) := by
  obtain ⟨t, ht, rfl⟩ := ref_at hy
  obtain ⟨r, hr, hrow⟩ := h.at ht
  exact ⟨t, rfl, by rw [List.getD_eq_getElem?_getD, hr]; exact hrow⟩
theorem LA.rev {H : Hp} {ts : List Addr} {rs : List (List Int)} (h : LA H ts rs) : LA H ts.reverse rs.reverse := by
  refine ⟨by simp [h.1], fun j t r h1 h2 => ?_⟩
  have hj : j < ts.length := by simpa using (List.getElem?_eq_some_iff.mp h1).1
  rw [List.getElem?_reverse hj] at h1
  rw [List.getElem?_reverse (by rw [← h.1]; exact hj)] at h2
  rw [← h.1] at h2
  exact h.2 _ t r h1 h2
def revR (rs : List (List Int)) : List (List Int) := rs.reverse.map List.reverse
theorem rev_en {rs : List (List Int)} {d : Nat} (t : Rw rs d) (i j : Nat) (hi : i < d) (hj : j < d) : en (revR rs) i j = en rs (((List.range d).reverse).getD i 0) (((List.range d).reverse).getD j 0) := by
  have rg : ∀ i, i < d → ((List.range d).reverse).getD i 0 = d - 1 - i := fun i hi => by
    rw [List.getD_eq_getElem?_getD, List.getElem?_reverse (by simp; exact hi)]
    simp only [List.length_range]
    rw [List.getElem?_range (by omega)]
    rfl
  rw [rg i hi, rg j hj]
  obtain ⟨r, hr, lr, gr⟩ := t.get (i := d - 1 - i) (by omega)
  have e1 : (revR rs).getD i [] = r.reverse := by
    unfold revR
    rw [List.getD_eq_getElem?_getD, List.getElem?_map, List.getElem?_reverse (by rw [t.len]; exact hi), t.len, hr]
    rfl
  have e2 : rs.getD (d - 1 - i) [] = r := by rw [List.getD_eq_getElem?_getD, hr]; rfl
  unfold en
  rw [e1, e2, List.getD_eq_getElem?_getD, List.getElem?_reverse (by omega), lr]
  rfl
theorem rev_rw {rs : List (List Int)} {d : Nat} (t : Rw rs d) : Rw (revR rs) d := by
  refine ⟨by simp [revR, t.len], fun r hr => ?_⟩
  obtain ⟨q, hq, rfl⟩ := List.mem_map.mp hr
  rw [List.length_reverse, t.row q (List.mem_reverse.mp hq)]
def spBes (K : PySem.W.Frag) : Sp := sp3 fun b s t H Q _ => ∃ (p : Addr) (k : Int) (n m : Nat), b = .ref p ∧ s = .int n ∧ t = .int m ∧ 1 ≤ n ∧ n ≤ 4 ∧ 1 ≤ m ∧ m ≤ 4 ∧ k ≤ 60000 ∧ Bag H p k ∧ ∀ H', Bg p H H' → Bag H' p (k + 7000) → Q (.bl true) H'
theorem ok__law_beside_right {P : Program} {w : World} {K : PySem.W.Frag} {mg : Str → Option Value} {base : Heap} (T : Txt K mg) : ∃ fd, FnG P w K mg base (L2.CX P w) 6 (He.ga K "_law_beside_right") fd ["tub", "one", "other"] (spBes K) ∧ Binds K fd ["tub", "one", "other"] [] := by
  obtain ⟨fd, F⟩ := T.d__law_beside_right
  obtain ⟨fd__law_is_poly, F__law_is_poly, B__law_is_poly⟩ := ok__law_is_poly (P := P) (w := w) (base := base) T
  obtain ⟨fd_table_poly, F_table_poly, B_table_poly, kb_table_poly_0⟩ := ok_table_poly (P := P) (w := w) (base := base) T
  obtain ⟨fd__law_multiplied, F__law_multiplied, B__law_multiplied⟩ := ok__law_multiplied (P := P) (w := w) (base := base) T
  obtain ⟨fd__law_table, F__law_table, B__law_table⟩ := ok__law_table (P := P) (w := w) (base := base) T
  obtain ⟨fd__law_scoop, F__law_scoop, B__law_scoop⟩ := ok__law_scoop (P := P) (w := w) (base := base) T
  refine ⟨fd, okG F sc__law_beside_right sp3_len (fun cdv A outer s H vs Q E quiet hr h => ?_), F.bindsN fun _ _ _ _ _ _ us hl => match us, hl with | [_, _, _], _ => rfl⟩
  have hr__law_is_poly : Room 1 _ := hr.mono (by decide)
  have hr_table_poly : Room 5 _ := hr.mono (by decide)
  have hr__law_multiplied : Room 1 _ := hr.mono (by decide)
  have hr__law_table : Room 4 _ := hr.mono (by decide)
  have hr__law_scoop : Room 1 _ := hr.mono (by decide)
  obtain ⟨b0, s0, t0, rfl, p, k0, n, m, rfl, rfl, rfl, n1, n4, m1, m4, hn, hb, k⟩ := sp3_is h
  refine ⟨_, (pss_cons (ps_par (i := 3) (j := 4) (by rfl) sc__law_beside_right.nd rfl rfl (by decide) rfl rfl (pa_cons (pe_call F__law_table hr__law_table (by rfl) T.g__law_table T.k__law_table B__law_table .nil passL (pa_cons (pv 0) (pa_cons (pv 1) (pa_cons (pe_call F__law_scoop hr__law_scoop (by rfl) T.g__law_scoop T.k__law_scoop B__law_scoop .nil passL (pa_cons (pv 0) (pa_cons pe_int pa_nil))) pa_nil)))) (pa_cons (pe_call F__law_table hr__law_table (by rfl) T.g__law_table T.k__law_table B__law_table .nil passL (pa_cons (pv 0) (pa_cons (pv 2) (pa_cons (pe_call F__law_scoop hr__law_scoop (by rfl) T.g__law_scoop T.k__law_scoop B__law_scoop .nil passL (pa_cons (pv 0) (pa_cons pe_int pa_nil))) pa_nil)))) pa_nil)) (by rfl))
      (pss_cons (ps_set (i := 5) sc__law_beside_right.nd rfl (Or.inl rfl) (pe_op op_cat (pe_lc (own := [("row", 6)]) (g := gName 6) (tt := tYes)  rfl sc__law_beside_right.nd (pi_list (pv 3)) (blkOk_by (own := [("row", 6)]) (N := ["tub", "one", "other", "first", "second", "both", "row", "due"]) (sc := defScope s__law_beside_right) (by decide +kernel)) (fun _ _ _ _ _ => (pg_name (i := 6) sc__law_beside_right.nd rfl (Or.inl rfl))) (fun _ _ _ _ _ => pts_nil) (fun _ _ _ _ _ => (pe_op op_cat (pv 6) (pe_op op_rep (pe_lst (pa_cons pe_int pa_nil)) (pv 2))))) (pe_lc (own := [("row", 6)]) (g := gName 6) (tt := tYes)  rfl sc__law_beside_right.nd (pi_list (pv 4)) (blkOk_by (own := [("row", 6)]) (N := ["tub", "one", "other", "first", "second", "both", "row", "due"]) (sc := defScope s__law_beside_right) (by decide +kernel)) (fun _ _ _ _ _ => (pg_name (i := 6) sc__law_beside_right.nd rfl (Or.inl rfl))) (fun _ _ _ _ _ => pts_nil) (fun _ _ _ _ _ => (pe_op op_cat (pe_op op_rep (pe_lst (pa_cons pe_int pa_nil)) (pv 1)) (pv 6))))))
      (pss_cons (ps_set (i := 7) sc__law_beside_right.nd rfl (Or.inl rfl) (pe_call F__law_multiplied hr__law_multiplied (by rfl) T.g__law_multiplied T.k__law_multiplied B__law_multiplied .nil passL (pa_cons (pe_callTy call_list_of (by rfl) T.b_list (by decide +kernel) (pa_cons (kx_fld rfl (pe_call F_table_poly hr_table_poly (by rfl) T.g_table_poly T.k_table_poly B_table_poly .nil passL (pa_cons (pv 3) pa_nil)) rfl) pa_nil)) (pa_cons (pe_callTy call_list_of (by rfl) T.b_list (by decide +kernel) (pa_cons (kx_fld rfl (pe_call F_table_poly hr_table_poly (by rfl) T.g_table_poly T.k_table_poly B_table_poly .nil passL (pa_cons (pv 4) pa_nil)) rfl) pa_nil)) pa_nil))))
      (pss_one (ps_ret (pe_and (pe_callG F__law_is_poly quiet hr__law_is_poly (by rfl) T.g__law_is_poly T.k__law_is_poly B__law_is_poly .nil passL (pa_cons (pe_call F_table_poly hr_table_poly (by rfl) T.g_table_poly T.k_table_poly B_table_poly .nil passL (pa_cons (pv 5) pa_nil)) (pa_cons (pv 7) pa_nil))) (pe_one (pe_callG F__law_is_poly quiet hr__law_is_poly (by rfl) T.g__law_is_poly T.k__law_is_poly B__law_is_poly .nil passL (pa_cons (pe_call F_table_poly hr_table_poly (by rfl) T.g_table_poly T.k_table_poly B_table_poly .nil passL (pa_cons (pe_lc (own := [("row", 6)]) (g := gName 6) (tt := tYes)  rfl sc__law_beside_right.nd (pi_list (pe_revL (pv 5))) (blkOk_by (own := [("row", 6)]) (N := ["tub", "one", "other", "first", "second", "both", "row", "due"]) (sc := defScope s__law_beside_right) (by decide +kernel)) (fun _ _ _ _ _ => (pg_name (i := 6) sc__law_beside_right.nd rfl (Or.inl rfl))) (fun _ _ _ _ _ => pts_nil) (fun _ _ _ _ _ => (kx_revL (K := K) rfl (pv 6)))) pa_nil)) (pa_cons (pv 7) pa_nil)))))))))), ?_⟩
  walk_at "rd"
  refine r_DrawG hb (by omega) (by decide) (zsm (by decide)) fun kd1 H1 _ _ g1 b1 => ?_
  walk_at "rd"
  refine ⟨p, _, n, kd1, rfl, rfl, rfl, n1, by omega, by omega, b1, fun q cs rs H2 hq _ nd nq g2 b2 h2 la2 sy => ?_⟩
  have ta := sy.tab n1 (by omega)
  walk_at "rd"
  refine r_DrawG b2 (by omega) (by decide) (zsm (by decide)) fun kd2 H3 _ _ g3 b3 => ?_
  walk_at "rd"
  refine ⟨p, _, m, kd2, rfl, rfl, rfl, m1, by omega, by omega, b3, fun q' cs' qs H4 hq' _ nd' nq' g4 b4 h4 la4 sy' => ?_⟩
  have tb := sy'.tab m1 (by omega)
  have g24 := g3.trans g4
  have la2' := la2.bg b2 g24
  have h2' := g24.at_ (ls_ne b2 h2) h2
  walk_at "rd"
  have lcs : cs.length = n := by rw [la2'.1]; exact ta.len
  have lcs' : cs'.length = m := by rw [la4.1]; exact tb.len
  have rlen : ∀ i, i < n → (rs.getD i []).length = n := fun i hi => by
    obtain ⟨r, hr, lr, _⟩ := ta.rw hi
    rw [List.getD_eq_getElem?_getD, hr]
    exact lr
  have qlen : ∀ i, i < m → (qs.getD i []).length = m := fun i hi => by
    obtain ⟨r, hr, lr, _⟩ := tb.rw hi
    rw [List.getD_eq_getElem?_getD, hr]
    exact lr
  refine ⟨q, rfl, ⟨_, SqL.of h2'⟩, ?_⟩
  refine r_lcLs (n := n) (k := 6) (by have := walk_list (K := K) (a := q) (xs := cs.map V.ref); rwa [List.length_map, lcs] at this) (fun i => (rs.getD i [] ++ GM.zr m).map V.int) (by omega) (fun H' e => SqL.of (e _ _ h2')) (fun _ => rfl) ?_ ?_
  · rintro i y G1 G2 hi f1 ⟨rfl, hy⟩
    refine ⟨Ex.refl _, fun R kR => ?_⟩
    obtain ⟨t, rfl, hrow⟩ := (la2'.ex f1).col' hy
    walk_at "rd"
    refine r_newL (sz_le (by simp)) fun z1 G3 _ f3 g3 => ?_
    walk_at "rd"
    refine r_zeros g3 rfl (by omega) fun z2 G4 _ f4 g4 => ?_
    refine r_cat (f4 _ _ (f3 _ _ hrow)) g4 (by rw [List.length_map, List.length_map, zr_len, rlen i hi]; omega) fun z3 G5 nz3 f5 g5 => ?_
    refine kR z3 G5 (f3.trans (f4.trans f5)) ((f3.trans f4).free nz3) ?_
    rw [g5, List.map_append]
  intro q5 ts5 H5 nq5 e5 h5 hlen5 _ _ hrow5
  have la5 : LA H5 ts5 (rs.map fun r => r ++ GM.zr m) := by
    rw [← range_rows ta.len]
    exact la_rows hlen5 hrow5
  walk_at "rd"
  refine ⟨q', rfl, ⟨_, SqL.of (e5 _ _ h4)⟩, ?_⟩
  have la4' := la4.ex e5
  have h4' := e5 _ _ h4
  refine r_lcLs (n := m) (k := 6) (by have := walk_list (K := K) (a := q') (xs := cs'.map V.ref); rwa [List.length_map, lcs'] at this) (fun i => (GM.zr n ++ qs.getD i []).map V.int) (by omega) (fun H' e => SqL.of (e _ _ h4')) (fun _ => rfl) ?_ ?_
  · rintro i y G1 G2 hi f1 ⟨rfl, hy⟩
    refine ⟨Ex.refl _, fun R kR => ?_⟩
    obtain ⟨t, rfl, hrow⟩ := (la4'.ex f1).col' hy
    walk_at "rd"
    refine r_newL (sz_le (by simp)) fun z1 G3 _ f3 g3 => ?_
    walk_at "rd"
    refine r_zeros g3 rfl (by omega) fun z2 G4 _ f4 g4 => ?_
    walk_at "rd"
    refine r_cat g4 (f4 _ _ (f3 _ _ hrow)) (by rw [List.length_map, List.length_map, zr_len, qlen i hi]; omega) fun z3 G5 nz3 f5 g5 => ?_
    refine kR z3 G5 (f3.trans (f4.trans f5)) ((f3.trans f4).free nz3) ?_
    rw [g5, List.map_append]
  intro q6 ts6 H6 nq6 e6 h6 hlen6 _ _ hrow6
  have la6 : LA H6 ts6 (qs.map fun r => GM.zr n ++ r) := by
    rw [← range_rows tb.len (fun r => GM.zr n ++ r)]
    exact la_rows hlen6 hrow6
  refine r_cat (e6 _ _ h5) h6 (by simp [hlen5, hlen6]; omega) fun q7 H7 nq7 e7 h7 => ?_
  rw [← List.map_append] at h7
  have la7 : LA H7 (ts5 ++ ts6) (besR rs qs n m) := ((la5.ex e6).app la6).ex e7
  have tz := bes_tab ta tb (by omega)
  have zt := tn_lowz tz (by omega)
  have e47 := e5.trans (e6.trans e7)
  walk_at "rd"
  refine .inr ⟨false, q, cs, rs, n, rfl, e47 _ _ h2', (la2'.ex e47).ra, ta, fun a8 H8 _ e8 pl8 => ?_⟩
  walk_at "rd"
  obtain ⟨_, _, _, dx8, t8, hp8, h8⟩ := pl8
  refine ⟨a8, _, dx8, _, .ref t8, rfl, hp8, T.cl_Poly, T.na_Poly_numbers, rfl, ?_⟩
  walk_at "rd"
  refine r_list (.inr (SqT.of h8)) fun l8 H9 _ e9 h9 => ?_
  walk_at "rd"
  have e49 := e47.trans (e8.trans e9)
  refine .inr ⟨false, q', cs', qs, m, rfl, e49 _ _ h4, (la4.ex e49).ra, tb, fun a10 H10 _ e10 pl10 => ?_⟩
  walk_at "rd"
  obtain ⟨_, _, _, dx10, t10, hp10, h10⟩ := pl10
  refine ⟨a10, _, dx10, _, .ref t10, rfl, hp10, T.cl_Poly, T.na_Poly_numbers, rfl, ?_⟩
  walk_at "rd"
  refine r_list (.inr (SqT.of h10)) fun l10 H11 _ e11 h11 => ?_
  walk_at "rd"
  refine ⟨l8, l10, tn rs n, tn qs m, 6000, 6000, rfl, rfl, (e10.trans e11) _ _ h9, h11, by rw [tn_len]; omega, by rw [tn_len]; omega, by rw [tn_len]; omega, by rw [tn_len]; omega, by omega, by omega, by omega, by omega, tn_z ta n (Nat.le_refl _), tn_z tb m (Nat.le_refl _), fun dq r H12 _ e12 h12 lr er _ => ?_⟩
  have err : r = tn (besR rs qs n m) (n + m) := Dt.evL_same (by rw [lr, tn_len, tn_len, tn_len]; omega) fun x => by rw [er x, bes_tn ta tb (by omega)]
  subst err
  have e712 := e8.trans (e9.trans (e10.trans (e11.trans e12)))
  have h7' := e712 _ _ h7
  have la12 := la7.ex e712
  walk_at "rd"
  refine .inr ⟨false, q7, ts5 ++ ts6, _, n + m, rfl, h7', la12.ra, tz, fun a13 H13 _ e13 pl13 => ?_⟩
  walk_at "rd"
  refine ⟨a13, dq, _, rfl, rfl, pl13, e13 _ _ h12, zt, by rw [tn_len]; omega, fun H14 e14 => ⟨_, rfl, ite_t rfl ?_⟩⟩
  have e1214 := e13.trans e14
  have h14 := e1214 _ _ h7'
  have la14 := la12.ex e1214
  walk_at "rd"
  have lts : (ts5 ++ ts6).length = n + m := by rw [la14.1]; exact tz.len
  refine ⟨_, rfl, q7, _, rfl, SqL.of h14, fun q15 nq15 => ?_⟩
  have e15 : Ex H14 (upd H14 q15 (.lst (((ts5 ++ ts6).map V.ref).reverse))) := Ex.new nq15
  have h15 : (upd H14 q15 (.lst (((ts5 ++ ts6).map V.ref).reverse))) q15 = some (.lst (((ts5 ++ ts6).reverse).map V.ref)) := by rw [upd_same, List.map_reverse]
  generalize upd H14 q15 (.lst (((ts5 ++ ts6).map V.ref).reverse)) = H15 at e15 h15 ⊢
  have la15 := (la14.ex e15).rev
  have tzr : Rw (besR rs qs n m) (n + m) := ⟨tz.len, tz.row⟩
  refine ⟨q15, rfl, ⟨_, SqL.of h15⟩, ?_⟩
  refine r_lcLs (n := n + m) (k := 6) (by have := walk_list (K := K) (a := q15) (xs := ((ts5 ++ ts6).reverse).map V.ref); rwa [List.length_map, List.length_reverse, lts] at this) (fun i => (((besR rs qs n m).reverse.getD i []).reverse).map V.int) (by omega) (fun H' e => SqL.of (e _ _ h15)) (fun _ => rfl) ?_ ?_
  · rintro i y G1 G2 hi f1 ⟨rfl, hy⟩
    refine ⟨Ex.refl _, fun R kR => ?_⟩
    obtain ⟨t, rfl, hrow⟩ := (la15.ex f1).col' hy
    walk_at "rd"
    refine ⟨_, rfl, t, _, rfl, SqL.of hrow, fun z nz => ?_⟩
    refine kR z _ (Ex.new nz) nz ?_
    rw [upd_same, List.map_reverse]
  intro q16 ts16 H16 nq16 e16 h16 hlen16 _ _ hrow16
  have la16 : LA H16 ts16 (revR (besR rs qs n m)) := by
    have := la_rows (n := n + m) (f := fun i => ((besR rs qs n m).reverse.getD i []).reverse) hlen16 hrow16
    rw [range_rows (rs := (besR rs qs n m).reverse) (by rw [List.length_reverse]; exact tz.len) List.reverse] at this
    exact this
  obtain ⟨tv, etv⟩ := tz.perm (l := (List.range (n + m)).reverse) (List.reverse_perm _) (rev_rw tzr) (rev_en tzr)
  walk_at "rd"
  refine .inr ⟨false, q16, ts16, _, n + m, rfl, h16, la16.ra, tv, fun a17 H17 _ e17 pl17 => ?_⟩
  rw [etv] at pl17
  walk_at "rd"
  refine ⟨a17, dq, _, rfl, rfl, pl17, e17 _ _ (e16 _ _ (e15 _ _ (e1214 _ _ h12))), zt, by rw [tn_len]; omega, fun H18 e18 => ?_⟩
  have eall : Ex H4 H18 := e47.trans (e712.trans (e1214.trans (e15.trans (e16.trans (e17.trans e18)))))
  exact k _ ((((g1.trans g2).trans g3).trans g4).trans (Bg.of eall)) ((b4.ex eall).le (by omega))

end K10
namespace K10
open PySem PySem.Spec PyProof.Rows L2 GS TL LamX
local macro_rules | `(tactic| walk_at "rd") => `(tactic| (repeat (first
  | with_reducible refine r_next ?_
  | with_reducible refine r_seq ?_
  | with_reducible refine r_ret ?_
  | with_reducible refine r_ifS ?_
  | with_reducible refine r_asg ?_
  | with_reducible refine r_drop ?_
  | with_reducible refine r_op ?_
  | with_reducible refine r_un ?_
  | with_reducible refine r_cbInt ?_
  | with_reducible refine r_cbAbs ?_
  | with_reducible refine r_cbLen ?_
  | with_reducible refine r_cbList ?_
  | with_reducible refine r_cbTup ?_
  | with_reducible refine r_iEnT ?_
  | with_reducible refine r_iEnL ?_
  | with_reducible refine r_zipA ?_
  | with_reducible refine r_zipX ?_
  | with_reducible refine r_augS ?_
  | with_reducible refine r_cb ?_
  | with_reducible refine r_call ?_
  | with_reducible refine r_make ?_
  | with_reducible refine r_callN0 ?_
  | with_reducible refine r_makeK0 ?_
  | with_reducible refine r_makeS ?_
  | with_reducible refine r_callS ?_
  | with_reducible refine r_cons ?_
  | with_reducible refine r_nil ?_
  | with_reducible refine r_test ?_
  | with_reducible refine r_B ?_
  | with_reducible refine r_and ?_
  | with_reducible refine r_or ?_
  | with_reducible refine r_not ?_
  | with_reducible refine r_andV ?_
  | with_reducible refine r_orV ?_
  | with_reducible refine r_notV ?_
  | with_reducible refine r_if ?_
  | with_reducible refine r_tup ?_
  | with_reducible refine r_lst ?_
  | with_reducible refine r_c ?_
  | with_reducible refine r_lc ?_
  | with_reducible refine r_chain ?_
  | with_reducible refine r_iT ?_
  | with_reducible refine r_iL ?_
  | with_reducible refine r_iR1 ?_
  | with_reducible refine r_iR2 ?_
  | with_reducible refine r_iR3 ?_
  | with_reducible refine r_asgG ?_
  | with_reducible refine r_gSub ?_
  | with_reducible refine r_for ?_
  | with_reducible refine r_smeth ?_
  | with_reducible refine r_par ?_
  | with_reducible refine r_parK ?_
  | with_reducible refine r_gCons ?_
  | with_reducible refine r_gNil ?_
  | with_reducible refine r_gName ?_
  | with_reducible refine r_intI ?_
  | with_reducible refine r_intB ?_
  | with_reducible refine r_absI ?_
  | with_reducible refine r_k ?_
  | with_reducible refine r_kV ?_
  | ((with_reducible show tVar _ _ _ _); refine r_var3 ?_ (by rfl))
  | with_reducible refine r_I0 ?_
  | with_reducible refine r_U ?_
  | with_reducible refine r_eqI ?_
  | with_reducible refine r_neI ?_
  | with_reducible refine r_F ?_
  | dsimp only)))
local macro_rules | `(tactic| walk_at "rx") => `(tactic| (repeat (first
  | with_reducible refine r_next ?_
  | with_reducible refine r_ret ?_
  | with_reducible refine r_ifS ?_
  | with_reducible refine r_asg ?_
  | with_reducible refine r_drop ?_
  | with_reducible refine r_op ?_
  | with_reducible refine r_un ?_
  | with_reducible refine r_cbInt ?_
  | with_reducible refine r_cbAbs ?_
  | with_reducible refine r_cbLen ?_
  | with_reducible refine r_cbList ?_
  | with_reducible refine r_cbTup ?_
  | with_reducible refine r_iEnT ?_
  | with_reducible refine r_iEnL ?_
  | with_reducible refine r_zipA ?_
  | with_reducible refine r_zipX ?_
  | with_reducible refine r_augS ?_
  | with_reducible refine r_cb ?_
  | with_reducible refine r_call ?_
  | with_reducible refine r_make ?_
  | with_reducible refine r_callN0 ?_
  | with_reducible refine r_makeK0 ?_
  | with_reducible refine r_makeS ?_
  | with_reducible refine r_callS ?_
  | with_reducible refine r_cons ?_
  | with_reducible refine r_nil ?_
  | with_reducible refine r_test ?_
  | with_reducible refine r_B ?_
  | with_reducible refine r_and ?_
  | with_reducible refine r_or ?_
  | with_reducible refine r_not ?_
  | with_reducible refine r_andV ?_
  | with_reducible refine r_orV ?_
  | with_reducible refine r_notV ?_
  | with_reducible refine r_if ?_
  | with_reducible refine r_tup ?_
  | with_reducible refine r_lst ?_
  | with_reducible refine r_c ?_
  | with_reducible refine r_lc ?_
  | with_reducible refine r_chain ?_
  | with_reducible refine r_iT ?_
  | with_reducible refine r_iL ?_
  | with_reducible refine r_iR1 ?_
  | with_reducible refine r_iR2 ?_
  | with_reducible refine r_iR3 ?_
  | with_reducible refine r_asgG ?_
  | with_reducible refine r_gSub ?_
  | with_reducible refine r_for ?_
  | with_reducible refine r_smeth ?_
  | with_reducible refine r_par ?_
  | with_reducible refine r_parK ?_
  | with_reducible refine r_gCons ?_
  | with_reducible refine r_gNil ?_
  | with_reducible refine r_gName ?_
  | with_reducible refine r_intI ?_
  | with_reducible refine r_intB ?_
  | with_reducible refine r_absI ?_
  | with_reducible refine r_k ?_
  | with_reducible refine r_kV ?_
  | ((with_reducible show tVar _ _ _ _); refine r_var3 ?_ (by rfl))
  | with_reducible refine r_I0 ?_
  | with_reducible refine r_U ?_
  | with_reducible refine r_eqI ?_
  | with_reducible refine r_neI ?_
  | with_reducible refine r_F ?_
  | dsimp only)))
theorem r_m1 {K : PySem.W.Frag} {Wout : WX} {D : Ends} {cs : List Value} {o : Option Nat} {ts : Addr → Value → Option Addr → TS} {r : List MCl} {cls : Value} {d : Option Addr} {σ : L2.St} {H : Hp} (y : PySem.W.exmAny K cls cs = some true) (q : ∀ a, H a = none → wMCl D (cs, o, ts) a cls d σ H) : wMCls K Wout D ((cs, o, ts) :: r) cls d σ H := ⟨true, y, fun _ => q, fun z => by cases z⟩
theorem r_mAs {D : Ends} {cs : List Value} {i : Nat} {ts : Addr → Value → Option Addr → TS} {a : Addr} {cls : Value} {d : Option Addr} {σ : L2.St} {H : Hp} (q : ts a cls d (asEnds i D) (σ.set i (some (.ref a))) H) : wMCl D (cs, some i, ts) a cls d σ H := q
theorem rel_ref {a : Addr} : ∀ u, RelV (V.ref a) u → u = Value.ref a := fun _ r => r
theorem exm_one {K : PySem.W.Frag} {cls c : Value} {b : Bool} (h : PySem.W.exmOne K cls c = some b) : PySem.W.exmAny K cls [c] = some b := by
  unfold PySem.W.exmAny
  rw [h]
  cases b <;> rfl
/-! ### what is heard -/
def HeardE (K : PySem.W.Frag) (Q : VK) : XK := fun cls d H' => ∃ (z : Str) (dd : Addr), cls = .ref (He.ga K "BadNumber") ∧ d = some dd ∧ H' dd = some (.xd [(("part" : Str), .str z)]) ∧ ∀ t H'', Ex H' H'' → H'' t = some (.tup [.str "number", .str z]) → Q (.ref t) H''
def TTHeard (K : PySem.W.Frag) (tl : XK → Hp → VK → Prop) (H : Hp) (Q : VK) : Prop := (∀ Qn : VK, tl (HeardE K Q) H Qn) ∨ ∀ Qn : VK, (∀ v H', Q .non H' → Qn v H') → tl E0 H Qn
theorem gives__law_heard {X : Cx} {g : Addr} {cdg : Value} {q : Str} (T : Txt X.K X.mg) : GivesS X ["ask", "heard", "error"] "_law_heard" (defScope s__law_heard) g cdg (defBody s__law_heard) "ask" q (TTHeard X.K) := by
  intro f c' s H Q tl act hc h
  refine ⟨_, (pss_cons (ps_set (i := 1) sc__law_heard.nd rfl (Or.inl rfl) pe_non)
      (pss_cons (ps_try_m (Wout := fun _ _ _ _ => False) rfl rfl L2.takes0 (fun W pn xe tk po => (pss_one (ps_ask (fun E p1 p2 => act W pn xe E p1 p2) tk))) (MClsOk.cons (MClOk.as (i := 2) (.name ⟨rfl, by decide, Or.inl T.g_SignsError⟩) sc__law_heard.nd rfl rfl (fun a oe cls d pn hz hf => (pss_one (ps_set (i := 1) sc__law_heard.nd rfl (Or.inl rfl) (pe_ifExp (pt_val (pe_callB (cr_isX rfl hz hf) (by rfl) T.b_isinstance (by decide +kernel) (pa_cons (pv 2) (pa_cons (pe_glob (v := .ref (He.ga X.K "BadNumber")) rfl T.g_BadNumber rfl) pa_nil)))) (pe_tup (pa_cons pe_str (pa_cons (pe_xfA rfl hz hf (pv 2)) pa_nil))) (pe_tup (pa_cons pe_str (pa_cons pe_non pa_nil)))))))) MClsOk.nil))
      (pss_one (ps_ret (pv 1))))), ?_⟩
  walk_at "rd"
  rcases h with h | h
  · refine ⟨HeardE X.K Q, fun cls d H' hE => ?_, rfl, hc, h _⟩
    obtain ⟨z, dd, rfl, rfl, hd, k⟩ := hE
    refine r_m1 (exm_one (T.e_BadNumber.y "SignsError" (by simp))) fun a ha => r_mAs ?_
    walk_at "rd"
    refine ⟨_, _, _, _, dd, _, rfl, rel_ref, rfl, T.x_BadNumber, T.ki_BadNumber_BadNumber, rfl, hd, ?_⟩
    refine ⟨_, rfl, ite_t rfl ?_⟩
    walk_at "rd"
    refine ⟨_, rfl, rfl, _, dd, _, .str z, rfl, T.e_BadNumber.xf, T.e_BadNumber.no_ "part" (by simp), rfl, hd, rfl, ?_⟩
    walk_at "rd"
    refine r_newT (sz_le (by simp)) fun t H2 _ e2 h2 => ?_
    exact ⟨_, rfl, k t H2 e2 h2⟩
  · exact ⟨E0, fun cls d H' hE => False.elim hE, rfl, hc, h _ fun v H' q => ⟨_, rfl, q⟩⟩
/-! ### what is no table -/
theorem TyOf.en {K : PySem.W.Frag} {H H' : Hp} {v : V} {T : String} (b : TyOf K H v (.type T)) (e : ExtN H H') : TyOf K H' v (.type T) := by
  cases b with
  | non => exact .non
  | bl b => exact .bl b
  | int i => exact .int i
  | str i => exact .str i
  | flt i => exact .flt i
  | lst q => exact .lst (e _ _ q fun _ z => by cases z)
  | frz q => exact .frz (e _ _ q fun _ z => by cases z)
  | tup q => exact .tup (e _ _ q fun _ z => by cases z)
  | dK q => exact .dK (e _ _ q fun _ z => by cases z)
  | dT q => exact .dT (e _ _ q fun _ z => by cases z)
theorem Own.en {K : PySem.W.Frag} {H H' : Hp} {v : V} (h : Own K H v) (e : ExtN H H') : Own K H' v := let ⟨a, C, dx, fs, h1, h2, h3⟩ := h; ⟨a, C, dx, fs, h1, h2, e _ _ h3 fun _ z => by cases z⟩
theorem Kn.en {K : PySem.W.Frag} {H H' : Hp} {v : V} (h : Kn K H v) (e : ExtN H H') : Kn K H' v := by
  rcases h with ⟨T, hT, h⟩ | h
  · exact .inl ⟨T, hT, TyOf.en h e⟩
  · exact .inr (Own.en h e)
theorem RowB.en {K : PySem.W.Frag} {H H' : Hp} {v : V} {b : Bool} (h : RowB K H v b) (e : ExtN H H') : RowB K H' v b := by
  rcases h with ⟨T, hT, h, hb⟩ | ⟨h, hb⟩
  · exact .inl ⟨T, hT, TyOf.en h e, hb⟩
  · exact .inr ⟨Own.en h e, hb⟩
theorem IL.en {H H' : Hp} {t : Addr} {r : List Int} (h : IL H t r) (e : ExtN H H') : IL H' t r := h.elim (fun z => .inl (e _ _ z fun _ z => by cases z)) fun z => .inr (e _ _ z fun _ z => by cases z)
theorem Sq.en {H H' : Hp} {v : V} {xs : List V} (h : Sq H v xs) (e : ExtN H H') : Sq H' v xs := by
  obtain ⟨a, rfl, h | h⟩ := h
  · exact ⟨a, rfl, .inl (e _ _ h fun _ z => by cases z)⟩
  · exact ⟨a, rfl, .inr (e _ _ h fun _ z => by cases z)⟩
theorem RowV.en {K : PySem.W.Frag} {H H' : Hp} {n : Nat} {v : V} {b : Bool} (h : RowV K H n v b) (e : ExtN H H') : RowV K H' n v b := by
  cases h with
  | rowI h l => exact .rowI (IL.en h e) l
  | rowO h l k a => exact .rowO (Sq.en h e) l (fun x hx => Kn.en (k x hx) e) a
  | rowN h => exact .rowN (RowB.en h e)
theorem OL.en {b : Bool} {H H' : Hp} {p : Addr} {cs : List V} (h : OL b H p cs) (e : ExtN H H') : OL b H' p cs := by
  cases b
  · exact e _ _ h fun _ z => by cases z
  · exact e _ _ h fun _ z => by cases z
theorem RA.en {H H' : Hp} {ts : List Addr} {rs : List (List Int)} (h : RA H ts rs) (e : ExtN H H') : RA H' ts rs := ⟨h.1, fun j t r h1 h2 => IL.en (h.2 j t r h1 h2) e⟩
theorem LA.en {H H' : Hp} {ts : List Addr} {rs : List (List Int)} (h : LA H ts rs) (e : ExtN H H') : LA H' ts rs := ⟨h.1, fun j t r h1 h2 => e _ _ (h.2 j t r h1 h2) fun _ z => by cases z⟩
theorem NoTab.en {K : PySem.W.Frag} {H H' : Hp} {v : V} (h : NoTab K H v) (e : ExtN H H') : NoTab K H' v := by
  rcases h with h | ⟨b0, p, xs, oks, h1, h2, h3, h4, h5, h6⟩
  · exact .inl (RowB.en h e)
  · exact .inr ⟨b0, p, xs, oks, h1, OL.en h2 e, h3, h4, fun i x b a c => RowV.en (h5 i x b a c) e, fun z => let ⟨cs, rs, a, b, c⟩ := h6 z; ⟨cs, rs, a, RA.en b e, c⟩⟩
/-- one row is not as it should be -/
theorem NoTab.one {K : PySem.W.Frag} {H : Hp} {b0 : Bool} {p : Addr} {xs : List V} (h : OL b0 H p xs) (l : xs.length ≤ 60) (all : ∀ x ∈ xs, ∃ b, RowV K H xs.length x b) {a : Nat} {xa : V} (ha : xs[a]? = some xa) (hf : RowV K H xs.length xa false) : NoTab K H (.ref p) := by
  have key : ∀ i : Nat, ∃ b, ∀ x, xs[i]? = some x → RowV K H xs.length x b := fun i => by
    cases q : xs[i]? with
    | none => exact ⟨false, fun x hx => by cases hx⟩
    | some y =>
      obtain ⟨b, hb⟩ := all y (List.mem_of_getElem? q)
      exact ⟨b, fun x hx => by cases hx; exact hb⟩
  have lt : a < xs.length := (List.getElem?_eq_some_iff.mp ha).1
  refine .inr ⟨b0, p, xs, (List.range xs.length).map fun i => if i = a then false else Classical.choose (key i), rfl, h, l, by simp, fun i x b hx hb => ?_, fun z => ?_⟩
  · have li := (List.getElem?_eq_some_iff.mp hx).1
    rw [List.getElem?_map, List.getElem?_range li] at hb
    have hb : (if i = a then false else Classical.choose (key i)) = b := Option.some.inj hb
    by_cases c : i = a
    · rw [if_pos c] at hb
      rw [← hb]
      rw [c, ha] at hx
      cases hx
      exact hf
    · rw [if_neg c] at hb
      rw [← hb]
      exact Classical.choose_spec (key i) x hx
  · have := List.all_eq_true.mp z false (List.mem_map.mpr ⟨a, List.mem_range.mpr lt, if_pos rfl⟩)
    cases this
structure LI (K : PySem.W.Frag) (p q : Addr) (cs : List Addr) (rs : List (List Int)) (n : Int) (H : Hp) : Prop where
  bag : Bag H p n
  tabs : Tabs (lamT K) H
  at_ : H q = some (.lst (cs.map V.ref))
  la : LA H cs rs
theorem tabs_bg {T : List (Addr × Str)} {H H' : Hp} {p : Addr} {n : Int} (t : Tabs T H) (g : Bg p H H') (hb : Bag H p n) : Tabs T H' := fun q hq => by
  obtain ⟨ps, h1, h2, h3⟩ := t q hq
  refine ⟨ps, g.at_ (hb.ne h1 fun _ _ _ z => by cases z) h1, h2, fun pos cv hc => ?_⟩
  obtain ⟨c, e1, e2⟩ := h3 pos cv hc
  exact ⟨c, e1, g.at_ (hb.ne e2 fun _ _ _ z => by unfold CodeO at z; cases z) e2⟩
theorem Bag.extN {H H' : Hp} {b : Addr} {n : Int} (h : Bag H b n) (e : ExtN H H') : Bag H' b n := by
  obtain ⟨L, xs, a, l, h1, h2, h3⟩ := h.is
  exact ⟨L, xs, a, l, e _ _ h1 (fun _ z => by cases z), e _ _ h2 (fun _ z => by cases z), h3⟩
theorem LI.ex {K : PySem.W.Frag} {p q : Addr} {cs : List Addr} {rs : List (List Int)} {n : Int} {H H' : Hp} (h : LI K p q cs rs n H) (e : Ex H H') : LI K p q cs rs n H' := ⟨h.bag.ex e, h.tabs.ext e, e _ _ h.at_, h.la.ex e⟩
theorem LI.en {K : PySem.W.Frag} {p q : Addr} {cs : List Addr} {rs : List (List Int)} {n : Int} {H H' : Hp} (h : LI K p q cs rs n H) (e : ExtN H H') (t : Tabs (lamT K) H') : LI K p q cs rs n H' := ⟨Bag.extN h.bag e, t, e _ _ h.at_ (fun _ z => by cases z), LA.en h.la e⟩
theorem LI.bg {K : PySem.W.Frag} {p q : Addr} {cs : List Addr} {rs : List (List Int)} {n m : Int} {H H' : Hp} (h : LI K p q cs rs n H) (g : Bg p H H') (b : Bag H' p m) : LI K p q cs rs m H' := ⟨b, tabs_bg h.tabs g h.bag, g.at_ (ls_ne h.bag h.at_) h.at_, h.la.bg h.bag g⟩
theorem LI.le {K : PySem.W.Frag} {p q : Addr} {cs : List Addr} {rs : List (List Int)} {n m : Int} {H : Hp} (h : LI K p q cs rs n H) (e : n ≤ m) : LI K p q cs rs m H := ⟨h.bag.le e, h.tabs, h.at_, h.la⟩
theorem r_lam {T : List (Addr × Str)} {TT : (XK → Hp → VK → Prop) → Hp → VK → Prop} {t : XK → TE} {σ : L2.St} {H : Hp} {Q : VK} (h : Tabs T H) (q : ∀ H1, ExtN H H1 → Tabs T H1 → TT (fun E H' Q' => t E σ H' Q') H1 Q) : tLam T TT t σ H Q := ⟨h, q⟩
theorem r_dnewK {σ : L2.St} {H : Hp} {Q : VK} (q : ∀ p H', H p = none → Ex H H' → H' p = some (.dK []) → Q (.ref p) H') : tDNewK σ H Q := fun p hp => q p _ hp (Ex.new hp) upd_same
theorem NoTab.row {K : PySem.W.Frag} {H : Hp} {B ta : Addr} {ts : List Addr} {d a : Nat} (hB : H B = some (.lst (ts.map V.ref))) (l : ts.length = d) (hd : d ≤ 60) (ht : ts[a]? = some ta) (others : ∀ (j : Nat) (t : Addr), ts[j]? = some t → j ≠ a → ∃ r : List Int, H t = some (.lst (r.map V.int)) ∧ r.length ≤ 1000) (bad : RowV K H d (.ref ta) false) : NoTab K H (.ref B) := by
  have len : (ts.map V.ref).length = d := by rw [List.length_map, l]
  refine NoTab.one (b0 := false) (xs := ts.map V.ref) hB (by omega) (fun x hx => ?_) (a := a) (xa := .ref ta) (by rw [List.getElem?_map, ht]; rfl) (by rw [len]; exact bad)
  obtain ⟨j, hj⟩ := List.getElem?_of_mem hx
  obtain ⟨t, htj, rfl⟩ := ref_at hj
  by_cases c : j = a
  · subst c
    rw [ht] at htj
    cases htj
    exact ⟨false, by rw [len]; exact bad⟩
  · obtain ⟨r, h1, h2⟩ := others j t htj c
    exact ⟨_, .rowI (.inl h1) h2⟩
theorem sym_half {rs : List (List Int)} (h : (symL rs).all id = true) {i j : Nat} (hi : i < rs.length) (hj : j < rs.length) : en rs i j = en rs j i := by
  have half : ∀ i j, i < rs.length → j < i → en rs i j = en rs j i := fun i j hi hj => by
    have := List.all_eq_true.mp h (decide (en rs i j = en rs j i)) (by
      unfold symL
      exact List.mem_flatten.mpr ⟨_, List.mem_map.mpr ⟨i, List.mem_range.mpr hi, rfl⟩, List.mem_map.mpr ⟨j, List.mem_range.mpr hj, rfl⟩⟩)
    exact of_decide_eq_true this
  rcases Nat.lt_trichotomy i j with c | c | c
  · exact (half j i hj c).symm
  · rw [c]
  · exact half i j hi c
/-- one number is more than its twin -/
theorem more_false {rs : List (List Int)} {d a o : Nat} {r : List Int} (t : Tab rs d) (ha : a < d) (ho : o < d) (ne : o ≠ a) (hr : rs[a]? = some r) : (symL (rs.set a (r.set o (en rs a o + 1)))).all id = false := by
  cases q : (symL (rs.set a (r.set o (en rs a o + 1)))).all id with
  | false => rfl
  | true =>
    have la : a < rs.length := by rw [t.len]; exact ha
    have l2 : (rs.set a (r.set o (en rs a o + 1))).length = d := by rw [List.length_set, t.len]
    have h := sym_half q (i := a) (j := o) (by omega) (by omega)
    have lr := t.row r (List.mem_of_getElem? hr)
    rw [en_set la, en_set la, if_pos rfl, if_neg ne] at h
    rw [show (r.set o (en rs a o + 1)).getD o 0 = en rs a o + 1 by simp [List.getD_eq_getElem?_getD, lr, ho], t.sym a o ha ho] at h
    omega
/-- all rows of integers, but not the same over the corner -/
theorem NoTab.skew {K : PySem.W.Frag} {H : Hp} {B : Addr} {ts : List Addr} {rs : List (List Int)} {d : Nat} (hB : H B = some (.lst (ts.map V.ref))) (la : LA H ts rs) (rw : Rw rs d) (hd : d ≤ 60) (bad : (symL rs).all id = false ∨ rs.length = 0 ∨ 24 < rs.length) : NoTab K H (.ref B) := by
  have lts : ts.length = d := by rw [la.1]; exact rw.len
  refine .inr ⟨false, B, ts.map V.ref, List.replicate d true, rfl, hB, by rw [List.length_map]; omega, by simp [lts], fun i x b hx hb => ?_, fun _ => ⟨ts, rs, rfl, la.ra, fun r hr => by rw [rw.row r hr, rw.len], bad⟩⟩
  obtain ⟨t, ht, rfl⟩ := ref_at hx
  obtain ⟨r, hr, hrow⟩ := la.at ht
  have lr := rw.row r (List.mem_of_getElem? hr)
  have e : b = decide (r.length = (ts.map V.ref).length) := by
    rw [List.length_map, lr, lts, decide_eq_true rfl]
    exact List.eq_of_mem_replicate (List.mem_of_getElem? hb)
  rw [e]
  exact .rowI (.inl hrow) (by omega)

end K10
namespace K10
open PySem PySem.Spec PyProof.Rows L2 GS TL LamX
local macro_rules | `(tactic| walk_at "rd") => `(tactic| (repeat (first
  | with_reducible refine r_next ?_
  | with_reducible refine r_seq ?_
  | with_reducible refine r_ret ?_
  | with_reducible refine r_ifS ?_
  | with_reducible refine r_asg ?_
  | with_reducible refine r_drop ?_
  | with_reducible refine r_op ?_
  | with_reducible refine r_un ?_
  | with_reducible refine r_cbInt ?_
  | with_reducible refine r_cbAbs ?_
  | with_reducible refine r_cbLen ?_
  | with_reducible refine r_cbList ?_
  | with_reducible refine r_cbTup ?_
  | with_reducible refine r_iEnT ?_
  | with_reducible refine r_iEnL ?_
  | with_reducible refine r_zipA ?_
  | with_reducible refine r_zipX ?_
  | with_reducible refine r_augS ?_
  | with_reducible refine r_cb ?_
  | with_reducible refine r_call ?_
  | with_reducible refine r_make ?_
  | with_reducible refine r_callN0 ?_
  | with_reducible refine r_makeK0 ?_
  | with_reducible refine r_makeS ?_
  | with_reducible refine r_callS ?_
  | with_reducible refine r_cons ?_
  | with_reducible refine r_nil ?_
  | with_reducible refine r_test ?_
  | with_reducible refine r_B ?_
  | with_reducible refine r_and ?_
  | with_reducible refine r_or ?_
  | with_reducible refine r_not ?_
  | with_reducible refine r_andV ?_
  | with_reducible refine r_orV ?_
  | with_reducible refine r_notV ?_
  | with_reducible refine r_if ?_
  | with_reducible refine r_tup ?_
  | with_reducible refine r_lst ?_
  | with_reducible refine r_c ?_
  | with_reducible refine r_lc ?_
  | with_reducible refine r_chain ?_
  | with_reducible refine r_iT ?_
  | with_reducible refine r_iL ?_
  | with_reducible refine r_iR1 ?_
  | with_reducible refine r_iR2 ?_
  | with_reducible refine r_iR3 ?_
  | with_reducible refine r_asgG ?_
  | with_reducible refine r_gSub ?_
  | with_reducible refine r_for ?_
  | with_reducible refine r_smeth ?_
  | with_reducible refine r_par ?_
  | with_reducible refine r_parK ?_
  | with_reducible refine r_gCons ?_
  | with_reducible refine r_gNil ?_
  | with_reducible refine r_gName ?_
  | with_reducible refine r_intI ?_
  | with_reducible refine r_intB ?_
  | with_reducible refine r_absI ?_
  | with_reducible refine r_k ?_
  | with_reducible refine r_kV ?_
  | ((with_reducible show tVar _ _ _ _); refine r_var3 ?_ (by rfl))
  | with_reducible refine r_I0 ?_
  | with_reducible refine r_U ?_
  | with_reducible refine r_eqI ?_
  | with_reducible refine r_neI ?_
  | with_reducible refine r_F ?_
  | dsimp only)))
local macro_rules | `(tactic| walk_at "rx") => `(tactic| (repeat (first
  | with_reducible refine r_next ?_
  | with_reducible refine r_ret ?_
  | with_reducible refine r_ifS ?_
  | with_reducible refine r_asg ?_
  | with_reducible refine r_drop ?_
  | with_reducible refine r_op ?_
  | with_reducible refine r_un ?_
  | with_reducible refine r_cbInt ?_
  | with_reducible refine r_cbAbs ?_
  | with_reducible refine r_cbLen ?_
  | with_reducible refine r_cbList ?_
  | with_reducible refine r_cbTup ?_
  | with_reducible refine r_iEnT ?_
  | with_reducible refine r_iEnL ?_
  | with_reducible refine r_zipA ?_
  | with_reducible refine r_zipX ?_
  | with_reducible refine r_augS ?_
  | with_reducible refine r_cb ?_
  | with_reducible refine r_call ?_
  | with_reducible refine r_make ?_
  | with_reducible refine r_callN0 ?_
  | with_reducible refine r_makeK0 ?_
  | with_reducible refine r_makeS ?_
  | with_reducible refine r_callS ?_
  | with_reducible refine r_cons ?_
  | with_reducible refine r_nil ?_
  | with_reducible refine r_test ?_
  | with_reducible refine r_B ?_
  | with_reducible refine r_and ?_
  | with_reducible refine r_or ?_
  | with_reducible refine r_not ?_
  | with_reducible refine r_andV ?_
  | with_reducible refine r_orV ?_
  | with_reducible refine r_notV ?_
  | with_reducible refine r_if ?_
  | with_reducible refine r_tup ?_
  | with_reducible refine r_lst ?_
  | with_reducible refine r_c ?_
  | with_reducible refine r_lc ?_
  | with_reducible refine r_chain ?_
  | with_reducible refine r_iT ?_
  | with_reducible refine r_iL ?_
  | with_reducible refine r_iR1 ?_
  | with_reducible refine r_iR2 ?_
  | with_reducible refine r_iR3 ?_
  | with_reducible refine r_asgG ?_
  | with_reducible refine r_gSub ?_
  | with_reducible refine r_for ?_
  | with_reducible refine r_smeth ?_
  | with_reducible refine r_par ?_
  | with_reducible refine r_parK ?_
  | with_reducible refine r_gCons ?_
  | with_reducible refine r_gNil ?_
  | with_reducible refine r_gName ?_
  | with_reducible refine r_intI ?_
  | with_reducible refine r_intB ?_
  | with_reducible refine r_absI ?_
  | with_reducible refine r_k ?_
  | with_reducible refine r_kV ?_
  | ((with_reducible show tVar _ _ _ _); refine r_var3 ?_ (by rfl))
  | with_reducible refine r_I0 ?_
  | with_reducible refine r_U ?_
  | with_reducible refine r_eqI ?_
  | with_reducible refine r_neI ?_
  | with_reducible refine r_F ?_
  | dsimp only)))
theorem tabs_upd {T : List (Addr × Str)} {H : Hp} {a : Addr} {xs : List V} {o : HO} (t : Tabs T H) (h : H a = some (.lst xs)) : Tabs T (upd H a o) := fun q hq => by
  obtain ⟨ps, h1, h2, h3⟩ := t q hq
  refine ⟨ps, by rw [upd_ne (by rintro rfl; rw [h] at h1; cases h1)]; exact h1, h2, fun pos cv hc => ?_⟩
  obtain ⟨c, e1, e2⟩ := h3 pos cv hc
  refine ⟨c, e1, ?_⟩
  rw [upd_ne (by rintro rfl; rw [h] at e2; unfold CodeO at e2; cases e2)]
  exact e2
theorem r_nePair {K : PySem.W.Frag} {H : Hp} {Q : VK} {a b : Addr} (h1 : H a = some (.tup [.str "number", .str "table"])) (h2 : H b = some (.tup [.str "number", .str "table"])) (q : Q (.bl false) H) : rNeD K (.ref a) (.ref b) H Q := by
  refine ⟨_, _, .tup (SqT.of h1) (.cons (.str _) (.cons (.str _) .nil)), .tup (SqT.of h2) (.cons (.str _) (.cons (.str _) .nil)), by decide +kernel, by decide +kernel, ?_⟩
  have e : PyData.eqv (.tuple [.str "number", .str "table"]) (.tuple [.str "number", .str "table"]) = true := by decide +kernel
  show Q (.bl (!PyData.eqv _ _)) H
  rw [e]
  exact q
def spRef (K : PySem.W.Frag) : Sp := sp2 fun b s H Q _ => ∃ (p : Addr) (n : Int) (d : Nat), b = .ref p ∧ s = .int d ∧ 2 ≤ d ∧ d ≤ 5 ∧ n ≤ 60000 ∧ Bag H p n ∧ Tabs (lamT K) H ∧ ∀ H', Bag H' p (n + 7000) → Tabs (lamT K) H' → Q (.bl true) H'
theorem ok__law_refused_right {P : Program} {w : World} {K : PySem.W.Frag} {mg : Str → Option Value} {base : Heap} (T : Txt K mg) (tb : TabB base mg (He.cT K ("_law_refused_right", none)).1 (He.cT K ("_law_refused_right", none)).2) : ∃ fd, FnG P w K mg base (L2.CX P w) 10 (He.ga K "_law_refused_right") fd ["tub", "size"] (spRef K) ∧ Binds K fd ["tub", "size"] [] := by
  obtain ⟨fd, F⟩ := T.d__law_refused_right
  obtain ⟨fd_table_poly, F_table_poly, B_table_poly, kb_table_poly_0⟩ := ok_table_poly (P := P) (w := w) (base := base) T
  obtain ⟨fd_Poly_init, F_Poly_init, B_Poly_init⟩ := ok_Poly_init (P := P) (w := w) (base := base) T
  obtain ⟨fd__law_pick, F__law_pick, B__law_pick⟩ := ok__law_pick (P := P) (w := w) (base := base) T
  obtain ⟨fd__law_scoop, F__law_scoop, B__law_scoop⟩ := ok__law_scoop (P := P) (w := w) (base := base) T
  obtain ⟨fd__law_table, F__law_table, B__law_table⟩ := ok__law_table (P := P) (w := w) (base := base) T
  obtain ⟨fd__law_heard, FD__law_heard⟩ := T.d__law_heard
  refine ⟨fd, okL (p := ("_law_refused_right", none)) rfl F sc__law_refused_right sp2_len (fun cdv A outer s H vs Q E cdE quiet hr h => ?_), F.bindsN fun _ _ _ _ _ _ us hl => match us, hl with | [_, _], _ => rfl⟩
  have hr_table_poly : Room 5 _ := hr.mono (by decide)
  have hr_Poly_init : Room 4 _ := hr.mono (by decide)
  have hr__law_pick : Room 2 _ := hr.mono (by decide)
  have hr__law_scoop : Room 1 _ := hr.mono (by decide)
  have hr__law_table : Room 4 _ := hr.mono (by decide)
  obtain ⟨b0, s0, rfl, p, n, d, rfl, rfl, d2, d5, hn, hb, tabs, k⟩ := sp2_is h
  refine ⟨_, (pss_cons (ps_asg (pe_tup (pa_cons (pe_call F__law_table hr__law_table (by rfl) T.g__law_table T.k__law_table B__law_table .nil passL (pa_cons (pv 0) (pa_cons (pv 1) (pa_cons pe_int pa_nil)))) (pa_cons (pe_call F__law_scoop hr__law_scoop (by rfl) T.g__law_scoop T.k__law_scoop B__law_scoop .nil passL (pa_cons (pv 0) (pa_cons (pv 1) pa_nil))) pa_nil))) (pg_tup rfl (pgs_cons (pg_name (i := 2) sc__law_refused_right.nd rfl (Or.inr rfl)) (pgs_cons (pg_name (i := 3) sc__law_refused_right.nd rfl (Or.inl rfl)) pgs_nil))))
      (pss_cons (ps_set (i := 4) sc__law_refused_right.nd rfl (Or.inl rfl) (pe_op op_mod (pe_callTy call_int1 (by rfl) T.b_int (by decide +kernel) (pa_cons (pe_op op_add (pe_op op_add (pv 3) pe_int) (pe_call F__law_scoop hr__law_scoop (by rfl) T.g__law_scoop T.k__law_scoop B__law_scoop .nil passL (pa_cons (pv 0) (pa_cons (pe_op op_sub (pv 1) pe_int) pa_nil)))) pa_nil)) (pv 1)))
      (pss_cons (ps_for (passes_of rfl) rfl (pi_tup (pe_tup (pa_cons pe_str (pa_cons pe_str (pa_cons pe_str (pa_cons pe_str (pa_cons pe_str (pa_cons pe_str (pa_cons pe_str (pa_cons pe_str pa_nil)))))))))) (pg_name (i := 5) sc__law_refused_right.nd rfl (Or.inl rfl)) (pss_cons (ps_set (i := 6) sc__law_refused_right.nd rfl (Or.inr rfl) (pe_lc (own := [("row", 7)]) (g := gName 7) (tt := tYes)  rfl sc__law_refused_right.nd (pi_list (pv 2)) (blkOk_by (own := [("row", 7)]) (N := ["tub", "size", "table", "at", "other", "spoil", "bad", "row", "odd"]) (sc := defScope s__law_refused_right) (by decide +kernel)) (fun _ _ _ _ _ => (pg_name (i := 7) sc__law_refused_right.nd rfl (Or.inl rfl))) (fun _ _ _ _ _ => pts_nil) (fun _ _ _ _ _ => (pe_callTy (kx_listOf (K := K) rfl) (by rfl) T.b_list (by decide +kernel) (pa_cons (pv 7) pa_nil)))))
      (pss_cons (ps_if (pt_cmpR op_eq (pv 5) pe_str (nomark _)) (pss_one (ps_asg (pe_op op_add (pe_ix (kx_ixl rfl) (pe_ix (kx_ixl rfl) (pv 6) (pv 3) (fun _ _ => rfl)) (pv 4) (fun _ _ => rfl)) pe_int) (pg_sub (pe_ix (kx_ixl rfl) (pv 6) (pv 3) (fun _ _ => rfl)) (pv 4) set_list))) pss_nil)
      (pss_cons (ps_if (pt_cmpR op_in_seq (pv 5) (pe_tup (pa_cons pe_str (pa_cons pe_str (pa_cons pe_str pa_nil)))) rfl) (pss_one (ps_asg (pe_dget (hu_of hr) (pe_disp (pps_cons pe_str pe_bl (pps_cons pe_str pe_non (pps_cons pe_str pe_str pps_nil))) (by rfl) (by rfl) (fun z => by cases z) (by decide)) (pv 5) (fun _ _ => rfl)) (pg_sub (pe_ix (kx_ixl rfl) (pv 6) (pv 3) (fun _ _ => rfl)) (pv 3) set_list))) pss_nil)
      (pss_cons (ps_if (pt_cmpR op_in_seq (pv 5) (pe_tup (pa_cons pe_str (pa_cons pe_str pa_nil))) rfl) (pss_one (ps_asg (pe_ifExp (pt_cmpR op_eq (pv 5) pe_str (nomark _)) (pe_slice sl_list (pe_ix (kx_ixl rfl) (pv 6) (pv 3) (fun _ _ => rfl)) (po_some pe_int) po_none) (pe_op op_cat (pe_ix (kx_ixl rfl) (pv 6) (pv 3) (fun _ _ => rfl)) (pe_lst (pa_cons pe_int pa_nil)))) (pg_sub (pv 6) (pv 3) set_list))) pss_nil)
      (pss_cons (ps_if (pt_cmpR op_eq (pv 5) pe_str (nomark _)) (pss_one (ps_set (i := 6) sc__law_refused_right.nd rfl (Or.inr rfl) (pe_op op_cat (pe_slice sl_list (pv 6) po_none (po_some (pv 3))) (pe_slice sl_list (pv 6) (po_some (pe_op op_add (pv 3) pe_int)) po_none)))) pss_nil)
      (pss_cons (ps_if (pt_cmpR op_eq (pv 5) pe_str (nomark _)) (pss_one (ps_asg (pe_call F__law_pick hr__law_pick (by rfl) T.g__law_pick T.k__law_pick B__law_pick .nil passL (pa_cons (pv 0) (pa_cons (pe_lst (pa_cons pe_non (pa_cons pe_int (pa_cons (pe_op op_mulS pe_str (pv 1)) (pa_cons (pe_disp (pps_cons pe_int pe_int pps_nil) (by rfl) (by rfl) (fun z => by cases z) (by decide)) pa_nil))))) pa_nil))) (pg_sub (pv 6) (pv 3) set_list))) pss_nil)
      (pss_one (ps_if (pt_cmpR (op_neD hr.units) (pe_lamT (T := lamT K) (k := 7) (TT := TTHeard K) (by rfl) T.g__law_heard T.k__law_heard FD__law_heard (FD__law_heard.bindsN fun _ _ _ _ _ _ us hl => match us, hl with | [_], _ => rfl) sc__law_heard rfl (Or.inl rfl) (fun cdg => gives__law_heard T) tb cdE (lam_mem__law_refused_right K) (lam_uq__law_refused_right T) (hr.mono (by decide)) (lamS_by (by rfl)) rfl (fun _ _ _ _ _ => rfl) (fun A outer s H E f c' hrL => (pe_call F_table_poly (hrL.mono (by decide)) (by rfl) T.g_table_poly T.k_table_poly B_table_poly .nil (passes_call (takes_of rfl rfl rfl rfl) (fun _ _ _ _ h => h)) (pa_cons (pv 6) pa_nil)))) (pe_tup (pa_cons pe_str (pa_cons pe_str pa_nil))) (nomark _)) (pss_one (ps_ret pe_bl)) pss_nil)))))))))
      (pss_cons (ps_for (passes_of rfl) rfl (pi_tup (pe_tup (pa_cons (pe_lst pa_nil) (pa_cons (pe_tup pa_nil) (pa_cons pe_non (pa_cons pe_int (pa_cons pe_bl (pa_cons pe_str (pa_cons (pe_lst (pa_cons pe_int pa_nil)) (pa_cons (pe_lst (pa_cons (pe_lst pa_nil) pa_nil)) (pa_cons (pe_lst (pa_cons pe_non pa_nil)) (pa_cons (pe_disp (pps_cons pe_int (pe_lst (pa_cons pe_int pa_nil)) pps_nil) (by rfl) (by rfl) (fun z => by cases z) (by decide)) (pa_cons (pe_lc (own := [("row", 7)]) (g := gName 7) (tt := tYes)  rfl sc__law_refused_right.nd (pi_range1 (by rfl) T.b_range (pa_cons pe_int pa_nil)) (blkOk_by (own := [("row", 7)]) (N := ["tub", "size", "table", "at", "other", "spoil", "bad", "row", "odd"]) (sc := defScope s__law_refused_right) (by decide +kernel)) (fun _ _ _ _ _ => (pg_name (i := 7) sc__law_refused_right.nd rfl (Or.inl rfl))) (fun _ _ _ _ _ => pts_nil) (fun _ _ _ _ _ => (pe_op op_rep (pe_lst (pa_cons pe_int pa_nil)) pe_int))) (pa_cons (pe_make T.mk_Poly F_Poly_init hr_Poly_init (by rfl) T.g_Poly B_Poly_init .nil passL (pa_cons (pe_lst (pa_cons pe_int pa_nil)) pa_nil)) pa_nil)))))))))))))) (pg_name (i := 8) sc__law_refused_right.nd rfl (Or.inr rfl)) (pss_one (ps_if (pt_cmpR (op_neD hr.units) (pe_lamT (T := lamT K) (k := 7) (TT := TTHeard K) (by rfl) T.g__law_heard T.k__law_heard FD__law_heard (FD__law_heard.bindsN fun _ _ _ _ _ _ us hl => match us, hl with | [_], _ => rfl) sc__law_heard rfl (Or.inl rfl) (fun cdg => gives__law_heard T) tb cdE (lam_mem__law_refused_right K) (lam_uq__law_refused_right T) (hr.mono (by decide)) (lamS_by (by rfl)) rfl (fun _ _ _ _ _ => rfl) (fun A outer s H E f c' hrL => (pe_call F_table_poly (hrL.mono (by decide)) (by rfl) T.g_table_poly T.k_table_poly B_table_poly .nil (passes_call (takes_of rfl rfl rfl rfl) (fun _ _ _ _ h => h)) (pa_cons (pv 8) pa_nil)))) (pe_tup (pa_cons pe_str (pa_cons pe_str pa_nil))) (nomark _)) (pss_one (ps_ret pe_bl)) pss_nil)))
      (pss_one (ps_ret (pe_cmpR op_isN (pe_lamT (T := lamT K) (k := 7) (TT := TTHeard K) (by rfl) T.g__law_heard T.k__law_heard FD__law_heard (FD__law_heard.bindsN fun _ _ _ _ _ _ us hl => match us, hl with | [_], _ => rfl) sc__law_heard rfl (Or.inl rfl) (fun cdg => gives__law_heard T) tb cdE (lam_mem__law_refused_right K) (lam_uq__law_refused_right T) (hr.mono (by decide)) (lamS_by (by rfl)) rfl (fun _ _ _ _ _ => rfl) (fun A outer s H E f c' hrL => (pe_call F_table_poly (hrL.mono (by decide)) (by rfl) T.g_table_poly T.k_table_poly B_table_poly .nil (passes_call (takes_of rfl rfl rfl rfl) (fun _ _ _ _ h => h)) (pa_cons (pv 2) pa_nil)))) pe_non (nomark _)))))))), ?_⟩
  walk_at "rd"
  refine ⟨p, n, d, 1, rfl, rfl, rfl, by omega, by omega, by omega, hb, fun q cs rs H2 hq hnew nd nq g2 b2 h2 la2 sy => ?_⟩
  have tb := sy.tab (by omega) (by omega)
  walk_at "rd"
  have li2 : LI K p q cs rs (n + 3000) H2 := ⟨b2, tabs_bg tabs g2 hb, h2, la2⟩
  clear b2 g2 h2 la2 hq hnew nd nq tabs
  refine r_DrawG li2.bag (by omega) (by omega) (zsm (by omega)) fun at_ H3 a0 a1 g3 b3 => ?_
  walk_at "rd"
  refine r_newT (sz_le (by simp)) fun t4 H4 _ e4 h4 => ?_
  refine r_gTup h4 rfl (r_gCons (r_gName (r_gCons (r_gName (r_gNil ?_)))))
  have li4 := (li2.bg g3 b3).ex e4
  have ea : at_ = (at_.toNat : Int) := by omega
  rw [ea]
  generalize hat : at_.toNat = a at *
  have ad : a < d := by omega
  walk_at "rd"
  refine r_DrawG li4.bag (by omega) (by omega) (zsm (by omega)) fun r H5 r0 r1 g5 b5 => ?_
  walk_at "rd"
  refine r_I (show (0 : Int) < (d : Nat) by omega) ?_
  obtain ⟨o, ho, od, oa⟩ : ∃ o : Nat, ((a : Nat) + 1 + r) % ((d : Nat) : Int) = (o : Int) ∧ o < d ∧ o ≠ a := by
    have h0 := Int.emod_nonneg ((a : Nat) + 1 + r) (show ((d : Nat) : Int) ≠ 0 by omega)
    have h1 := Int.emod_lt_of_pos ((a : Nat) + 1 + r) (show (0 : Int) < (d : Nat) by omega)
    refine ⟨(((a : Nat) + 1 + r) % ((d : Nat) : Int)).toNat, by omega, by omega, fun z => ?_⟩
    have e : ((a : Nat) + 1 + r) % ((d : Nat) : Int) = (a : Nat) := by omega
    by_cases c : (a : Nat) + 1 + r < (d : Int)
    · rw [Int.emod_eq_of_lt (by omega) c] at e
      omega
    · have : ((a : Nat) + 1 + r) % ((d : Nat) : Int) = (a : Nat) + 1 + r - d := by
        rw [← Int.sub_emod_right, Int.emod_eq_of_lt (by omega) (by omega)]
      omega
  rw [ho]
  have li5 := li4.bg g5 b5
  clear li2 li4 g3 b3 e4 h4 g5 b5 hat ea
  walk_at "rd"
  refine r_newT (sz_le (by simp)) fun t6 H6 _ e6 h6 => ?_
  have li6 := li5.ex e6
  have lcs : cs.length = d := by rw [li6.la.1]; exact tb.len
  clear e6 li5
  have rlen : ∀ i, i < d → (rs.getD i []).length = d := fun i hi => by
    obtain ⟨r, hr, lr, _⟩ := tb.rw hi
    rw [List.getD_eq_getElem?_getD, hr]
    exact lr
  refine ⟨t6, rfl, ⟨_, SqT.of h6⟩, ?_⟩
  refine for_of (walk_tup (xs := [V.str "more", .str "truth", .str "none", .str "short", .str "long", .str "lost", .str "row", .str "text"])) (fun i σ' H' => ∃ s5 s6, σ' = [some (.ref p), some (.int d), some (.ref q), some (.int (a : Nat)), some (.int (o : Nat)), s5, s6, none, none] ∧ LI K p q cs rs (n + 5000 + 2 * (i : Nat)) H' ∧ H' t6 = some (.tup [V.str "more", .str "truth", .str "none", .str "short", .str "long", .str "lost", .str "row", .str "text"])) ⟨_, _, rfl, li6.le (by omega), h6⟩ (fun i σ' H' _ ⟨s5, s6, _, _, h⟩ => SqT.of h) ?_ ?_
  · rintro i x σ' H7 H7' hi ⟨s5, s6, rfl, li7, h67⟩ ⟨rfl, hx⟩
    obtain ⟨z, rfl, hz⟩ : ∃ z : Str, x = .str z ∧ z ∈ (["more", "truth", "none", "short", "long", "lost", "row", "text"] : List Str) := by
      have hm := List.mem_of_getElem? hx
      simp only [List.mem_cons, List.mem_nil_iff, or_false] at hm
      rcases hm with rfl | rfl | rfl | rfl | rfl | rfl | rfl | rfl
      all_goals exact ⟨_, rfl, by simp⟩
    clear hx
    have hi8 : i < 8 := by simpa using hi
    refine r_gName ?_
    let S : Addr → L2.St := fun B => [some (.ref p), some (.int d), some (.ref q), some (.int (a : Nat)), some (.int (o : Nat)), some (.str z), some (.ref B), none, none]
    let Fr : Addr → Hp → Prop := fun B H' => ∃ ts, Ex H7' H' ∧ H' B = some (.lst (ts.map V.ref)) ∧ LA H' ts rs ∧ (B :: ts).Nodup ∧ H7' B = none ∧ ∀ t ∈ ts, H7' t = none
    let Hd : Addr → Hp → Prop := fun B H' => NoTab K H' (.ref B) ∧ LI K p q cs rs (n + 5000 + 2 * (i : Nat) + 1) H' ∧ H' t6 = some (.tup [V.str "more", .str "truth", .str "none", .str "short", .str "long", .str "lost", .str "row", .str "text"])
    let Po : List Str → L2.St → Hp → Prop := fun l σ' H' => ∃ B, σ' = S B ∧ ((z ∈ l ∧ Hd B H') ∨ (z ∉ l ∧ Fr B H'))
    have hdx : ∀ {B : Addr} {G1 G2 : Hp}, Hd B G1 → Ex G1 G2 → Hd B G2 := fun h e => ⟨h.1.en (ExtN.of e), h.2.1.ex e, e _ _ h.2.2⟩
    have frx : ∀ {B : Addr} {G1 G2 : Hp}, Fr B G1 → Ex G1 G2 → Fr B G2 := fun ⟨ts, e8, hB, la, nd, nB, nts⟩ e => ⟨ts, e8.trans e, e _ _ hB, la.ex e, nd, nB, nts⟩
    have pass : ∀ {B : Addr} {G1 G2 : Hp} {l l' : List Str}, (z ∈ l ∧ Hd B G1 ∨ z ∉ l ∧ Fr B G1) → Ex G1 G2 → (z ∈ l ↔ z ∈ l') → Po l' (S B) G2 := fun {B G1 G2 l l'} h e w => ⟨B, rfl, h.imp (fun h => ⟨w.mp h.1, hdx h.2 e⟩) fun h => ⟨fun m => h.1 (w.mpr m), frx h.2 e⟩⟩
    have rowO : ∀ {G : Hp} {B : Addr} {ts : List Addr} {ra : List Int} {ta : Addr} {v : V}, G B = some (.lst (ts.map V.ref)) → LA G ts rs → (B :: ts).Nodup → ts[a]? = some ta → rs[a]? = some ra → isI v = false → Kn K (upd G ta (.lst ((ra.map V.int).set a v))) v → NoTab K (upd G ta (.lst ((ra.map V.int).set a v))) (.ref B) := fun {G B ts ra ta v} hB la nd hta hra hv kn => by
      have nd2 := (List.nodup_cons.mp nd).2
      have nBt : B ≠ ta := fun w => (List.nodup_cons.mp nd).1 (by rw [w]; exact List.mem_of_getElem? hta)
      have lra := tb.row ra (List.mem_of_getElem? hra)
      refine NoTab.row (d := d) ((upd_ne nBt).trans hB) (la.1.trans tb.len) (by omega) hta (fun j t hj c => ?_) (.rowO ⟨ta, rfl, .inl upd_same⟩ (by rw [List.length_set, List.length_map, lra]; omega) (fun x hx => ?_) ?_)
      · obtain ⟨r, hr, hrow⟩ := la.at hj
        have lt1 := (List.getElem?_eq_some_iff.mp hta).1
        exact ⟨r, (upd_ne (fun w => c ((List.getElem?_inj (List.getElem?_eq_some_iff.mp hj).1 nd2).mp (by rw [hj, hta, w])))).trans hrow, by rw [tb.row r (List.mem_of_getElem? hr)]; omega⟩
      · rcases List.mem_or_eq_of_mem_set hx with w | w
        · exact ints_kn x w
        · rw [w]; exact kn
      · rw [List.all_eq_false]
        refine ⟨v, ?_, by simp [hv]⟩
        exact List.mem_iff_getElem?.mpr ⟨a, by simp [lra, ad]⟩
    have subV : ∀ {G : Hp} {B : Addr} {ts : List Addr} {v : V}, LA G ts rs → (B :: ts).Nodup → RowV K (upd G B (.lst ((ts.map V.ref).set a v))) d v false → NoTab K (upd G B (.lst ((ts.map V.ref).set a v))) (.ref B) := fun {G B ts v} la nd bad => by
      have lts : ts.length = d := la.1.trans tb.len
      have len : ((ts.map V.ref).set a v).length = d := by rw [List.length_set, List.length_map, lts]
      refine NoTab.one (b0 := false) (xs := (ts.map V.ref).set a v) upd_same (by omega) (fun x hx => ?_) (a := a) (xa := v) (by simp [lts, ad]) (by rw [len]; exact bad)
      rcases List.mem_or_eq_of_mem_set hx with w | w
      · obtain ⟨t, ht, rfl⟩ := List.mem_map.mp w
        obtain ⟨j, hj⟩ := List.getElem?_of_mem ht
        obtain ⟨r, hr, hrow⟩ := la.at hj
        exact ⟨_, .rowI (.inl ((upd_ne (fun w => (List.nodup_cons.mp nd).1 (by rw [← w]; exact ht))).trans hrow)) (by rw [tb.row r (List.mem_of_getElem? hr)]; omega)⟩
      · rw [w, len]
        exact ⟨false, bad⟩
    refine r_seqJ (Po []) (fun N hN => ?_) ?_
    · walk_at "rx"
      refine ⟨q, rfl, ⟨_, SqL.of li7.at_⟩, ?_⟩
      refine r_lcLs (n := d) (k := 7) (by have := walk_list (K := K) (a := q) (xs := cs.map V.ref); rwa [List.length_map, lcs] at this) (fun i => (rs.getD i []).map V.int) (by omega) (fun H' e => SqL.of (e _ _ li7.at_)) (fun _ => rfl) ?_ ?_
      · rintro j y G1 G2 hj f1 ⟨rfl, hy⟩
        refine ⟨Ex.refl _, fun R kR => ?_⟩
        obtain ⟨t, rfl, hrow⟩ := (li7.la.ex f1).col' hy
        walk_at "rd"
        refine r_list (.inl (SqL.of hrow)) fun l G3 nl f3 g3 => ?_
        exact kR l G3 f3 nl g3
      intro B ts H8 nB e8 h8 hlen8 hnd8 hnew8 hrow8
      refine hN _ _ ⟨B, rfl, .inr ⟨by simp, ts, e8, h8, ?_, hnd8, nB, hnew8⟩⟩
      have := la_rows (n := d) (f := fun i => rs.getD i []) hlen8 hrow8
      have e := range_rows tb.len (fun r => r)
      rw [List.map_id'] at e
      rw [e] at this
      exact this
    rintro σ' H8 ⟨B8, rfl, h8⟩
    refine r_seqJ (Po ["more"]) (fun N hN => ?_) ?_
    · obtain ⟨zn, fr⟩ := h8.resolve_left fun h => by cases h.1
      walk_at "rx"
      have done : ∀ {B : Addr} {H' : Hp}, z ∈ (["more"] : List Str) → Hd B H' → N (S B) H' := fun m h => hN _ _ ⟨_, rfl, .inl ⟨m, h⟩⟩
      obtain ⟨ts, e8, hB, la, nd, nB, nts⟩ := fr
      have lts : ts.length = d := by rw [la.1]; exact tb.len
      by_cases c : z = "more"
      · subst c
        obtain ⟨ra, hra, lra, gra⟩ := tb.rw ad
        obtain ⟨ta, hta, hwa⟩ := la.col hra
        have nta := nts ta (List.mem_of_getElem? hta)
        have nd2 := (List.nodup_cons.mp nd).2
        have nBt : ta ≠ B8 := fun w => (List.nodup_cons.mp nd).1 (by rw [← w]; exact List.mem_of_getElem? hta)
        refine r_eq rfl ?_
        refine ⟨_, rfl, ite_t (by decide +kernel) ?_⟩
        walk_at "rd"
        refine r_ixL hB (v := .ref ta) (atI_nat (by rw [List.getElem?_map, hta]; rfl)) ?_
        walk_at "rd"
        refine r_ixL hwa (v := .int (en rs a o)) (atI_nat (by rw [List.getElem?_map, gra o od]; rfl)) ?_
        walk_at "rd"
        refine r_ixL hB (v := .ref ta) (atI_nat (by rw [List.getElem?_map, hta]; rfl)) ?_
        walk_at "rd"
        refine r_setL hwa (n := o) (by rw [List.length_map, lra]; exact ixN_nat od) ?_
        rw [set_ints]
        have la9 := la_put (i := a) (r := ra.set o (en rs a o + 1)) la nd2 hta
        have e9 : Ex H7' (upd H8 ta (.lst ((ra.set o (en rs a o + 1)).map V.int))) := Ex.mut e8 nta
        have hB9 : (upd H8 ta (.lst ((ra.set o (en rs a o + 1)).map V.int))) B8 = _ := (upd_ne (Ne.symm nBt)).trans hB
        exact done (by simp) ⟨NoTab.skew hB9 la9 (Rw.set ⟨tb.len, tb.row⟩ (by rw [List.length_set, lra])) (by omega) (.inl (more_false tb ad od oa hra)), (li7.ex e9).le (by omega), e9 _ _ h67⟩
      · refine r_eq rfl ?_
        refine ⟨_, rfl, ite_f (by simpa using c) ?_⟩
        walk_at "rd"
        exact hN _ _ ⟨B8, rfl, .inr ⟨by simpa using c, ts, e8, hB, la, nd, nB, nts⟩⟩
    clear h8
    rintro σ' H9 ⟨B9, rfl, h9⟩
    refine r_seqJ (Po ["more", "truth", "none", "text"]) (fun N hN => ?_) ?_
    · walk_at "rx"
      refine r_newT (sz_le (by simp)) fun tt G _ f g => ?_
      refine ⟨tt, _, rfl, .inr (SqT.of g), rfl, rfl, ?_⟩
      have key : ∀ z ∈ (["more", "truth", "none", "short", "long", "lost", "row", "text"] : List Str), inV (.str z) [V.str "truth", .str "none", .str "text"] = decide (z ∈ (["truth", "none", "text"] : List Str)) := by decide +kernel
      rw [key z hz]
      by_cases c : z ∈ (["truth", "none", "text"] : List Str)
      · rw [decide_eq_true c]
        refine ⟨_, rfl, ite_t rfl ?_⟩
        have fr : Fr B9 G := by
          rcases h9 with h | h
          · exfalso
            have : z = "more" := by simpa using h.1
            subst this
            exact absurd c (by decide +kernel)
          · exact frx h.2 f
        obtain ⟨ts, e8, hB, la, nd, nB, nts⟩ := fr
        obtain ⟨ra, hra, lra, gra⟩ := tb.rw ad
        obtain ⟨ta, hta, hwa⟩ := la.col hra
        have nta := nts ta (List.mem_of_getElem? hta)
        walk_at "rd"
        refine fun D nD => ?_
        simp only [tPairs]
        walk_at "rd"
        refine ⟨upd_same, [(.inr "truth", .bl true), (.inr "none", .non), (.inr "text", .str "0")], rfl, by simp, ?_⟩
        obtain ⟨v, hv1, hv2, hv3⟩ : ∃ v, valV (mergeK [] [((.inr "truth" : Key), V.bl true), (.inr "none", .non), (.inr "text", .str "0")]) (.inr z) = some v ∧ isI v = false ∧ ∀ G, Kn K G v := by
          simp only [List.mem_cons, List.mem_nil_iff, or_false] at c
          rcases c with rfl | rfl | rfl
          · exact ⟨.bl true, by decide +kernel, rfl, fun G => .inl ⟨"bool", by decide, .bl true⟩⟩
          · exact ⟨.non, by decide +kernel, rfl, fun G => .inl ⟨"NoneType", by decide, .non⟩⟩
          · exact ⟨.str "0", by decide +kernel, rfl, fun G => .inl ⟨"str", by decide, .str "0"⟩⟩
        have fD : Ex G (upd (upd G D (.dK [])) D (.dK (mergeK [] [((.inr "truth" : Key), V.bl true), (.inr "none", .non), (.inr "text", .str "0")]))) := fun b u h => by
          have : b ≠ D := ne_of_none h nD
          rw [upd_ne this, upd_ne this]
          exact h
        have hD : (upd (upd G D (.dK [])) D (.dK (mergeK [] [((.inr "truth" : Key), V.bl true), (.inr "none", .non), (.inr "text", .str "0")]))) D = some (.dK (mergeK [] [((.inr "truth" : Key), V.bl true), (.inr "none", .non), (.inr "text", .str "0")])) := upd_same
        generalize upd (upd G D (.dK [])) D (.dK (mergeK [] [((.inr "truth" : Key), V.bl true), (.inr "none", .non), (.inr "text", .str "0")])) = G2 at fD hD ⊢
        refine ⟨_, rfl, D, v, rfl, ?_, ?_⟩
        · have := DGet.k (k := .inr z) hD
          rw [hv1] at this
          exact this
        walk_at "rd"
        refine r_ixL (fD _ _ hB) (v := .ref ta) (atI_nat (by rw [List.getElem?_map, hta]; rfl)) ?_
        walk_at "rd"
        refine r_setL (fD _ _ hwa) (n := a) (by rw [List.length_map, lra]; exact ixN_nat ad) ?_
        have e9 : Ex H7' (upd G2 ta (.lst ((ra.map V.int).set a v))) := Ex.mut (e8.trans fD) nta
        refine hN _ _ ⟨B9, rfl, .inl ⟨?_, rowO (fD _ _ hB) (la.ex fD) nd hta hra hv2 (hv3 _), (li7.ex e9).le (by omega), e9 _ _ h67⟩⟩
        simp only [List.mem_cons, List.mem_nil_iff, or_false] at c ⊢
        exact .inr c
      · rw [decide_eq_false c]
        refine ⟨_, rfl, ite_f rfl ?_⟩
        walk_at "rd"
        exact hN _ _ (pass h9 f (by simp only [List.mem_cons, List.mem_nil_iff, or_false] at c ⊢; constructor <;> intro h <;> simp_all))
    clear h9
    rintro σ' H10 ⟨B10, rfl, h10⟩
    refine r_seqJ (Po ["more", "truth", "none", "text", "short", "long"]) (fun N hN => ?_) ?_
    · walk_at "rx"
      refine r_newT (sz_le (by simp)) fun tt G _ f g => ?_
      refine ⟨tt, _, rfl, .inr (SqT.of g), rfl, rfl, ?_⟩
      have key : ∀ z ∈ (["more", "truth", "none", "short", "long", "lost", "row", "text"] : List Str), inV (.str z) [V.str "short", .str "long"] = decide (z ∈ (["short", "long"] : List Str)) := by decide +kernel
      rw [key z hz]
      by_cases c : z ∈ (["short", "long"] : List Str)
      · rw [decide_eq_true c]
        refine ⟨_, rfl, ite_t rfl ?_⟩
        have fr : Fr B10 G := by
          rcases h10 with h | h
          · exfalso
            have h1 := h.1
            simp only [List.mem_cons, List.mem_nil_iff, or_false] at h1 c
            rcases c with rfl | rfl <;> exact absurd h1 (by decide +kernel)
          · exact frx h.2 f
        obtain ⟨ts, e8, hB, la, nd, nB, nts⟩ := fr
        have lts : ts.length = d := la.1.trans tb.len
        obtain ⟨ra, hra, lra, gra⟩ := tb.rw ad
        obtain ⟨ta, hta, hwa⟩ := la.col hra
        have fin : ∀ (x : Addr) (r : List Int) (G2 : Hp), Ex G G2 → G x = none → G2 x = some (.lst (r.map V.int)) → r.length ≠ d → r.length ≤ 1000 → N (S B10) (upd G2 B10 (.lst ((ts.map V.ref).set a (.ref x)))) := fun x r G2 fx nx hx hne hl => by
          have nxB : x ≠ B10 := fun w => by rw [w, hB] at nx; cases nx
          have bad : RowV K (upd G2 B10 (.lst ((ts.map V.ref).set a (.ref x)))) d (.ref x) (decide (r.length = d)) := .rowI (.inl ((upd_ne nxB).trans hx)) hl
          rw [decide_eq_false hne] at bad
          have e9 : Ex H7' (upd G2 B10 (.lst ((ts.map V.ref).set a (.ref x)))) := Ex.mut (e8.trans fx) nB
          refine hN _ _ ⟨B10, rfl, .inl ⟨?_, subV (la.ex fx) nd bad, (li7.ex e9).le (by omega), e9 _ _ h67⟩⟩
          simp only [List.mem_cons, List.mem_nil_iff, or_false] at c ⊢
          rcases c with rfl | rfl <;> simp
        walk_at "rd"
        by_cases c2 : z = "short"
        · refine r_eq rfl ?_
          refine ⟨_, rfl, ite_t (by rw [c2]; decide +kernel) ?_⟩
          refine r_sl ?_
          walk_at "rd"
          refine r_ixL hB (v := .ref ta) (atI_nat (by rw [List.getElem?_map, hta]; rfl)) ?_
          refine r_part ?_
          walk_at "rd"
          refine ⟨((1 : Nat) : Int), rfl, ?_⟩
          refine r_noPart ?_
          refine r_slL hwa (cut_dr V.int ra 1 (by omega)) fun x1 G3 nx1 f3 g3 => ?_
          walk_at "rd"
          refine r_setL (f3 _ _ hB) (n := a) (by rw [List.length_map, lts]; exact ixN_nat ad) ?_
          exact fin x1 (ra.drop 1) G3 f3 nx1 g3 (by rw [List.length_drop, lra]; omega) (by rw [List.length_drop, lra]; omega)
        · refine r_eq rfl ?_
          refine ⟨_, rfl, ite_f (by simpa using c2) ?_⟩
          walk_at "rd"
          refine r_ixL hB (v := .ref ta) (atI_nat (by rw [List.getElem?_map, hta]; rfl)) ?_
          walk_at "rd"
          refine r_newL (sz_le (by simp)) fun z1 G3 _ f3 g3 => ?_
          refine r_cat (zs := [V.int 0]) (f3 _ _ hwa) g3 (by rw [List.length_map, lra, List.length_singleton]; omega) fun x1 G4 nx1 f4 g4 => ?_
          walk_at "rd"
          refine r_setL ((f3.trans f4) _ _ hB) (n := a) (by rw [List.length_map, lts]; exact ixN_nat ad) ?_
          exact fin x1 (ra ++ [0]) G4 (f3.trans f4) (f3.free nx1) (by rw [g4, List.map_append]; rfl) (by rw [List.length_append, lra, List.length_singleton]; omega) (by rw [List.length_append, lra, List.length_singleton]; omega)
      · rw [decide_eq_false c]
        refine ⟨_, rfl, ite_f rfl ?_⟩
        walk_at "rd"
        exact hN _ _ (pass h10 f (by simp only [List.mem_cons, List.mem_nil_iff, or_false] at c ⊢; constructor <;> intro h <;> simp_all))
    clear h10
    rintro σ' H11 ⟨B11, rfl, h11⟩
    refine r_seqJ (Po ["more", "truth", "none", "text", "short", "long", "lost"]) (fun N hN => ?_) ?_
    · walk_at "rx"
      refine r_eq rfl ?_
      by_cases c : z = "lost"
      · refine ⟨_, rfl, ite_t (by rw [c]; decide +kernel) ?_⟩
        have fr : Fr B11 H11 := by
          rcases h11 with h | h
          · exfalso
            have h1 := h.1
            rw [c] at h1
            exact absurd h1 (by decide +kernel)
          · exact h.2
        obtain ⟨ts, e8, hB, la, nd, nB, nts⟩ := fr
        have lts : ts.length = d := la.1.trans tb.len
        walk_at "rd"
        refine r_sl ?_
        walk_at "rd"
        refine r_noPart ?_
        refine r_part ?_
        walk_at "rd"
        refine ⟨((a : Nat) : Int), rfl, ?_⟩
        refine r_slL hB (cut_tk V.ref ts a) fun x1 G3 nx1 f3 g3 => ?_
        walk_at "rd"
        refine r_sl ?_
        walk_at "rd"
        refine r_part ?_
        walk_at "rd"
        refine ⟨((a + 1 : Nat) : Int), by push_cast; rfl, ?_⟩
        refine r_noPart ?_
        refine r_slL (f3 _ _ hB) (cut_dr V.ref ts (a + 1) (by omega)) fun x2 G4 nx2 f4 g4 => ?_
        refine r_cat (f4 _ _ g3) g4 (by rw [List.length_map, List.length_map, List.length_take, List.length_drop]; omega) fun x3 G5 nx3 f5 g5 => ?_
        rw [← List.map_append] at g5
        have f35 := f3.trans (f4.trans f5)
        have e9 := e8.trans f35
        have la5 := la.ex f35
        have len : ((ts.take a ++ ts.drop (a + 1)).map V.ref).length = d - 1 := by rw [List.length_map, List.length_append, List.length_take, List.length_drop, lts]; omega
        have row : ∀ x ∈ (ts.take a ++ ts.drop (a + 1)).map V.ref, RowV K G5 (d - 1) x false := fun x hx => by
          obtain ⟨t, ht, rfl⟩ := List.mem_map.mp hx
          have ht2 : t ∈ ts := by
            rcases List.mem_append.mp ht with w | w
            · exact List.mem_of_mem_take w
            · exact List.mem_of_mem_drop w
          obtain ⟨j, hj⟩ := List.getElem?_of_mem ht2
          obtain ⟨r, hr, hrow⟩ := la5.at hj
          have lr := tb.row r (List.mem_of_getElem? hr)
          have := RowV.rowI (K := K) (n := d - 1) (.inl hrow) (by rw [lr]; omega)
          rw [decide_eq_false (by rw [lr]; omega)] at this
          exact this
        have h0 : ∃ x0, ((ts.take a ++ ts.drop (a + 1)).map V.ref)[0]? = some x0 := ⟨_, List.getElem?_eq_getElem (by rw [len]; omega)⟩
        obtain ⟨x0, hx0⟩ := h0
        have nt : NoTab K G5 (.ref x3) := NoTab.one (b0 := false) (xs := (ts.take a ++ ts.drop (a + 1)).map V.ref) g5 (by rw [len]; omega) (fun x hx => ⟨false, by rw [len]; exact row x hx⟩) hx0 (by rw [len]; exact row x0 (List.mem_of_getElem? hx0))
        exact hN _ _ ⟨x3, rfl, .inl ⟨by rw [c]; decide +kernel, nt, (li7.ex e9).le (by omega), e9 _ _ h67⟩⟩
      · refine ⟨_, rfl, ite_f (by simpa using c) ?_⟩
        walk_at "rd"
        exact hN _ _ (pass h11 (Ex.refl _) (by simp only [List.mem_cons, List.mem_nil_iff, or_false] at c ⊢; constructor <;> intro h <;> simp_all))
    clear h11
    rintro σ' H12 ⟨B12, rfl, h12⟩
    refine r_seqJ (Po ["more", "truth", "none", "text", "short", "long", "lost", "row"]) (fun N hN => ?_) ?_
    · walk_at "rx"
      refine r_eq rfl ?_
      by_cases c : z = "row"
      · refine ⟨_, rfl, ite_t (by rw [c]; decide +kernel) ?_⟩
        have fr : Fr B12 H12 := by
          rcases h12 with h | h
          · exfalso
            have h1 := h.1
            rw [c] at h1
            exact absurd h1 (by decide +kernel)
          · exact h.2
        obtain ⟨ts, e8, hB, la, nd, nB, nts⟩ := fr
        have lts : ts.length = d := la.1.trans tb.len
        have li8 := li7.ex e8
        walk_at "rd"
        refine ⟨_, _, rfl, rfl, mulOk_small (by omega) (by omega) (by decide +kernel), ?_⟩
        generalize Txt.mul (Str.ofString "0") ((d : Nat) : Int) = zz
        walk_at "rd"
        refine fun D nD => ?_
        simp only [tPairs]
        walk_at "rd"
        refine ⟨upd_same, [(.inl 0, .int 0)], rfl, by simp, ?_⟩
        have fD : Ex H12 (upd (upd H12 D (.dK [])) D (.dK (mergeK [] [(.inl 0, .int 0)]))) := fun b u h => by
          have : b ≠ D := ne_of_none h nD
          rw [upd_ne this, upd_ne this]
          exact h
        have hD : (upd (upd H12 D (.dK [])) D (.dK (mergeK [] [(.inl 0, .int 0)]))) D = some (.dK (mergeK [] [(.inl 0, .int 0)])) := upd_same
        generalize upd (upd H12 D (.dK [])) D (.dK (mergeK [] [(.inl 0, .int 0)])) = G2 at fD hD ⊢
        walk_at "rd"
        refine r_newL (sz_le (by simp)) fun pq G3 _ f3 g3 => ?_
        have liB := (li8.ex (fD.trans f3)).bag
        refine r_One (H0 := G3) liB g3 (fun _ _ _ z => by cases z) (by simp) (by simp) (by omega) fun v G4 hv g4 b4 => ?_
        have hB3 := (fD.trans f3) _ _ hB
        have hB4 := g4.at_ (ls_ne liB hB3) hB3
        have la4 := (la.ex (fD.trans f3)).bg liB g4
        have hD4 := g4.at_ (liB.ne (f3 _ _ hD) fun _ _ _ z => by cases z) (f3 _ _ hD)
        have li4 := (li8.ex (fD.trans f3)).bg g4 b4
        have h64 := g4.at_ (liB.ne ((e8.trans (fD.trans f3)) _ _ h67) fun _ _ _ z => by cases z) ((e8.trans (fD.trans f3)) _ _ h67)
        have nBp : B12 ≠ p := ls_ne liB hB3
        walk_at "rd"
        refine r_setL hB4 (n := a) (by rw [List.length_map, lts]; exact ixN_nat ad) ?_
        have up : ∀ {b : Addr} {u : HO}, G4 b = some u → b ≠ B12 → (upd G4 B12 (.lst ((ts.map V.ref).set a v))) b = some u := fun h n => (upd_ne n).trans h
        have bad : RowV K (upd G4 B12 (.lst ((ts.map V.ref).set a v))) d v false := by
          simp only [List.mem_cons, List.mem_nil_iff, or_false] at hv
          rcases hv with rfl | rfl | rfl | rfl
          · exact .rowN (.inl ⟨"NoneType", by decide, .non, rfl⟩)
          · exact .rowN (.inl ⟨"int", by decide, .int 5, rfl⟩)
          · exact .rowN (.inl ⟨"str", by decide, .str _, rfl⟩)
          · exact .rowN (.inl ⟨"dict", by decide, .dK (up hD4 (fun w => by rw [w, hB4] at hD4; cases hD4)), rfl⟩)
        have nt := subV la4 nd bad
        obtain ⟨L, xs, x1, x2, hb1, hb2, hb3⟩ := li4.bag.is
        have nBL : L ≠ B12 := fun w => by
          rw [w, hB4] at hb2
          injection hb2 with hb2
          injection hb2 with hb2
          have lx : 0 < ts.length := by omega
          cases ts with
          | nil => simp at lx
          | cons t ts => cases xs <;> simp at hb2
        have bag9 : Bag (upd G4 B12 (.lst ((ts.map V.ref).set a v))) p (n + 5000 + 2 * (i : Nat) + 1) := ⟨L, xs, x1, x2, up hb1 (Ne.symm nBp), up hb2 nBL, hb3⟩
        have nq : q ≠ B12 := fun w => by rw [← w, li7.at_] at nB; cases nB
        have ncs : B12 ∉ cs := fun w => by
          obtain ⟨j, hj⟩ := List.getElem?_of_mem w
          obtain ⟨r, _, hr⟩ := li7.la.at hj
          rw [nB] at hr
          cases hr
        exact hN _ _ ⟨B12, rfl, .inl ⟨by rw [c]; decide +kernel, nt, ⟨bag9, tabs_upd li4.tabs hB4, up li4.at_ nq, li4.la.upd ncs⟩, up h64 (fun w => by rw [w, hB4] at h64; cases h64)⟩⟩
      · refine ⟨_, rfl, ite_f (by simpa using c) ?_⟩
        walk_at "rd"
        exact hN _ _ (pass h12 (Ex.refl _) (by simp only [List.mem_cons, List.mem_nil_iff, or_false] at c ⊢; constructor <;> intro h <;> simp_all))
    clear h12
    rintro σ' H13 ⟨B13, rfl, h13⟩
    have hd13 : Hd B13 H13 := by
      rcases h13 with h | h
      · exact h.2
      · refine absurd ?_ h.1
        simp only [List.mem_cons, List.mem_nil_iff, or_false] at hz ⊢
        rcases hz with rfl | rfl | rfl | rfl | rfl | rfl | rfl | rfl <;> simp
    obtain ⟨nt, li13, h613⟩ := hd13
    walk_at "rd"
    refine r_lam li13.tabs fun G1 g1 t1 => .inl fun Qn => ?_
    have nt1 := nt.en g1
    walk_at "rd"
    refine .inl ⟨nt1, fun d1 G2 g2 hd => ⟨"table", d1, rfl, rfl, hd, fun tt G3 g3 htt => ?_⟩⟩
    walk_at "rd"
    refine r_newT (sz_le (by simp)) fun t2 G4 _ g4 ht2 => ?_
    refine r_nePair (g4 _ _ htt) ht2 ?_
    refine ⟨_, rfl, ite_f rfl ?_⟩
    walk_at "rd"
    have ex := g2.trans (g3.trans g4)
    exact ⟨_, _, rfl, ((li13.en g1 t1).ex ex).le (by push_cast; omega), ex _ _ (g1 _ _ h613 fun _ z => by cases z)⟩
  · rintro σ' H7 ⟨s5, s6, rfl, li7, h67⟩
    walk_at "rd"
    refine r_newL (xs := []) (sz_le (by simp)) fun q1 G1 _ f1 g1 => ?_
    walk_at "rd"
    refine r_newT (xs := []) (sz_le (by simp)) fun q2 G2 _ f2 g2 => ?_
    walk_at "rd"
    refine r_newL (sz_le (by simp)) fun q3 G3 _ f3 g3 => ?_
    walk_at "rd"
    refine r_newL (xs := []) (sz_le (by simp)) fun q4 G4 _ f4 g4 => ?_
    walk_at "rd"
    refine r_newL (sz_le (by simp)) fun q5 G5 _ f5 g5 => ?_
    walk_at "rd"
    refine r_newL (sz_le (by simp)) fun q6 G6 _ f6 g6 => ?_
    walk_at "rd"
    refine fun D nD => ?_
    simp only [tPairs]
    walk_at "rd"
    refine r_newL (sz_le (by simp)) fun q7 G7 _ f7 g7 => ?_
    refine ⟨f7 _ _ upd_same, [(.inl 0, .ref q7)], rfl, by simp, ?_⟩
    have f8 : Ex G6 (upd G7 D (.dK (mergeK [] [(.inl 0, .ref q7)]))) := fun b u h => by
      have nb : b ≠ D := ne_of_none h nD
      rw [upd_ne nb]
      exact f7 _ _ ((upd_ne nb).trans h)
    have g8 : (upd G7 D (.dK (mergeK [] [(.inl 0, .ref q7)]))) D = some (.dK (mergeK [] [(.inl 0, .ref q7)])) := upd_same
    generalize upd G7 D (.dK (mergeK [] [(.inl 0, .ref q7)])) = G8 at f8 g8 ⊢
    walk_at "rd"
    refine ⟨25, rfl, by decide, by decide, ?_⟩
    refine r_lcLs (n := 25) (k := 7) walk_range (fun _ => (GM.zr 25).map V.int) (by omega) (fun _ _ => trivial) (fun _ => rfl) ?_ ?_
    · rintro j y F1 F2 hj e1 ⟨rfl, rfl⟩
      refine ⟨Ex.refl _, fun R kR => ?_⟩
      walk_at "rd"
      refine r_newL (sz_le (by simp)) fun z0 F3 hz0 e3 h3 => ?_
      walk_at "rd"
      refine r_zeros h3 (m := 25) rfl (by omega) fun z1 F4 hz1 e4 h4 => ?_
      exact kR z1 F4 (e3.trans e4) (e3.free hz1) h4
    intro q9 ts9 G9 _ f9 g9 hlen9 _ _ hrow9
    have la9 : LA G9 ts9 ((List.range 25).map fun _ => GM.zr 25) := la_rows hlen9 hrow9
    walk_at "rd"
    refine r_newL (sz_le (by simp)) fun q10 G10 _ f10 g10 => ?_
    walk_at "rd"
    refine r_Poly (ns := [1]) ⟨q10, rfl, .inl g10⟩ ⟨by decide, by decide, by decide⟩ fun q11 G11 _ f11 pl11 => ?_
    walk_at "rd"
    refine r_newT (sz_le (by simp)) fun q12 G12 _ f12 g12 => ?_
    have s11 := f12
    have s10 := f11.trans s11
    have s9 := f10.trans s10
    have s8 := f9.trans s9
    have s6' := f8.trans s8
    have s5' := f6.trans s6'
    have s4 := f5.trans s5'
    have s3 := f4.trans s4
    have s2 := f3.trans s3
    have s1 := f2.trans s2
    have li12 := li7.ex (f1.trans s1)
    have kI : ∀ c : Int, RowB K G12 (.int c) false := fun c => .inl ⟨"int", by decide, .int c, rfl⟩
    have kN : RowB K G12 .non false := .inl ⟨"NoneType", by decide, .non, rfl⟩
    have all12 : ∀ v ∈ [V.ref q1, .ref q2, .non, .int 5, .bl true, .str "1", .ref q3, .ref q5, .ref q6, .ref D, .ref q9, .ref q11], NoTab K G12 v := by
      intro v hv
      simp only [List.mem_cons, List.mem_nil_iff, or_false] at hv
      rcases hv with rfl | rfl | rfl | rfl | rfl | rfl | rfl | rfl | rfl | rfl | rfl | rfl
      · exact .inr ⟨false, q1, [], [], rfl, s1 _ _ g1, by decide, rfl, fun i x b h => by simp at h, fun _ => ⟨[], [], rfl, RA.nil, (fun r hr => by cases hr), .inr (.inl rfl)⟩⟩
      · exact .inr ⟨true, q2, [], [], rfl, s2 _ _ g2, by decide, rfl, fun i x b h => by simp at h, fun _ => ⟨[], [], rfl, RA.nil, (fun r hr => by cases hr), .inr (.inl rfl)⟩⟩
      · exact .inl kN
      · exact .inl (kI 5)
      · exact .inl (.inl ⟨"bool", by decide, .bl true, rfl⟩)
      · exact .inl (.inl ⟨"str", by decide, .str _, rfl⟩)
      · exact NoTab.one (b0 := false) (xs := [.int 5]) (s3 _ _ g3) (by decide) (fun x hx => ⟨false, by rw [List.mem_singleton.mp hx]; exact .rowN (kI 5)⟩) (a := 0) rfl (.rowN (kI 5))
      · have r0 : RowV K G12 1 (.ref q4) false := .rowI (r := []) (.inl (s4 _ _ g4)) (by decide)
        exact NoTab.one (b0 := false) (xs := [.ref q4]) (s5' _ _ g5) (by simp) (fun x hx => ⟨false, by rw [List.mem_singleton.mp hx]; exact r0⟩) (a := 0) rfl r0
      · exact NoTab.one (b0 := false) (xs := [.non]) (s6' _ _ g6) (by decide) (fun x hx => ⟨false, by rw [List.mem_singleton.mp hx]; exact .rowN kN⟩) (a := 0) rfl (.rowN kN)
      · exact .inl (.inl ⟨"dict", by decide, .dK (s8 _ _ g8), rfl⟩)
      · refine NoTab.skew (d := 25) (s9 _ _ g9) (la9.ex s9) ⟨by simp, fun r hr => ?_⟩ (by decide) (.inr (.inr (by simp)))
        obtain ⟨_, _, rfl⟩ := List.mem_map.mp hr
        exact zr_len 25
      · exact .inl (.inr ⟨(pl11.ex s11).own, rfl⟩)
    refine ⟨q12, rfl, ⟨_, SqT.of g12⟩, ?_⟩
    generalize hxs : [V.ref q1, .ref q2, .non, .int 5, .bl true, .str "1", .ref q3, .ref q5, .ref q6, .ref D, .ref q9, .ref q11] = xs12 at all12 g12
    clear hxs g1 g2 g3 g4 g5 g6 g7 g8 g9 g10 pl11 la9
    refine for_of (walk_tup (xs := xs12)) (fun i σ' H' => ∃ s8, σ' = [some (.ref p), some (.int d), some (.ref q), some (.int (a : Nat)), some (.int (o : Nat)), s5, s6, none, s8] ∧ LI K p q cs rs (n + 5000 + 2 * ((8 : Nat) : Int)) H' ∧ H' q12 = some (.tup xs12) ∧ ∀ v ∈ xs12, NoTab K H' v) ⟨_, rfl, li12, g12, all12⟩ (fun i σ' H' _ ⟨s8, _, _, h, _⟩ => SqT.of h) ?_ ?_
    · rintro i x σ' F1 F1' hi ⟨s8', rfl, li, hq12, nts⟩ ⟨rfl, hx⟩
      have nt := nts x (List.mem_of_getElem? hx)
      refine r_gName ?_
      walk_at "rd"
      refine r_lam li.tabs fun F2 g1 t1 => .inl fun Qn => ?_
      have nt1 := nt.en g1
      walk_at "rd"
      refine .inl ⟨nt1, fun d1 F3 g2 hd => ⟨"table", d1, rfl, rfl, hd, fun tt F4 g3 htt => ?_⟩⟩
      walk_at "rd"
      refine r_newT (sz_le (by simp)) fun t2 F5 _ g4 ht2 => ?_
      refine r_nePair (g4 _ _ htt) ht2 ?_
      refine ⟨_, rfl, ite_f rfl ?_⟩
      walk_at "rd"
      have ex := g2.trans (g3.trans g4)
      exact ⟨_, rfl, (li.en g1 t1).ex ex, ex _ _ (g1 _ _ hq12 fun _ z => by cases z), fun v hv => ((nts v hv).en g1).en (ExtN.of ex)⟩
    · rintro σ' F1 ⟨s8', rfl, li, hq12, nts⟩
      walk_at "rd"
      refine r_lam li.tabs fun F2 g1 t1 => .inr fun Qn hQ => ?_
      have li2 := li.en g1 t1
      walk_at "rd"
      refine .inr ⟨false, q, cs, rs, d, rfl, li2.at_, li2.la.ra, tb, fun P2 F3 _ e3 _ => hQ _ _ ?_⟩
      have li3 := li2.ex e3
      walk_at "rd"
      exact ⟨rfl, k _ (li3.bag.le (by omega)) li3.tabs⟩

end K10
namespace K10
open PySem PySem.Spec PyProof.Rows L2 GS TL LamX
local macro_rules | `(tactic| walk_at "rd") => `(tactic| (repeat (first
  | with_reducible refine r_next ?_
  | with_reducible refine r_seq ?_
  | with_reducible refine r_ret ?_
  | with_reducible refine r_ifS ?_
  | with_reducible refine r_asg ?_
  | with_reducible refine r_drop ?_
  | with_reducible refine r_op ?_
  | with_reducible refine r_un ?_
  | with_reducible refine r_cbInt ?_
  | with_reducible refine r_cbAbs ?_
  | with_reducible refine r_cbLen ?_
  | with_reducible refine r_cbList ?_
  | with_reducible refine r_cbTup ?_
  | with_reducible refine r_iEnT ?_
  | with_reducible refine r_iEnL ?_
  | with_reducible refine r_zipA ?_
  | with_reducible refine r_zipX ?_
  | with_reducible refine r_augS ?_
  | with_reducible refine r_cb ?_
  | with_reducible refine r_call ?_
  | with_reducible refine r_make ?_
  | with_reducible refine r_callN0 ?_
  | with_reducible refine r_makeK0 ?_
  | with_reducible refine r_makeS ?_
  | with_reducible refine r_callS ?_
  | with_reducible refine r_cons ?_
  | with_reducible refine r_nil ?_
  | with_reducible refine r_test ?_
  | with_reducible refine r_B ?_
  | with_reducible refine r_and ?_
  | with_reducible refine r_or ?_
  | with_reducible refine r_not ?_
  | with_reducible refine r_andV ?_
  | with_reducible refine r_orV ?_
  | with_reducible refine r_notV ?_
  | with_reducible refine r_if ?_
  | with_reducible refine r_tup ?_
  | with_reducible refine r_lst ?_
  | with_reducible refine r_c ?_
  | with_reducible refine r_lc ?_
  | with_reducible refine r_chain ?_
  | with_reducible refine r_iT ?_
  | with_reducible refine r_iL ?_
  | with_reducible refine r_iR1 ?_
  | with_reducible refine r_iR2 ?_
  | with_reducible refine r_iR3 ?_
  | with_reducible refine r_asgG ?_
  | with_reducible refine r_gSub ?_
  | with_reducible refine r_for ?_
  | with_reducible refine r_smeth ?_
  | with_reducible refine r_par ?_
  | with_reducible refine r_parK ?_
  | with_reducible refine r_gCons ?_
  | with_reducible refine r_gNil ?_
  | with_reducible refine r_gName ?_
  | with_reducible refine r_intI ?_
  | with_reducible refine r_intB ?_
  | with_reducible refine r_absI ?_
  | with_reducible refine r_k ?_
  | with_reducible refine r_kV ?_
  | ((with_reducible show tVar _ _ _ _); refine r_var3 ?_ (by rfl))
  | with_reducible refine r_I0 ?_
  | with_reducible refine r_U ?_
  | with_reducible refine r_eqI ?_
  | with_reducible refine r_neI ?_
  | with_reducible refine r_F ?_
  | dsimp only)))
local macro_rules | `(tactic| walk_at "rx") => `(tactic| (repeat (first
  | with_reducible refine r_next ?_
  | with_reducible refine r_ret ?_
  | with_reducible refine r_ifS ?_
  | with_reducible refine r_asg ?_
  | with_reducible refine r_drop ?_
  | with_reducible refine r_op ?_
  | with_reducible refine r_un ?_
  | with_reducible refine r_cbInt ?_
  | with_reducible refine r_cbAbs ?_
  | with_reducible refine r_cbLen ?_
  | with_reducible refine r_cbList ?_
  | with_reducible refine r_cbTup ?_
  | with_reducible refine r_iEnT ?_
  | with_reducible refine r_iEnL ?_
  | with_reducible refine r_zipA ?_
  | with_reducible refine r_zipX ?_
  | with_reducible refine r_augS ?_
  | with_reducible refine r_cb ?_
  | with_reducible refine r_call ?_
  | with_reducible refine r_make ?_
  | with_reducible refine r_callN0 ?_
  | with_reducible refine r_makeK0 ?_
  | with_reducible refine r_makeS ?_
  | with_reducible refine r_callS ?_
  | with_reducible refine r_cons ?_
  | with_reducible refine r_nil ?_
  | with_reducible refine r_test ?_
  | with_reducible refine r_B ?_
  | with_reducible refine r_and ?_
  | with_reducible refine r_or ?_
  | with_reducible refine r_not ?_
  | with_reducible refine r_andV ?_
  | with_reducible refine r_orV ?_
  | with_reducible refine r_notV ?_
  | with_reducible refine r_if ?_
  | with_reducible refine r_tup ?_
  | with_reducible refine r_lst ?_
  | with_reducible refine r_c ?_
  | with_reducible refine r_lc ?_
  | with_reducible refine r_chain ?_
  | with_reducible refine r_iT ?_
  | with_reducible refine r_iL ?_
  | with_reducible refine r_iR1 ?_
  | with_reducible refine r_iR2 ?_
  | with_reducible refine r_iR3 ?_
  | with_reducible refine r_asgG ?_
  | with_reducible refine r_gSub ?_
  | with_reducible refine r_for ?_
  | with_reducible refine r_smeth ?_
  | with_reducible refine r_par ?_
  | with_reducible refine r_parK ?_
  | with_reducible refine r_gCons ?_
  | with_reducible refine r_gNil ?_
  | with_reducible refine r_gName ?_
  | with_reducible refine r_intI ?_
  | with_reducible refine r_intB ?_
  | with_reducible refine r_absI ?_
  | with_reducible refine r_k ?_
  | with_reducible refine r_kV ?_
  | ((with_reducible show tVar _ _ _ _); refine r_var3 ?_ (by rfl))
  | with_reducible refine r_I0 ?_
  | with_reducible refine r_U ?_
  | with_reducible refine r_eqI ?_
  | with_reducible refine r_neI ?_
  | with_reducible refine r_F ?_
  | dsimp only)))
/-! ### the law -/
structure LJ (K : PySem.W.Frag) (b : Addr) (n : Int) (H : Hp) : Prop where
  bag : Bag H b n
  tabs : Tabs (lamT K) H
theorem LJ.bg {K : PySem.W.Frag} {b : Addr} {n m : Int} {H H' : Hp} (h : LJ K b n H) (g : Bg b H H') (hb : Bag H' b m) : LJ K b m H' := ⟨hb, tabs_bg h.tabs g h.bag⟩
theorem LJ.ex {K : PySem.W.Frag} {b : Addr} {n : Int} {H H' : Hp} (h : LJ K b n H) (e : Ex H H') : LJ K b n H' := ⟨h.bag.ex e, h.tabs.ext e⟩
theorem LJ.le {K : PySem.W.Frag} {b : Addr} {n m : Int} {H : Hp} (h : LJ K b n H) (e : n ≤ m) : LJ K b m H := ⟨h.bag.le e, h.tabs⟩
def spLaw (K : PySem.W.Frag) : Sp := sp1 fun v H Q _ => ∃ (L : Addr) (xs : List Int), v = .ref L ∧ SqL K H L (xs.map V.int) ∧ (∀ x ∈ xs, Z 2000000 x) ∧ Tabs (lamT K) H ∧ ∀ H', Q (.bl true) H'
theorem ok_law {P : Program} {w : World} {K : PySem.W.Frag} {mg : Str → Option Value} {base : Heap} {fd : FuncData} (T : Txt K mg) (F : FunD K "law" "law" (defArgs s_law) (defBody s_law) (defScope s_law) [] [] (He.ga K "law") fd) (tb__law_refused_right : TabB base mg (He.cT K ("_law_refused_right", none)).1 (He.cT K ("_law_refused_right", none)).2) : FnG P w K mg base (L2.CX P w) 11 (He.ga K "law") fd ["script"] (spLaw K) := by
  obtain ⟨fd__law_is_poly, F__law_is_poly, B__law_is_poly⟩ := ok__law_is_poly (P := P) (w := w) (base := base) T
  obtain ⟨fd_table_poly, F_table_poly, B_table_poly, kb_table_poly_0⟩ := ok_table_poly (P := P) (w := w) (base := base) T
  obtain ⟨fd__law_great_right, F__law_great_right, B__law_great_right⟩ := ok__law_great_right (P := P) (w := w) (base := base) T
  obtain ⟨fd__law_pick, F__law_pick, B__law_pick⟩ := ok__law_pick (P := P) (w := w) (base := base) T
  obtain ⟨fd__law_beside_right, F__law_beside_right, B__law_beside_right⟩ := ok__law_beside_right (P := P) (w := w) (base := base) T
  obtain ⟨fd__law_scoop, F__law_scoop, B__law_scoop⟩ := ok__law_scoop (P := P) (w := w) (base := base) T
  obtain ⟨fd__law_refused_right, F__law_refused_right, B__law_refused_right⟩ := ok__law_refused_right (P := P) (w := w) (base := base) T tb__law_refused_right
  obtain ⟨fd__law_small_right, F__law_small_right, B__law_small_right⟩ := ok__law_small_right (P := P) (w := w) (base := base) T
  obtain ⟨fd__law_tub, F__law_tub, B__law_tub⟩ := ok__law_tub (P := P) (w := w) (base := base) T
  refine okG F sc_law sp1_len (fun cdv A outer s H vs Q E quiet hr h => ?_)
  have hr__law_is_poly : Room 1 _ := hr.mono (by decide)
  have hr_table_poly : Room 5 _ := hr.mono (by decide)
  have hr__law_great_right : Room 6 _ := hr.mono (by decide)
  have hr__law_pick : Room 2 _ := hr.mono (by decide)
  have hr__law_beside_right : Room 6 _ := hr.mono (by decide)
  have hr__law_scoop : Room 1 _ := hr.mono (by decide)
  have hr__law_refused_right : Room 10 _ := hr.mono (by decide)
  have hr__law_small_right : Room 6 _ := hr.mono (by decide)
  have hr__law_tub : Room 1 _ := hr.mono (by decide)
  obtain ⟨v0, rfl, L, xs, rfl, hL, hz, tabs0, k⟩ := sp1_is h
  refine ⟨_, (pss_cons (ps_set (i := 1) sc_law.nd rfl (Or.inl rfl) (pe_call F__law_tub hr__law_tub (by rfl) T.g__law_tub T.k__law_tub B__law_tub .nil passL (pa_cons (pv 0) pa_nil)))
      (pss_cons (ps_for (passes_of rfl) rfl (pi_range1 (by rfl) T.b_range (pa_cons pe_int pa_nil)) (pg_name (i := 2) sc_law.nd rfl (Or.inl rfl)) (pss_cons (ps_if (PW.pt (pw_or (pt_not (pt_val (pe_callG F__law_small_right quiet hr__law_small_right (by rfl) T.g__law_small_right T.k__law_small_right B__law_small_right .nil passL (pa_cons (pv 1) (pa_cons (pe_call F__law_pick hr__law_pick (by rfl) T.g__law_pick T.k__law_pick B__law_pick .nil passL (pa_cons (pv 1) (pa_cons (pe_lst (pa_cons pe_int (pa_cons pe_int (pa_cons pe_int (pa_cons pe_int (pa_cons pe_int pa_nil)))))) pa_nil))) pa_nil))))) (pw_or1 (pt_not (pt_val (pe_callG F__law_refused_right quiet hr__law_refused_right (by rfl) T.g__law_refused_right T.k__law_refused_right B__law_refused_right .nil passL (pa_cons (pv 1) (pa_cons (pe_call F__law_pick hr__law_pick (by rfl) T.g__law_pick T.k__law_pick B__law_pick .nil passL (pa_cons (pv 1) (pa_cons (pe_lst (pa_cons pe_int (pa_cons pe_int (pa_cons pe_int pa_nil)))) pa_nil))) pa_nil)))))))) (pss_one (ps_ret pe_bl)) pss_nil)
      (pss_one (ps_if (PW.pt (pw_or (pt_not (pt_val (pe_callG F__law_great_right quiet hr__law_great_right (by rfl) T.g__law_great_right T.k__law_great_right B__law_great_right .nil passL (pa_cons (pv 1) (pa_cons (pe_call F__law_pick hr__law_pick (by rfl) T.g__law_pick T.k__law_pick B__law_pick .nil passL (pa_cons (pv 1) (pa_cons (pe_lst (pa_cons pe_int (pa_cons pe_int (pa_cons pe_int pa_nil)))) pa_nil))) (pa_cons (pe_call F__law_scoop hr__law_scoop (by rfl) T.g__law_scoop T.k__law_scoop B__law_scoop .nil passL (pa_cons (pv 1) (pa_cons pe_int pa_nil))) pa_nil)))))) (pw_or1 (pt_not (pt_val (pe_callG F__law_beside_right quiet hr__law_beside_right (by rfl) T.g__law_beside_right T.k__law_beside_right B__law_beside_right .nil passL (pa_cons (pv 1) (pa_cons (pe_op op_add pe_int (pe_call F__law_scoop hr__law_scoop (by rfl) T.g__law_scoop T.k__law_scoop B__law_scoop .nil passL (pa_cons (pv 1) (pa_cons pe_int pa_nil)))) (pa_cons (pe_op op_add pe_int (pe_call F__law_scoop hr__law_scoop (by rfl) T.g__law_scoop T.k__law_scoop B__law_scoop .nil passL (pa_cons (pv 1) (pa_cons pe_int pa_nil)))) pa_nil))))))))) (pss_one (ps_ret pe_bl)) pss_nil))))
      (pss_one (ps_ret (pe_and (pe_callG F__law_great_right quiet hr__law_great_right (by rfl) T.g__law_great_right T.k__law_great_right B__law_great_right .nil passL (pa_cons (pv 1) (pa_cons (pe_call F__law_pick hr__law_pick (by rfl) T.g__law_pick T.k__law_pick B__law_pick .nil passL (pa_cons (pv 1) (pa_cons (pe_lst (pa_cons pe_int (pa_cons pe_int (pa_cons pe_int (pa_cons pe_int (pa_cons pe_int (pa_cons pe_int pa_nil))))))) pa_nil))) (pa_cons pe_int pa_nil)))) (pe_and (pe_callG F__law_is_poly quiet hr__law_is_poly (by rfl) T.g__law_is_poly T.k__law_is_poly B__law_is_poly .nil passL (pa_cons (pe_call F_table_poly hr_table_poly (by rfl) T.g_table_poly T.k_table_poly B_table_poly .nil passL (pa_cons (pe_lst (pa_cons (pe_lst (pa_cons pe_int pa_nil)) pa_nil)) pa_nil)) (pa_cons (pe_lst (pa_cons pe_int (pa_cons pe_int pa_nil))) pa_nil))) (pe_one (pe_callG F__law_is_poly quiet hr__law_is_poly (by rfl) T.g__law_is_poly T.k__law_is_poly B__law_is_poly .nil passL (pa_cons (pe_call F_table_poly hr_table_poly (by rfl) T.g_table_poly T.k_table_poly B_table_poly .nil passL (pa_cons (pe_tup (pa_cons (pe_tup (pa_cons pe_int (pa_cons pe_int pa_nil))) (pa_cons (pe_tup (pa_cons pe_int (pa_cons (pe_un un_neg pe_int) pa_nil))) pa_nil))) pa_nil)) (pa_cons (pe_lst (pa_cons pe_int (pa_cons pe_int (pa_cons (pe_un un_neg pe_int) pa_nil)))) pa_nil)))))))))), ?_⟩
  refine r_seqJ (fun σ' H' => ∃ (b : Addr), σ' = [some (.ref L), some (.ref b), none] ∧ LJ K b 0 H') (fun N hN => ?_) ?_
  · walk_at "rx"
    refine ⟨L, xs, rfl, hL, hz, fun b H1 e1 hb0 hb => ?_⟩
    exact hN _ _ ⟨b, rfl, hb, tabs0.ext e1⟩
  clear tabs0 hL
  rintro σ' H1 ⟨b, rfl, l1⟩
  refine r_seqJ (fun σ' H' => ∃ s2, σ' = [some (.ref L), some (.ref b), s2] ∧ LJ K b 50000 H') (fun N hN => ?_) ?_
  · walk_at "rd"
    refine ⟨_, rfl, by decide, by decide, ?_⟩
    refine for_of (walk_range (lo := 0) (n := 2)) (fun i σ H' => ∃ s2, σ = [some (.ref L), some (.ref b), s2] ∧ LJ K b (24000 * (i : Nat)) H') ⟨_, rfl, l1.le (by omega)⟩ (fun _ _ _ _ _ => trivial) ?_ ?_
    · rintro i x σ H2 H2' hi ⟨s2, rfl, l2⟩ ⟨rfl, rfl⟩
      refine r_gName ?_
      walk_at "rd"
      refine r_newL (sz_le (by simp)) fun q3 H3 _ e3 h3 => ?_
      have l3 := l2.ex e3
      refine r_One (H0 := H3) l3.bag h3 (fun _ _ _ z => by cases z) (by simp) (by simp) (by omega) fun v H4 hv g4 b4 => ?_
      have l4 := l3.bg g4 b4
      obtain ⟨d1, rfl, d1a, d1b⟩ : ∃ d : Nat, v = .int (d : Int) ∧ 1 ≤ d ∧ d ≤ 5 := by
        simp only [List.mem_cons, List.mem_nil_iff, or_false] at hv
        rcases hv with rfl | rfl | rfl | rfl | rfl
        · exact ⟨1, rfl, by decide, by decide⟩
        · exact ⟨2, rfl, by decide, by decide⟩
        · exact ⟨3, rfl, by decide, by decide⟩
        · exact ⟨4, rfl, by decide, by decide⟩
        · exact ⟨5, rfl, by decide, by decide⟩
      walk_at "rd"
      refine ⟨b, _, d1, rfl, rfl, d1a, d1b, by omega, l4.bag, fun H5 g5 b5 => ⟨_, rfl, ite_f rfl ?_⟩⟩
      have l5 := l4.bg g5 b5
      walk_at "rd"
      refine r_newL (sz_le (by simp)) fun q6 H6 _ e6 h6 => ?_
      have l6 := l5.ex e6
      refine r_One (H0 := H6) l6.bag h6 (fun _ _ _ z => by cases z) (by simp) (by simp) (by omega) fun v H7 hv g7 b7 => ?_
      have l7 := l6.bg g7 b7
      obtain ⟨d2, rfl, d2a, d2b⟩ : ∃ d : Nat, v = .int (d : Int) ∧ 2 ≤ d ∧ d ≤ 5 := by
        simp only [List.mem_cons, List.mem_nil_iff, or_false] at hv
        rcases hv with rfl | rfl | rfl
        · exact ⟨2, rfl, by decide, by decide⟩
        · exact ⟨3, rfl, by decide, by decide⟩
        · exact ⟨5, rfl, by decide, by decide⟩
      walk_at "rd"
      refine ⟨b, _, d2, rfl, rfl, d2a, d2b, by omega, l7.bag, l7.tabs, fun H8 b8 t8 => ⟨_, rfl, ite_f rfl ?_⟩⟩
      have l8 : LJ K b _ H8 := ⟨b8, t8⟩
      walk_at "rd"
      refine r_newL (sz_le (by simp)) fun q9 H9 _ e9 h9 => ?_
      have l9 := l8.ex e9
      refine r_One (H0 := H9) l9.bag h9 (fun _ _ _ z => by cases z) (by simp) (by simp) (by omega) fun v H10 hv g10 b10 => ?_
      have l10 := l9.bg g10 b10
      obtain ⟨d3, rfl, d3a, d3b⟩ : ∃ d : Nat, v = .int (d : Int) ∧ 1 ≤ d ∧ d ≤ 24 := by
        simp only [List.mem_cons, List.mem_nil_iff, or_false] at hv
        rcases hv with rfl | rfl | rfl
        · exact ⟨6, rfl, by decide, by decide⟩
        · exact ⟨7, rfl, by decide, by decide⟩
        · exact ⟨9, rfl, by decide, by decide⟩
      walk_at "rd"
      refine r_DrawG l10.bag (by omega) (by decide) (zsm (by decide)) fun kd H11 _ _ g11 b11 => ?_
      have l11 := l10.bg g11 b11
      walk_at "rd"
      refine ⟨b, _, d3, kd, rfl, rfl, rfl, d3a, d3b, by omega, l11.bag, fun H12 g12 b12 => ⟨_, rfl, ite_f rfl ?_⟩⟩
      have l12 := l11.bg g12 b12
      walk_at "rd"
      refine r_DrawG l12.bag (by omega) (by decide) (zsm (by decide)) fun n1 H13 n1a n1b g13 b13 => ?_
      have l13 := l12.bg g13 b13
      walk_at "rd"
      refine r_DrawG l13.bag (by omega) (by decide) (zsm (by decide)) fun n2 H14 n2a n2b g14 b14 => ?_
      have l14 := l13.bg g14 b14
      walk_at "rd"
      refine ⟨b, _, (1 + n1).toNat, (1 + n2).toNat, rfl, by rw [Int.toNat_of_nonneg (by omega)], by rw [Int.toNat_of_nonneg (by omega)], by omega, by omega, by omega, by omega, by omega, l14.bag, fun H15 g15 b15 => ⟨_, rfl, ite_f rfl ?_⟩⟩
      have l15 := l14.bg g15 b15
      walk_at "rd"
      exact ⟨_, rfl, l15.le (by push_cast; omega)⟩
    · rintro σ H2 ⟨s2, rfl, l2⟩
      exact hN _ _ ⟨_, rfl, l2.le (by omega)⟩
  clear l1
  rintro σ' H2 ⟨s2, rfl, l2⟩
  walk_at "rd"
  refine r_newL (sz_le (by simp)) fun q3 H3 _ e3 h3 => ?_
  have l3 := l2.ex e3
  refine r_One (H0 := H3) l3.bag h3 (fun _ _ _ z => by cases z) (by simp) (by simp) (by omega) fun v H4 hv g4 b4 => ?_
  have l4 := l3.bg g4 b4
  obtain ⟨d1, rfl, d1a, d1b⟩ : ∃ d : Nat, v = .int (d : Int) ∧ 1 ≤ d ∧ d ≤ 24 := by
    simp only [List.mem_cons, List.mem_nil_iff, or_false] at hv
    rcases hv with rfl | rfl | rfl | rfl | rfl | rfl
    · exact ⟨10, rfl, by decide, by decide⟩
    · exact ⟨11, rfl, by decide, by decide⟩
    · exact ⟨12, rfl, by decide, by decide⟩
    · exact ⟨13, rfl, by decide, by decide⟩
    · exact ⟨13, rfl, by decide, by decide⟩
    · exact ⟨24, rfl, by decide, by decide⟩
  walk_at "rd"
  refine ⟨b, _, d1, 0, rfl, rfl, rfl, d1a, d1b, by omega, l4.bag, fun H5 g5 b5 => ⟨_, rfl, ite_t rfl ?_⟩⟩
  walk_at "rd"
  have z0 : ∀ c : Int, c.natAbs < 1000 → Z 201 c := fun c h => Nat.lt_trans h (by decide)
  have z1 : ∀ c : Int, c.natAbs < 1000 → Z 1900 c := fun c h => Nat.lt_of_lt_of_le (Nat.lt_trans h (by decide : 1000 < 2 ^ 10)) (Nat.pow_le_pow_right (by decide) (by decide))
  refine r_newL (sz_le (by simp)) fun q6 H6 _ e6 h6 => ?_
  walk_at "rd"
  refine r_newL (sz_le (by simp)) fun q7 H7 _ e7 h7 => ?_
  walk_at "rd"
  have t1 : Tab [[0]] 1 := ⟨rfl, by decide, by decide, fun r hr => by rw [List.mem_singleton.mp hr]; rfl, fun i j hi hj => by rw [show i = 0 by omega, show j = 0 by omega], fun r hr c hc => by rw [List.mem_singleton.mp hr] at hc; rw [List.mem_singleton.mp hc]; exact z0 _ (by decide)⟩
  refine .inr ⟨false, q7, [q6], [[0]], 1, rfl, h7, RA.cons (.inl (e7 _ _ h6)) RA.nil, t1, fun a8 H8 _ e8 pl8 => ?_⟩
  walk_at "rd"
  refine r_newL (sz_le (by simp)) fun q9 H9 _ e9 h9 => ?_
  walk_at "rd"
  have tn1 : tn [[0]] 1 = [1, 0] := by decide
  rw [tn1] at pl8
  refine ⟨a8, q9, [1, 0], rfl, rfl, pl8.ex e9, h9, fun c hc => ?_, by decide, fun H10 e10 => ⟨_, rfl, ite_t rfl ?_⟩⟩
  · simp only [List.mem_cons, List.mem_nil_iff, or_false] at hc
    rcases hc with rfl | rfl <;> exact z1 _ (by decide)
  walk_at "rd"
  refine r_newT (sz_le (by simp)) fun q11 H11 _ e11 h11 => ?_
  walk_at "rd"
  refine r_newT (sz_le (by simp)) fun q12 H12 _ e12 h12 => ?_
  walk_at "rd"
  refine r_newT (sz_le (by simp)) fun q13 H13 _ e13 h13 => ?_
  walk_at "rd"
  have t2 : Tab [[2, 3], [3, -2]] 2 := by
    have sy : ∀ i, i < 2 → ∀ j, j < 2 → en [[2, 3], [3, -2]] i j = en [[2, 3], [3, -2]] j i := by decide
    refine ⟨rfl, by decide, by decide, fun r hr => ?_, fun i j hi hj => sy i hi j hj, fun r hr c hc => ?_⟩
    · simp only [List.mem_cons, List.mem_nil_iff, or_false] at hr
      rcases hr with rfl | rfl <;> rfl
    · simp only [List.mem_cons, List.mem_nil_iff, or_false] at hr
      rcases hr with rfl | rfl
      · simp only [List.mem_cons, List.mem_nil_iff, or_false] at hc
        rcases hc with rfl | rfl <;> exact z0 _ (by decide)
      · simp only [List.mem_cons, List.mem_nil_iff, or_false] at hc
        rcases hc with rfl | rfl <;> exact z0 _ (by decide)
  refine .inr ⟨true, q13, [q11, q12], [[2, 3], [3, -2]], 2, rfl, h13, RA.cons (.inr (e13 _ _ (e12 _ _ h11))) (RA.cons (.inr (e13 _ _ h12)) RA.nil), t2, fun a14 H14 _ e14 pl14 => ?_⟩
  walk_at "rd"
  refine r_newL (sz_le (by simp)) fun q15 H15 _ e15 h15 => ?_
  walk_at "rd"
  have tn2 : tn [[2, 3], [3, -2]] 2 = [1, 0, -13] := by decide
  rw [tn2] at pl14
  refine ⟨a14, q15, [1, 0, -13], rfl, rfl, pl14.ex e15, h15, fun c hc => ?_, by decide, fun H16 e16 => k _⟩
  simp only [List.mem_cons, List.mem_nil_iff, or_false] at hc
  rcases hc with rfl | rfl | rfl <;> exact z1 _ (by decide)

end K10
set_option maxHeartbeats 0
namespace K10
open PySem PySem.Spec PyProof.Rows L2 GS LamX
theorem law_fact {P : Program} {w : World} {K : PySem.W.Frag} {h : Heap} {mg : Str → Option Value} {f : Addr} (X : K.In h) (G : h.Ns mainGlobals mg) (hf : mg ("law" : Str) = some (.ref f)) (c : SaysM fa_all ex_all fn_all K) :
    ∃ fd : FuncData, (∀ (s : Shared) (u : Value), BindsTo s fd ⟨[u], []⟩ [("script", u)]) ∧ ∀ base : Heap, (∀ p ∈ tfs, TabB base mg (He.cT K p).1 (He.cT K p).2) → FnG P w K mg base (L2.CX P w) 11 f fd ["script"] (spLaw K) := by
  have T := txt_of X G c
  obtain ⟨fd, F⟩ := T.d_law
  have e := hf.symm.trans T.g_law
  cases e
  refine ⟨fd, fun s u => ?_, fun base tb => ok_law T F (tb _ (by simp))⟩
  exact F.bindsA (ps := ["script"]) (fun _ _ _ _ _ _ us hl => match us, hl with | [_], _ => rfl) s [u] rfl
theorem bits_lt (n : Int) : n.natAbs < 2 ^ Builtin.Int.intBits n := by
  unfold Builtin.Int.intBits
  split
  · rename_i h
    have : n = 0 := by simpa using h
    subst this
    decide
  · exact Nat.lt_log2_self
theorem tabs_nil {K : PySem.W.Frag} {H : Hp} (ht : ∀ p ∈ tfs, H (He.cT K p).2 = some (.tbl #[])) : Tabs (lamT K) H := by
  intro p hp
  simp only [lamT, List.mem_cons, List.mem_nil_iff, or_false] at hp
  subst hp
  exact TabS.nil (ht ("_law_refused_right", none) (by simp))
theorem law_sp {K : PySem.W.Frag} {H : Hp} {a : Addr} {ns : List Int} (bits : ∀ z ∈ ns, Builtin.Int.intBits z ≤ 1048576) (ht : ∀ p ∈ tfs, H (He.cT K p).2 = some (.tbl #[])) (hs : SqL K H a (ns.map V.int)) : spLaw K [.ref a] H (fun v _ => v = .bl true) fun _ _ _ => False := by
  refine ⟨a, ns, rfl, hs, fun x hx => ?_, tabs_nil ht, fun _ => rfl⟩
  exact Nat.lt_of_lt_of_le (bits_lt x) (Nat.pow_le_pow_right (by decide) (Nat.le_trans (bits x hx) (by decide)))
end K10
open PySem PySem.W PySem.Calls PyProof.Rows
theorem PySem.Challenge.cw_goodsigns_k10_polys_of_tables_holds : PySem.Challenge.rw_goodsigns_k10_polys_of_tables.Holds := by
  w_on; o_law
  refine HandSHeadRun.head_any (r := K10.R) (q := view K10.R.prog [50]) (H := K10.hk) (ob := K10.ob) (M := 12000) (loose := K10.loose) (d := HandSHeadRun.topDef K10.R.prog 50) (kwd := []) K10.ob_eq ?a1 (fun s => ?a2) K10.run ?a3 ?a4 ?a5 ?a6 ?a7 ?a8 ?a9 ?hw ?hc
  case a1 => kernel_rfl
  case a2 => kernel_rfl
  case a3 => kernel_rfl
  case a4 => kernel_rfl
  case a5 => kernel_rfl
  case a6 => rfl
  case a7 => first | assumption | decide +kernel
  case a8 => decide +kernel
  case a9 => exact ⟨rfl, rfl, rfl, rfl, rfl, by decide +kernel⟩
  case hw => w_witness2
  case hc =>
    refine GS.end_show (l := PySem.Challenge.rw_goodsigns_k10_polys_of_tables) (n := 63) (k := 11) (x := "script") rfl (by decide) (by kernel_rfl) ⟨rfl, by decide, by decide⟩ fun w mg fa h Y G named => ?_
    obtain ⟨K, KX, c⟩ := Y
    have hmg : mg ("law" : PySem.Str) = some (.ref fa) := by
      have e : (HandSHeadRun.topDef K10.R.prog 50).name = ("law" : PySem.Str) := by kernel_rfl
      rw [← e]
      exact named
    obtain ⟨fd, hb, hF⟩ := K10.law_fact (P := (PySem.Challenge.rw_goodsigns_k10_polys_of_tables).prog) (w := w) KX G hmg c.m
    have inm : ∀ p ∈ K10.tfs, He.cT K p ∈ K10.tfs.map (He.cT K) := fun p hp => List.mem_map.mpr ⟨p, hp, rfl⟩
    refine ⟨K, fd, K10.tfs.map (He.cT K), K10.spLaw K, KX, fun p hp => ?_, fun p hp => ?_, fun p hp => ?_, hb, fun H a ns _ bits ht hs => K10.law_sp bits (fun p hp => ht _ (inm p hp)) hs, fun base inK ns' tb => hF base (fun p hp => tb _ (inm p hp))⟩
    · obtain ⟨q, hq, rfl⟩ := List.mem_map.mp hp; exact c.empty _ hq
    · obtain ⟨q, hq, rfl⟩ := List.mem_map.mp hp; exact c.out _ hq
    · obtain ⟨q, hq, rfl⟩ := List.mem_map.mp hp; exact GS.SaysL.code KX c _ hq
