import PyProof.Rows.All
import Wide.All
import OpenK.AllK
import Wide.FinOn
import HandS.ForMost
import HandS.ForExc
import HandS.ExcInit
import HandS.ExcField
import HandS.TryMany
import HandS.IsInst
import HandS.MakeKw
import HandS.OwnEq
import HandS.Wide
import HandS.Defaults
import HandS.ClsMeth
import KE.KCallOwn
import HandS.Head0
import HandS.Head1
import HandS.Head2
import HandS.HeadEnd
import HandS.HeadHook1
import HandS.HeadHook2
import HandS.HeadNt
import HandS.WideBits
import HandS.StrMore
import HandS.Walk
import HandS.MakeKwOnly
import HandS.TupAny
import HandS.Iter
import HandS.Zip
import HandS.Gcd
import HandS.Style
import PyProof.WalksMore
import KE.GoesMore
import KE.GoesEnum
import KE.KIsAll
import HandS.ExcIs
import Flt.RightSqrt
import PyProof.ReprRoads
import HandS.Lambda
import HandS.EndTab
import HandS.EndBits
import PyProof.StrBlock2
import HandS.SortInts
import HandS.RaiseMore
import HandS.CallLocal
import KE.KMathGC
import KE.KRevSl
import HandS.ExcValue
import HandS.HeadHook4
import KE.GoesZip
import HandS.NoneIn
import KE.GoesRaise
import HandS.Head3
import PySem.Challenge.RW_goodsigns_k36_whole_mean_over_signed_ren
set_option Elab.async false
set_option linter.all false
set_option maxRecDepth 100000
set_option maxHeartbeats 4000000
/-! Polynomials as rows of integers, the highest power first. -/
namespace GM
/-- what a row is worth -/
def ev : List Int → Int → Int
  | [], _ => 0
  | a :: as, x => a * x ^ as.length + ev as x
def zadd (xs ys : List Int) : List Int := List.zipWith (· + ·) xs ys
def scl (a : Int) (bs : List Int) : List Int := bs.map (a * ·)
def zr (n : Nat) : List Int := List.replicate n 0
def mulH : List Int → List Int → List Int
  | [], bs => zr (bs.length - 1)
  | a :: as, bs => zadd (scl a bs ++ zr as.length) (0 :: mulH as bs)
theorem zr_len (n : Nat) : (zr n).length = n := by simp [zr]
theorem scl_len (a : Int) (bs : List Int) : (scl a bs).length = bs.length := by simp [scl]
theorem zadd_len {xs ys : List Int} (h : xs.length = ys.length) : (zadd xs ys).length = xs.length := by simp [zadd, h]
theorem ev_zr (n : Nat) (x : Int) : ev (zr n) x = 0 := by
  induction n with
  | zero => rfl
  | succ n ih => rw [zr, List.replicate_succ, ev]; show 0 * _ + ev (zr n) x = 0; rw [ih]; simp
theorem ev_append (as bs : List Int) (x : Int) : ev (as ++ bs) x = ev as x * x ^ bs.length + ev bs x := by
  induction as with
  | nil => simp [ev]
  | cons a as ih =>
    rw [List.cons_append, ev, ev, ih, List.length_append, Int.pow_add]
    grind
theorem ev_snoc (as : List Int) (a x : Int) : ev (as ++ [a]) x = ev as x * x + a := by
  rw [ev_append]
  simp [ev, Int.pow_succ]
theorem ev_scl (a : Int) (bs : List Int) (x : Int) : ev (scl a bs) x = a * ev bs x := by
  induction bs with
  | nil => simp [scl, ev]
  | cons b bs ih =>
    show ev (a * b :: scl a bs) x = _
    rw [ev, ev, ih, scl_len]
    grind
theorem ev_zadd : ∀ {xs ys : List Int}, xs.length = ys.length → ∀ x, ev (zadd xs ys) x = ev xs x + ev ys x
  | [], [], _, x => by simp [zadd, ev]
  | a :: as, b :: bs, h, x => by
    have h' : as.length = bs.length := by simpa using h
    show ev ((a + b) :: zadd as bs) x = _
    rw [ev, ev, ev, ev_zadd h' x, zadd_len h', h']
    grind
theorem mulH_len {bs : List Int} (hb : bs ≠ []) : ∀ as : List Int, (mulH as bs).length = as.length + bs.length - 1
  | [] => by simp [mulH, zr_len]
  | a :: as => by
    have ih := mulH_len hb as
    have : 0 < bs.length := List.length_pos_iff.mpr hb
    rw [mulH, zadd_len]
    · simp [scl_len, zr_len]; omega
    · simp [scl_len, zr_len, ih]; omega
theorem mulH_eq {bs : List Int} (hb : bs ≠ []) (a : Int) (as : List Int) : (scl a bs ++ zr as.length).length = (0 :: mulH as bs).length := by
  have : 0 < bs.length := List.length_pos_iff.mpr hb
  simp [scl_len, zr_len, mulH_len hb]; omega
theorem ev_mulH {bs : List Int} (hb : bs ≠ []) (x : Int) : ∀ as : List Int, ev (mulH as bs) x = ev as x * ev bs x
  | [] => by simp [mulH, ev_zr, ev]
  | a :: as => by
    rw [mulH, ev_zadd (mulH_eq hb a as), ev_append, ev_scl, ev_zr, ev, ev, ev_mulH hb x as, zr_len]
    grind
/-- rows of one length that are worth the same far out are one -/
theorem ext_ev : ∀ (n : Nat) {xs ys : List Int} (N : Int), xs.length = n → ys.length = n → (∀ x, N < x → ev xs x = ev ys x) → xs = ys
  | 0, xs, ys, _, hx, hy, _ => by rw [List.length_eq_zero_iff.mp hx, List.length_eq_zero_iff.mp hy]
  | n + 1, xs, ys, N, hx, hy, h => by
    rcases List.eq_nil_or_concat xs with rfl | ⟨as, a, rfl⟩
    · simp at hx
    rcases List.eq_nil_or_concat ys with rfl | ⟨bs, b, rfl⟩
    · simp at hy
    simp only [List.concat_eq_append] at *
    have hx' : as.length = n := by simpa using hx
    have hy' : bs.length = n := by simpa using hy
    have key : ∀ x, N < x → ev as x * x + a = ev bs x * x + b := fun x hx => by
      have := h x hx
      rwa [ev_snoc, ev_snoc] at this
    have ab : a = b := by
      have hk := key (N.natAbs + (b - a).natAbs + 1) (by omega)
      generalize hX : ((N.natAbs : Int) + (b - a).natAbs + 1) = X at hk
      have e : (ev as X - ev bs X) * X = b - a := by grind
      rcases Decidable.em (ev as X - ev bs X = 0) with z | z
      · rw [z] at e
        omega
      · have h1 : (b - a).natAbs = (ev as X - ev bs X).natAbs * X.natAbs := by rw [← e, Int.natAbs_mul]
        have h2 : 1 ≤ (ev as X - ev bs X).natAbs := by omega
        have h3 := Nat.mul_le_mul_right X.natAbs h2
        omega
    subst ab
    have : as = bs := ext_ev n (N.natAbs) hx' hy' fun x hx => by
      have hk := key x (by omega)
      have e : (ev as x - ev bs x) * x = 0 := by grind
      rcases Int.mul_eq_zero.mp e with z | z
      · omega
      · omega
    rw [this]
theorem ext_ev' {xs ys : List Int} (hl : xs.length = ys.length) (h : ∀ x, ev xs x = ev ys x) : xs = ys := ext_ev ys.length 0 hl rfl fun x _ => h x
/-! ### worths, step by step -/
def hor (x : Int) (t : Int) (l : List Int) : Int := l.foldl (fun t a => t * x + a) t
theorem hor_ev (x : Int) : ∀ (l : List Int) (t : Int), hor x t l = t * x ^ l.length + ev l x
  | [], t => by simp [hor, ev]
  | a :: l, t => by
    show hor x (t * x + a) l = _
    rw [hor_ev x l, ev, List.length_cons, Int.pow_succ]
    grind
/-! ### digits -/
def bal (b r : Int) : Int := if 2 * r > b then r - b else r
def digs (b : Int) : Nat → Int → List Int
  | 0, _ => []
  | n + 1, z => bal b (z % b) :: digs b n ((z - bal b (z % b)) / b)
theorem digs_len (b : Int) : ∀ (n : Nat) (z : Int), (digs b n z).length = n
  | 0, _ => rfl
  | n + 1, z => by simp [digs, digs_len b n]
theorem bal_of {b M c q : Int} (h : 2 * M < b) (h1 : -M ≤ c) (h2 : c ≤ M) : bal b ((q * b + c) % b) = c := by
  have hb : 0 < b := by omega
  have e : (q * b + c) % b = c % b := by rw [Int.add_comm, Int.add_mul_emod_self_right]
  rw [e, bal]
  rcases Int.lt_or_le c 0 with n | n
  · have : c % b = c + b := by
      rw [show c = (c + b) + (-1) * b by grind, Int.add_mul_emod_self_right]
      rw [Int.emod_eq_of_lt (by omega) (by omega)]
      grind
    rw [this, if_pos (by omega)]
    omega
  · rw [Int.emod_eq_of_lt n (by omega), if_neg (by omega)]
theorem digs_ev {b M : Int} (h : 2 * M < b) (h0 : 0 ≤ M) : ∀ (n : Nat) (l : List Int), l.length = n → (∀ c ∈ l, -M ≤ c ∧ c ≤ M) → digs b n (ev l b) = l.reverse
  | 0, l, hl, _ => by rw [List.length_eq_zero_iff.mp hl]; rfl
  | n + 1, l, hl, hc => by
    rcases List.eq_nil_or_concat l with rfl | ⟨as, a, rfl⟩
    · simp at hl
    simp only [List.concat_eq_append] at *
    have hl' : as.length = n := by simpa using hl
    obtain ⟨c1, c2⟩ := hc a (by simp)
    have e := bal_of (q := ev as b) h c1 c2
    rw [ev_snoc, digs, e, List.reverse_append, List.reverse_singleton, List.singleton_append]
    rw [show (ev as b * b + a - a) / b = ev as b by rw [Int.add_sub_cancel, Int.mul_ediv_cancel _ (by omega)]]
    rw [digs_ev h h0 n as hl' fun c m => hc c (by simp [m])]
/-! ### how great the numbers of a product are -/
theorem mem_zadd : ∀ {xs ys : List Int} {c : Int}, c ∈ zadd xs ys → ∃ a ∈ xs, ∃ b ∈ ys, c = a + b
  | [], _, c, h => by simp [zadd] at h
  | _ :: _, [], c, h => by simp [zadd] at h
  | a :: as, b :: bs, c, h => by
    rcases List.mem_cons.mp (show c ∈ (a + b) :: zadd as bs from h) with rfl | h
    · exact ⟨a, by simp, b, by simp, rfl⟩
    · obtain ⟨x, hx, y, hy, e⟩ := mem_zadd h
      exact ⟨x, by simp [hx], y, by simp [hy], e⟩
theorem mulH_le {bs : List Int} {A B : Nat} (hb : ∀ b ∈ bs, b.natAbs ≤ B) : ∀ (as : List Int), (∀ a ∈ as, a.natAbs ≤ A) → ∀ c ∈ mulH as bs, c.natAbs ≤ as.length * (A * B)
  | [], _, c, h => by
    have : c = 0 := (List.mem_replicate.mp h).2
    simp [this]
  | a :: as, ha, c, h => by
    obtain ⟨u, hu, v, hv, rfl⟩ := mem_zadd h
    have h1 : u.natAbs ≤ A * B := by
      rcases List.mem_append.mp hu with hu | hu
      · obtain ⟨b, hb', rfl⟩ := List.mem_map.mp hu
        rw [Int.natAbs_mul]
        exact Nat.mul_le_mul (ha a (by simp)) (hb b hb')
      · have : u = 0 := (List.mem_replicate.mp hu).2
        simp [this]
    have h2 : v.natAbs ≤ as.length * (A * B) := by
      rcases List.mem_cons.mp hv with rfl | hv
      · simp
      · exact mulH_le hb as (fun a m => ha a (by simp [m])) v hv
    rw [List.length_cons, Nat.add_mul]
    omega
/-! ### derived -/
def der : List Int → List Int
  | [] => []
  | [_] => []
  | a :: b :: as => a * ((as.length : Int) + 1) :: der (b :: as)
theorem der_len : ∀ l : List Int, (der l).length = l.length - 1
  | [] => rfl
  | [_] => rfl
  | a :: b :: as => by simp [der, der_len (b :: as)]
/-- the derivative's worth -/
def dv : List Int → Int → Int
  | [], _ => 0
  | a :: as, x => a * (as.length * x ^ (as.length - 1)) + dv as x
theorem ev_der (x : Int) : ∀ l : List Int, ev (der l) x = dv l x
  | [] => rfl
  | [a] => by simp [der, ev, dv]
  | a :: b :: as => by
    rw [der, ev, ev_der x (b :: as), der_len]
    show _ = a * (((b :: as).length : Int) * x ^ ((b :: as).length - 1)) + dv (b :: as) x
    simp only [List.length_cons, Nat.add_sub_cancel]
    rw [Int.natCast_add]
    grind
theorem dv_zr (n : Nat) (x : Int) : dv (zr n) x = 0 := by
  induction n with
  | zero => rfl
  | succ n ih => rw [zr, List.replicate_succ, dv]; show 0 * _ + dv (zr n) x = 0; rw [ih]; simp
theorem dv_scl (a : Int) (bs : List Int) (x : Int) : dv (scl a bs) x = a * dv bs x := by
  induction bs with
  | nil => simp [scl, dv]
  | cons b bs ih =>
    show dv (a * b :: scl a bs) x = _
    rw [dv, dv, ih, scl_len]
    grind
theorem dv_zadd : ∀ {xs ys : List Int}, xs.length = ys.length → ∀ x, dv (zadd xs ys) x = dv xs x + dv ys x
  | [], [], _, x => by simp [zadd, dv]
  | a :: as, b :: bs, h, x => by
    have h' : as.length = bs.length := by simpa using h
    show dv ((a + b) :: zadd as bs) x = _
    rw [dv, dv, dv, dv_zadd h' x, zadd_len h', h']
    grind
theorem pw_add (x : Int) (i j : Nat) : ((i + j : Nat) : Int) * x ^ (i + j - 1) = (i * x ^ (i - 1)) * x ^ j + x ^ i * (j * x ^ (j - 1)) := by
  rcases i with _ | i
  · simp
  · rcases j with _ | j
    · simp
    · rw [show i + 1 + (j + 1) - 1 = i + (j + 1) by omega, show i + 1 - 1 = i from rfl, show j + 1 - 1 = j from rfl, Int.pow_add, Int.pow_succ x j, Int.pow_succ x i]
      simp only [Int.natCast_add, Int.natCast_one]
      grind
theorem dv_append (as bs : List Int) (x : Int) : dv (as ++ bs) x = dv as x * x ^ bs.length + ev as x * (bs.length * x ^ (bs.length - 1)) + dv bs x := by
  induction as with
  | nil => simp [ev, dv]
  | cons a as ih =>
    rw [List.cons_append, dv, dv, ev, ih, List.length_append, pw_add]
    grind
theorem dv_mulH {bs : List Int} (hb : bs ≠ []) (x : Int) : ∀ as : List Int, dv (mulH as bs) x = dv as x * ev bs x + ev as x * dv bs x
  | [] => by simp [mulH, dv_zr, dv, ev]
  | a :: as => by
    rw [mulH, dv_zadd (mulH_eq hb a as), dv_append, dv_scl, dv_zr, ev_scl, dv, dv, ev, dv_mulH hb x as, zr_len]
    grind
/-- the rule of products -/
theorem der_mulH {as bs : List Int} (ha : 2 ≤ as.length) (hb : 2 ≤ bs.length) : zadd (mulH (der as) bs) (mulH as (der bs)) = der (mulH as bs) := by
  have nb : bs ≠ [] := fun z => by simp [z] at hb
  have nd : der bs ≠ [] := fun z => by have := der_len bs; rw [z] at this; simp at this; omega
  have e : (mulH (der as) bs).length = (mulH as (der bs)).length := by rw [mulH_len nb, mulH_len nd, der_len, der_len]; omega
  refine ext_ev' ?_ fun x => ?_
  · rw [zadd_len e, mulH_len nb, der_len, der_len, mulH_len nb]; omega
  · rw [ev_zadd e, ev_mulH nb, ev_mulH nd, ev_der, ev_der, ev_der, dv_mulH nb]
/-! ### a row added from a place on -/
def addR (l : List Int) (o : Nat) (s : Int) (b : List Int) : List Int := zadd l (zr o ++ (scl s b ++ zr (l.length - o - b.length)))
theorem addR_eq {l b : List Int} {o : Nat} (h : o + b.length ≤ l.length) (s : Int) : l.length = (zr o ++ (scl s b ++ zr (l.length - o - b.length))).length := by
  simp [zr_len, scl_len]; omega
theorem addR_len {l b : List Int} {o : Nat} (h : o + b.length ≤ l.length) (s : Int) : (addR l o s b).length = l.length := zadd_len (addR_eq h s)
theorem ev_addR {l b : List Int} {o : Nat} (h : o + b.length ≤ l.length) (s x : Int) : ev (addR l o s b) x = ev l x + s * ev b x * x ^ (l.length - o - b.length) := by
  rw [addR, ev_zadd (addR_eq h s), ev_append, ev_append, ev_zr, ev_zr, ev_scl, zr_len]
  grind
theorem zadd_get {xs ys : List Int} {k : Nat} (h1 : k < xs.length) (h2 : k < ys.length) : (zadd xs ys)[k]? = some (xs[k] + ys[k]) := by
  simp [zadd, List.getElem?_zipWith, h1, h2]
theorem addR_get {l b : List Int} {o : Nat} (h : o + b.length ≤ l.length) (s : Int) {k : Nat} (hk : k < l.length) : (addR l o s b)[k]? = some (l.getD k 0 + if o ≤ k ∧ k < o + b.length then s * b.getD (k - o) 0 else 0) := by
  have e := addR_eq h s
  rw [addR, zadd_get hk (by rw [← e]; exact hk)]
  have g : l.getD k 0 = l[k] := by simp [hk]
  rw [g]
  congr 2
  by_cases c1 : o ≤ k
  · by_cases c2 : k < o + b.length
    · rw [if_pos ⟨c1, c2⟩, List.getElem_append_right (by simpa [zr_len] using c1), List.getElem_append_left (by simp [zr_len, scl_len]; omega)]
      simp only [scl, List.getElem_map, zr_len]
      congr 1
      have : k - o < b.length := by omega
      simp [this]
    · rw [if_neg (fun z => c2 z.2), List.getElem_append_right (by simpa [zr_len] using c1), List.getElem_append_right (by simp [zr_len, scl_len]; omega)]
      simp [zr]
  · rw [if_neg (fun z => c1 z.1), List.getElem_append_left (by simp [zr_len]; omega)]
    simp [zr]
theorem addR_nil (l : List Int) (o : Nat) (s : Int) (h : o ≤ l.length) : addR l o s [] = l := by
  refine List.ext_getElem? fun k => ?_
  by_cases hk : k < l.length
  · rw [addR_get (by simpa using h) s hk]
    simp [hk]
  · rw [List.getElem?_eq_none (by rw [addR_len (by simpa using h)]; omega), List.getElem?_eq_none (by omega)]
theorem addR_step {l b : List Int} {o j : Nat} (h : o + b.length ≤ l.length) (hj : j < b.length) (s v : Int) (hv : v = (addR l o s (b.take j)).getD (o + j) 0 + s * b.getD j 0) : (addR l o s (b.take j)).set (o + j) v = addR l o s (b.take (j + 1)) := by
  have l1 : o + (b.take j).length ≤ l.length := by simp; omega
  have l2 : o + (b.take (j + 1)).length ≤ l.length := by simp; omega
  have old : (addR l o s (b.take j)).getD (o + j) 0 = l.getD (o + j) 0 := by
    rw [List.getD_eq_getElem?_getD, addR_get l1 s (by omega), if_neg (by simp; omega)]
    simp
  refine List.ext_getElem? fun k => ?_
  by_cases hk : k < l.length
  · rw [addR_get l2 s hk, List.getElem?_set]
    by_cases c : o + j = k
    · subst c
      rw [if_pos rfl, if_pos (by rw [addR_len l1]; exact hk), hv, old, if_pos (by simp; omega)]
      have : (b.take (j + 1)).getD (o + j - o) 0 = b.getD j 0 := by
        rw [show o + j - o = j by omega, List.getD_eq_getElem?_getD, List.getElem?_take_of_lt (by omega), List.getD_eq_getElem?_getD]
      rw [this]
    · rw [if_neg c, addR_get l1 s hk]
      congr 2
      have same : o ≤ k → k < o + j → (b.take j).getD (k - o) 0 = (b.take (j + 1)).getD (k - o) 0 := fun q0 q => by
        have z : k - o < j := by omega
        rw [List.getD_eq_getElem?_getD, List.getElem?_take_of_lt z, List.getD_eq_getElem?_getD, List.getElem?_take_of_lt (by omega)]
      have m1 : min j b.length = j := by omega
      have m2 : min (j + 1) b.length = j + 1 := by omega
      simp only [List.length_take, m1, m2]
      by_cases q : o ≤ k ∧ k < o + j
      · rw [if_pos q, if_pos ⟨q.1, by omega⟩, same q.1 q.2]
      · rw [if_neg q, if_neg (by omega)]
  · rw [List.getElem?_eq_none (by rw [List.length_set, addR_len l1]; omega), List.getElem?_eq_none (by rw [addR_len l2]; omega)]
/-! ### quotients -/
theorem ev_take {l : List Int} {j : Nat} (h : j < l.length) (x : Int) : ev (l.take (j + 1)) x = ev (l.take j) x * x + l.getD j 0 := by
  have : l.take (j + 1) = l.take j ++ [l.getD j 0] := by
    rw [List.take_add_one]
    simp [h]
  rw [this, ev_snoc]
theorem mulH_head {b : Int} {bs : List Int} (a : Int) (as : List Int) : (mulH (a :: as) (b :: bs)).headD 0 = a * b := by
  simp [mulH, zadd, scl]
theorem zr_append (i j : Nat) : zr i ++ zr j = zr (i + j) := by simp [zr]
theorem div_get {b : Int} {bs : List Int} {Q : List Int} {i : Nat} (hi : i < Q.length) : (zr i ++ mulH (Q.drop i) (b :: bs))[i]? = some (Q.getD i 0 * b) := by
  rw [List.getElem?_append_right (by simp [zr_len]), zr_len, Nat.sub_self, List.drop_eq_getElem_cons hi]
  have g : Q.getD i 0 = Q[i] := by simp [hi]
  rw [g, ← mulH_head (bs := bs) Q[i] (Q.drop (i + 1))]
  have : (mulH (Q[i] :: Q.drop (i + 1)) (b :: bs)) ≠ [] := fun z => by
    have := mulH_len (bs := b :: bs) (by simp) (Q[i] :: Q.drop (i + 1))
    rw [z] at this
    simp at this
    omega
  obtain ⟨c, cs, e⟩ := List.exists_cons_of_ne_nil this
  rw [e]
  rfl
theorem div_step {b : Int} {bs : List Int} {Q : List Int} {i : Nat} (hi : i < Q.length) : addR (zr i ++ mulH (Q.drop i) (b :: bs)) i (-(Q.getD i 0)) (b :: bs) = zr (i + 1) ++ mulH (Q.drop (i + 1)) (b :: bs) := by
  have ne : b :: bs ≠ [] := by simp
  have dl : (Q.drop i).length = Q.length - i := List.length_drop
  have dl' : (Q.drop (i + 1)).length = Q.length - (i + 1) := List.length_drop
  have l0 : (zr i ++ mulH (Q.drop i) (b :: bs)).length = Q.length + bs.length := by
    rw [List.length_append, zr_len, mulH_len ne, dl, List.length_cons]; omega
  have fit : i + (b :: bs).length ≤ (zr i ++ mulH (Q.drop i) (b :: bs)).length := by rw [l0, List.length_cons]; omega
  refine ext_ev' ?_ fun x => ?_
  · rw [addR_len fit, l0, List.length_append, zr_len, mulH_len ne, dl', List.length_cons]; omega
  · rw [ev_addR fit, ev_append, ev_append, ev_zr, ev_zr, ev_mulH ne, ev_mulH ne, l0, List.drop_eq_getElem_cons hi, ev, dl']
    have g : Q.getD i 0 = Q[i] := by simp [hi]
    rw [g, show Q.length + bs.length - i - (b :: bs).length = Q.length - (i + 1) by rw [List.length_cons]; omega]
    grind
/-! ### one number changed -/
theorem ev_set {l : List Int} {i : Nat} (h : i < l.length) (s x : Int) : ev (l.set i (l.getD i 0 + s)) x = ev l x + s * x ^ (l.length - 1 - i) := by
  have g : l.getD i 0 = l[i] := by simp [h]
  have e1 : l.set i (l.getD i 0 + s) = l.take i ++ (l[i] + s) :: l.drop (i + 1) := by rw [g, List.set_eq_take_append_cons_drop, if_pos h]
  have e2 : l = l.take i ++ l[i] :: l.drop (i + 1) := by rw [← List.drop_eq_getElem_cons h, List.take_append_drop]
  have dl : (l.drop (i + 1)).length = l.length - 1 - i := by rw [List.length_drop]; omega
  rw [e1]
  conv => rhs; rw [e2]
  rw [ev_append, ev_append, ev, ev, dl]
  simp only [List.length_append, List.length_cons, List.length_take, List.length_drop]
  rw [show min i l.length + (l.length - (i + 1) + 1) - 1 - i = l.length - 1 - i by omega]
  grind
theorem strip : ∀ (n : Nat) (l : List Int), l.length = n → (∀ x, ev l x = 0) ∨ ∃ l' a k, l = (l' ++ [a]) ++ zr k ∧ a ≠ 0
  | 0, l, h => .inl fun x => by rw [List.length_eq_zero_iff.mp h]; rfl
  | n + 1, l, h => by
    rcases List.eq_nil_or_concat l with rfl | ⟨as, a, rfl⟩
    · simp at h
    simp only [List.concat_eq_append] at *
    by_cases z : a = 0
    · subst z
      rcases strip n as (by simpa using h) with q | ⟨l', b, k, rfl, hb⟩
      · exact .inl fun x => by rw [ev_snoc, q x]; simp
      · refine .inr ⟨l', b, k + 1, ?_, hb⟩
        rw [List.append_assoc, show zr k ++ [0] = zr (k + 1) from (zr_append k 1)]
    · exact .inr ⟨as, a, 0, by simp [zr], z⟩
theorem ev_low (l : List Int) (a x : Int) : ∃ y, ev (l ++ [a]) x = x * y + a := ⟨ev l x, by rw [ev_snoc]; grind⟩
theorem mono {d o : List Int} {s : Int} {p : Nat} (hs : s = 1 ∨ s = -1) (ho : 0 < o.headD 0) (h : ∀ x, ev d x * ev o x = s * x ^ p) : o = 1 :: zr (o.length - 1) ∧ o.length - 1 ≤ p := by
  have one := h 1
  rw [Int.one_pow] at one
  rcases strip _ d rfl with q | ⟨d', b, k, ed, hb⟩
  · rw [q] at one
    omega
  rcases strip _ o rfl with q | ⟨o', a, l, eo, ha⟩
  · rw [q] at one
    omega
  have hh : ∀ x, (ev (d' ++ [b]) x * ev (o' ++ [a]) x) * x ^ (k + l) = s * x ^ p := fun x => by
    rw [← h x, ed, eo, ev_append _ (zr k), ev_append _ (zr l), ev_zr, ev_zr, zr_len, zr_len, Int.pow_add]
    grind
  have le : k + l ≤ p := by
    rcases Nat.lt_or_ge p (k + l) with c | c
    · obtain ⟨j, hj⟩ : ∃ j, k + l = p + (j + 1) := ⟨k + l - p - 1, by omega⟩
      have h3 := hh 2
      rw [hj, Int.pow_add, Int.pow_succ] at h3
      have np : (2 : Int) ^ p ≠ 0 := by have := Int.pow_pos (n := 2) (m := p) (by omega); omega
      have e : (ev (d' ++ [b]) 2 * ev (o' ++ [a]) 2 * 2 ^ j * 2) * 2 ^ p = s * 2 ^ p := by rw [← h3]; grind
      have := Int.eq_of_mul_eq_mul_right np e
      omega
    · exact c
  obtain ⟨r, rfl⟩ : ∃ r, p = k + l + r := ⟨p - (k + l), by omega⟩
  have hr : ∀ x, 0 < x → ev (d' ++ [b]) x * ev (o' ++ [a]) x = s * x ^ r := fun x hx => by
    have np : x ^ (k + l) ≠ 0 := by have := Int.pow_pos (n := x) (m := k + l) hx; omega
    refine Int.eq_of_mul_eq_mul_right np ?_
    rw [hh x, Int.pow_add]
    grind
  have r0 : r = 0 := by
    rcases r with _ | r
    · rfl
    · exfalso
      have nz : b * a ≠ 0 := Int.mul_ne_zero hb ha
      generalize hX : ((b * a).natAbs : Int) + 1 = X
      have hx := hr X (by omega)
      obtain ⟨y1, e1⟩ := ev_low d' b X
      obtain ⟨y2, e2⟩ := ev_low o' a X
      rw [e1, e2, Int.pow_succ] at hx
      have : b * a = X * (s * X ^ r - (X * y1 * y2 + y1 * a + b * y2)) := by grind
      have hd : X ∣ b * a := ⟨_, this⟩
      have := Int.natAbs_dvd_natAbs.mpr hd
      have := Nat.le_of_dvd (by omega) this
      omega
  subst r0
  have sq : ∀ x, 0 < x → ev (o' ++ [a]) x * ev (o' ++ [a]) x = 1 := fun x hx => by
    have e := hr x hx
    rw [Int.pow_zero, Int.mul_one] at e
    have u : (ev (o' ++ [a]) x).natAbs = 1 := by
      have : (ev (d' ++ [b]) x).natAbs * (ev (o' ++ [a]) x).natAbs = 1 := by rw [← Int.natAbs_mul, e]; omega
      exact Nat.eq_one_of_mul_eq_one_left this
    rcases Int.natAbs_eq (ev (o' ++ [a]) x) with z | z <;> rw [u] at z <;> rw [z] <;> decide
  have ne : o' ++ [a] ≠ [] := by simp
  have e : mulH (o' ++ [a]) (o' ++ [a]) = zr ((mulH (o' ++ [a]) (o' ++ [a])).length - 1) ++ [1] := by
    have l0 := mulH_len ne (o' ++ [a])
    simp only [List.length_append, List.length_singleton] at l0
    refine ext_ev _ 0 rfl (by rw [List.length_append, zr_len]; simp; omega) fun x hx => ?_
    rw [ev_mulH ne, sq x hx, ev_snoc, ev_zr]
    simp
  obtain ⟨c, cs, ec⟩ := List.exists_cons_of_ne_nil ne
  have hc : 0 < c := by
    rw [eo, ec] at ho
    simpa using ho
  rw [ec] at e
  have hd := mulH_head (b := c) (bs := cs) c cs
  have pos : 0 < c * c := Int.mul_pos hc hc
  rw [e] at hd
  have l0 := mulH_len (bs := c :: cs) (by simp) (c :: cs)
  rcases hcs : cs with _ | ⟨c2, cs2⟩
  · subst hcs
    simp [mulH, zadd, scl, zr] at hd
    have c1 : c = 1 := by
      rcases Int.lt_or_le c 2 with z | z
      · omega
      · have := Int.mul_le_mul z z (by omega) (by omega)
        omega
    subst c1
    rw [eo, ec]
    exact ⟨by simp [zr_len], by simp [zr_len] <;> omega⟩
  · exfalso
    subst hcs
    rw [l0] at hd
    simp only [List.length_cons] at hd
    rw [show cs2.length + 1 + 1 + (cs2.length + 1 + 1) - 1 - 1 = (cs2.length + cs2.length + 1) + 1 by omega] at hd
    simp [zr, List.replicate_succ] at hd
    omega
/-- the quotient of a product of which one number is changed -/
theorem changed {one other Q : List Int} {power : Nat} {s : Int} (hs : s = 1 ∨ s = -1) (h1 : one ≠ []) (ho : 0 < other.headD 0) (hl : Q.length = one.length) (hp : power < one.length + other.length - 1)
    (h : ∀ x, ev one x * ev other x + s * x ^ power = ev Q x * ev other x) :
    other = 1 :: zr (other.length - 1) ∧ other.length - 1 ≤ power ∧ Q = one.set (one.length - 1 - (power - (other.length - 1))) (one.getD (one.length - 1 - (power - (other.length - 1))) 0 + s) := by
  have e : Q.length = (scl (-1) one).length := by rw [scl_len, hl]
  obtain ⟨a, b⟩ := mono (d := zadd Q (scl (-1) one)) (p := power) hs ho fun x => by
    rw [ev_zadd e, ev_scl]
    have := h x
    grind
  refine ⟨a, b, ?_⟩
  have hn : 0 < one.length := List.length_pos_iff.mpr h1
  have hi : one.length - 1 - (power - (other.length - 1)) < one.length := by omega
  refine ext_ev _ 0 hl (by simp) fun x hx => ?_
  rw [ev_set hi]
  have eo : ev other x = x ^ (other.length - 1) := by
    conv => lhs; rw [a]
    rw [ev, ev_zr, zr_len]
    simp
  have hx' := h x
  rw [eo] at hx'
  have np : x ^ (other.length - 1) ≠ 0 := by have := Int.pow_pos (n := x) (m := other.length - 1) hx; omega
  refine Int.eq_of_mul_eq_mul_right np ?_
  rw [← hx']
  rw [show one.length - 1 - (one.length - 1 - (power - (other.length - 1))) = power - (other.length - 1) by omega, Int.add_mul, Int.mul_assoc, ← Int.pow_add, show power - (other.length - 1) + (other.length - 1) = power by omega]
/-! ### u + v root c -/
abbrev P2 := Int × Int
def rm (u : Int) (a b : P2) : P2 := (a.1 * b.1 + a.2 * b.2 * u, a.1 * b.2 + a.2 * b.1)
def ra (a b : P2) : P2 := (a.1 + b.1, a.2 + b.2)
def rs (n : Int) (a : P2) : P2 := (n * a.1, n * a.2)
def rp (u : Int) (z : P2) : Nat → P2
  | 0 => (1, 0)
  | n + 1 => rm u (rp u z n) z
def eR (u : Int) (z : P2) : List Int → P2
  | [] => (0, 0)
  | a :: as => ra (rs a (rp u z as.length)) (eR u z as)
theorem p2 {a b : P2} (h1 : a.1 = b.1) (h2 : a.2 = b.2) : a = b := Prod.ext h1 h2
section
variable (u : Int) (z : P2)
theorem rp_add (i : Nat) : ∀ j, rp u z (i + j) = rm u (rp u z i) (rp u z j)
  | 0 => by simp [rp, rm]
  | j + 1 => by
    rw [← Nat.add_assoc, rp, rp_add i j, rp]
    apply p2 <;> simp only [rm] <;> grind
theorem eR_append (as bs : List Int) : eR u z (as ++ bs) = ra (rm u (eR u z as) (rp u z bs.length)) (eR u z bs) := by
  induction as with
  | nil => simp [eR, rm, ra]
  | cons a as ih =>
    rw [List.cons_append, eR, eR, ih, List.length_append, rp_add]
    apply p2 <;> simp only [rm, ra, rs] <;> grind
theorem eR_zr (n : Nat) : eR u z (zr n) = (0, 0) := by
  induction n with
  | zero => rfl
  | succ n ih =>
    rw [zr, List.replicate_succ, eR]
    show ra _ (eR u z (zr n)) = _
    rw [ih]
    simp [ra, rs]
theorem eR_scl (a : Int) (bs : List Int) : eR u z (scl a bs) = rs a (eR u z bs) := by
  induction bs with
  | nil => simp [scl, eR, rs]
  | cons b bs ih =>
    show eR u z (a * b :: scl a bs) = _
    rw [eR, eR, ih, scl_len]
    apply p2 <;> simp only [ra, rs] <;> grind
theorem eR_zadd : ∀ {xs ys : List Int}, xs.length = ys.length → eR u z (zadd xs ys) = ra (eR u z xs) (eR u z ys)
  | [], [], _ => by simp [zadd, eR, ra]
  | a :: as, b :: bs, h => by
    have h' : as.length = bs.length := by simpa using h
    show eR u z ((a + b) :: zadd as bs) = _
    rw [eR, eR, eR, eR_zadd h', zadd_len h', h']
    apply p2 <;> simp only [ra, rs] <;> grind
theorem eR_mulH {bs : List Int} (hb : bs ≠ []) : ∀ as : List Int, eR u z (mulH as bs) = rm u (eR u z as) (eR u z bs)
  | [] => by simp [mulH, eR_zr, eR, rm]
  | a :: as => by
    rw [mulH, eR_zadd u z (mulH_eq hb a as), eR_append, eR_scl, eR_zr, eR, eR, eR_mulH hb as, zr_len]
    apply p2 <;> simp only [rm, ra, rs] <;> grind
/-- the numbers up to the one at j, worked out at z -/
def Hn (c : Nat → P2) : Nat → P2
  | 0 => c 0
  | j + 1 => ra (rm u (Hn c j) z) (c (j + 1))
theorem Hn_congr {c d : Nat → P2} : ∀ j, (∀ k ≤ j, c k = d k) → Hn u z c j = Hn u z d j
  | 0, h => h 0 (Nat.le_refl _)
  | j + 1, h => by rw [Hn, Hn, Hn_congr j fun k hk => h k (by omega), h (j + 1) (Nat.le_refl _)]
theorem Hn_eR (p : List Int) : ∀ j, j < p.length → Hn u z (fun k => (p.getD k 0, 0)) j = eR u z (p.take (j + 1))
  | 0, h => by
    rw [List.take_one]
    rcases p with _ | ⟨a, p⟩
    · simp at h
    · simp [Hn, eR, ra, rs, rp]
  | j + 1, h => by
    have e : p.take (j + 1 + 1) = p.take (j + 1) ++ [p.getD (j + 1) 0] := by
      rw [List.take_add_one (l := p) (i := j + 1)]
      simp [h]
    rw [Hn, Hn_eR p j (by omega), e, eR_append]
    apply p2 <;> simp [rm, ra, rs, eR, rp]
end
/-- each number with t times the new one ahead of it -/
def sc (u : Int) (t : P2) (c : Nat → P2) : Nat → P2
  | 0 => c 0
  | k + 1 => ra (c (k + 1)) (rm u t (sc u t c k))
theorem Hn_sc (u : Int) (t : P2) (y : Int) (c : Nat → P2) : ∀ j, Hn u (ra (y, 0) t) c (j + 1) = ra (rs y (Hn u (ra (y, 0) t) (sc u t c) j)) (sc u t c (j + 1))
  | 0 => by
    simp only [Hn, sc]
    apply p2 <;> simp only [rm, ra, rs] <;> grind
  | j + 1 => by
    rw [Hn, Hn_sc u t y c j, Hn]
    rw [show sc u t c (j + 1 + 1) = ra (c (j + 1 + 1)) (rm u t (sc u t c (j + 1))) from rfl]
    apply p2 <;> simp only [rm, ra, rs] <;> grind
/-- the numbers worked out at an integer -/
def En (y : Int) (c : Nat → P2) : Nat → P2
  | 0 => (0, 0)
  | m + 1 => ra (rs y (En y c m)) (c m)
theorem En_congr (y : Int) {c d : Nat → P2} : ∀ m, (∀ k < m, c k = d k) → En y c m = En y d m
  | 0, _ => rfl
  | m + 1, h => by rw [En, En, En_congr y m fun k hk => h k (by omega), h m (by omega)]
theorem En_cons (y : Int) (c : Nat → P2) : ∀ m, En y c (m + 1) = ra (rs (y ^ m) (c 0)) (En y (fun k => c (k + 1)) m)
  | 0 => by apply p2 <;> simp [En, ra, rs]
  | m + 1 => by
    rw [En, En_cons y c m, En, Int.pow_succ]
    apply p2 <;> simp only [ra, rs] <;> grind
def Shd (u : Int) (t : P2) (n : Nat) (P : Int → P2) (e : Nat) (c : Nat → P2) : Prop := ∀ y, P y = ra (rs (y ^ (n - e)) (Hn u (ra (y, 0) t) c e)) (En y (fun k => c (e + 1 + k)) (n - e))
theorem Shd.first (u : Int) (t : P2) {p : List Int} {n : Nat} (h : p.length = n + 1) : Shd u t n (fun y => eR u (ra (y, 0) t) p) n (fun k => (p.getD k 0, 0)) := fun y => by
  rw [Nat.sub_self, Hn_eR u _ p n (by omega), List.take_of_length_le (by omega)]
  apply p2 <;> simp [ra, rs, En]
theorem Shd.step {u : Int} {t : P2} {n e : Nat} {P : Int → P2} {c : Nat → P2} (he : e + 1 ≤ n) (h : Shd u t n P (e + 1) c) : Shd u t n P e (fun k => if k ≤ e + 1 then sc u t c k else c k) := fun y => by
  rw [h y, Hn_sc, show n - e = (n - (e + 1)) + 1 by omega, En_cons, Int.pow_succ]
  have e1 : Hn u (ra (y, 0) t) (fun k => if k ≤ e + 1 then sc u t c k else c k) e = Hn u (ra (y, 0) t) (sc u t c) e := Hn_congr _ _ e fun k hk => if_pos (by omega)
  have e2 : En y (fun k => (fun k => (fun k => if k ≤ e + 1 then sc u t c k else c k) (e + 1 + k)) (k + 1)) (n - (e + 1)) = En y (fun k => c (e + 1 + 1 + k)) (n - (e + 1)) := En_congr y _ fun k _ => by
    show (if e + 1 + (k + 1) ≤ e + 1 then _ else _) = _
    rw [if_neg (by omega), show e + 1 + (k + 1) = e + 1 + 1 + k by omega]
  rw [e1, e2]
  show _ = ra _ (ra (rs _ (if e + 1 + 0 ≤ e + 1 then _ else _)) _)
  rw [if_pos (by omega), Nat.add_zero]
  apply p2 <;> simp only [ra, rs] <;> grind
theorem Shd.last {u : Int} {t : P2} {n : Nat} {P : Int → P2} {c : Nat → P2} (h : Shd u t n P 0 c) (y : Int) : P y = En y c (n + 1) := by
  rw [h y, En_cons]
  simp only [Nat.sub_zero, Hn, Nat.zero_add]
  congr 2
  funext k
  rw [Nat.add_comm]
theorem En_ev (y : Int) (c : Nat → P2) : ∀ m, (En y c m).1 = ev ((List.range m).map fun k => (c k).1) y ∧ (En y c m).2 = ev ((List.range m).map fun k => (c k).2) y
  | 0 => ⟨rfl, rfl⟩
  | m + 1 => by
    obtain ⟨a, b⟩ := En_ev y c m
    rw [List.range_succ, List.map_append, List.map_append, List.map_singleton, List.map_singleton, ev_snoc, ev_snoc, ← a, ← b, En]
    exact ⟨by simp only [ra, rs]; grind, by simp only [ra, rs]; grind⟩
theorem En_ext {c d : Nat → P2} {m : Nat} (h : ∀ y, En y c m = En y d m) {k : Nat} (hk : k < m) : c k = d k := by
  have a : ((List.range m).map fun k => (c k).1) = (List.range m).map fun k => (d k).1 := ext_ev' (by simp) fun y => by rw [← (En_ev y c m).1, h y, (En_ev y d m).1]
  have b : ((List.range m).map fun k => (c k).2) = (List.range m).map fun k => (d k).2 := ext_ev' (by simp) fun y => by rw [← (En_ev y c m).2, h y, (En_ev y d m).2]
  have a' := congrArg (fun l : List Int => l[k]?) a
  have b' := congrArg (fun l : List Int => l[k]?) b
  simp [hk] at a' b'
  exact p2 a' b'
theorem En_add (y : Int) (c d : Nat → P2) : ∀ m, En y (fun k => ra (c k) (d k)) m = ra (En y c m) (En y d m)
  | 0 => rfl
  | m + 1 => by
    rw [En, En_add y c d m, En, En]
    apply p2 <;> simp only [ra, rs] <;> grind
/-- a row of products from a place on -/
def rowD (u : Int) (i : Nat) (a : P2) (B : Nat → P2) (m : Nat) (k : Nat) : P2 := if i ≤ k ∧ k < i + m then rm u a (B (k - i)) else (0, 0)
theorem En_row0 (u y : Int) (i : Nat) (a : P2) (B : Nat → P2) (m : Nat) : ∀ L, L ≤ i → En y (rowD u i a B m) L = (0, 0)
  | 0, _ => rfl
  | L + 1, h => by
    rw [En, En_row0 u y i a B m L (by omega), rowD, if_neg (by omega)]
    simp [ra, rs]
theorem En_row1 (u y : Int) (i : Nat) (a : P2) (B : Nat → P2) (m : Nat) : ∀ q, q ≤ m → En y (rowD u i a B m) (i + q) = rm u a (En y B q)
  | 0, _ => by rw [Nat.add_zero, En_row0 u y i a B m i (Nat.le_refl _)]; simp [En, rm]
  | q + 1, h => by
    rw [← Nat.add_assoc, En, En_row1 u y i a B m q (by omega), rowD, if_pos (by omega), Nat.add_sub_cancel_left, En]
    apply p2 <;> simp only [ra, rs, rm] <;> grind
theorem En_row2 (u y : Int) (i : Nat) (a : P2) (B : Nat → P2) (m : Nat) : ∀ r, En y (rowD u i a B m) (i + m + r) = rs (y ^ r) (rm u a (En y B m))
  | 0 => by rw [Nat.add_zero, En_row1 u y i a B m m (Nat.le_refl _)]; simp [rs]
  | r + 1 => by
    rw [← Nat.add_assoc, En, En_row2 u y i a B m r, rowD, if_neg (by omega), Int.pow_succ]
    apply p2 <;> simp only [ra, rs] <;> grind
/-- the product of two rows, row by row -/
def Fn (u : Int) (A B : Nat → P2) (m : Nat) : Nat → Nat → P2
  | 0, _ => (0, 0)
  | i + 1, k => ra (Fn u A B m i k) (rowD u i (A i) B m k)
theorem En_zero (y : Int) : ∀ L, En y (fun _ => ((0 : Int), (0 : Int))) L = (0, 0)
  | 0 => rfl
  | L + 1 => by rw [En, En_zero y L]; simp [ra, rs]
theorem En_Fn (u y : Int) (A B : Nat → P2) (m n : Nat) (hm : 1 ≤ m) (hn : 1 ≤ n) : ∀ i, i ≤ n → En y (Fn u A B m i) (n + m - 1) = rs (y ^ (n - i)) (rm u (En y A i) (En y B m))
  | 0, _ => by
    show En y (fun _ => ((0 : Int), (0 : Int))) _ = _
    rw [En_zero]
    simp [En, rm, rs]
  | i + 1, h => by
    show En y (fun k => ra (Fn u A B m i k) (rowD u i (A i) B m k)) _ = _
    rw [En_add, En_Fn u y A B m n hm hn i (by omega)]
    have e := En_row2 u y i (A i) B m (n - (i + 1))
    rw [show i + m + (n - (i + 1)) = n + m - 1 by omega] at e
    rw [e, En, show n - i = (n - (i + 1)) + 1 by omega, Int.pow_succ]
    apply p2 <;> simp only [ra, rs, rm] <;> grind
/-- the numbers of a shifted product are those of the product -/
theorem shift_prod {u : Int} {t : P2} {one other : List Int} (h1 : one ≠ []) (h2 : other ≠ []) {A B C : Nat → P2} (hA : ∀ y, eR u (ra (y, 0) t) one = En y A one.length) (hB : ∀ y, eR u (ra (y, 0) t) other = En y B other.length)
    (hC : ∀ y, eR u (ra (y, 0) t) (mulH one other) = En y C (one.length + other.length - 1)) {k : Nat} (hk : k < one.length + other.length - 1) : Fn u A B other.length one.length k = C k := by
  have l1 : 0 < one.length := List.length_pos_iff.mpr h1
  have l2 : 0 < other.length := List.length_pos_iff.mpr h2
  refine En_ext (m := one.length + other.length - 1) (fun y => ?_) hk
  rw [En_Fn u y A B other.length one.length l2 l1 one.length (Nat.le_refl _), ← hC, eR_mulH u _ h2, hA, hB, Nat.sub_self]
  simp [rs]
end GM
/-! Sums in the mean of rows of integers. -/
namespace GM
def sm : Nat → (Nat → Int) → Int
  | 0, _ => 0
  | n + 1, f => sm n f + f n
theorem sm_congr {n : Nat} {f g : Nat → Int} (h : ∀ i, i < n → f i = g i) : sm n f = sm n g := by
  induction n with
  | zero => rfl
  | succ n ih => rw [sm, sm, ih fun i hi => h i (by omega), h n (by omega)]
theorem sm_zero (n : Nat) : sm n (fun _ => 0) = 0 := by
  induction n with
  | zero => rfl
  | succ n ih => rw [sm, ih]; rfl
theorem sm_add (n : Nat) (f g : Nat → Int) : sm n (fun i => f i + g i) = sm n f + sm n g := by
  induction n with
  | zero => rfl
  | succ n ih => rw [sm, sm, sm, ih]; omega
theorem sm_mul (n : Nat) (c : Int) (f : Nat → Int) : sm n (fun i => c * f i) = c * sm n f := by
  induction n with
  | zero => simp [sm]
  | succ n ih => rw [sm, sm, ih, Int.mul_add]
theorem sm_mulR (n : Nat) (c : Int) (f : Nat → Int) : sm n (fun i => f i * c) = sm n f * c := by
  induction n with
  | zero => simp [sm]
  | succ n ih => rw [sm, sm, ih, Int.add_mul]
theorem sm_cons (n : Nat) (f : Nat → Int) : sm (n + 1) f = f 0 + sm n (fun i => f (i + 1)) := by
  induction n with
  | zero => simp [sm]
  | succ n ih => rw [sm, ih, sm]; omega
theorem sm_refl (n : Nat) (f : Nat → Int) : sm n f = sm n (fun i => f (n - 1 - i)) := by
  induction n with
  | zero => rfl
  | succ n ih =>
    rw [sm_cons n (fun i => f (n + 1 - 1 - i)), sm, ih]
    have e : sm n (fun i => f (n + 1 - 1 - (i + 1))) = sm n (fun i => f (n - 1 - i)) := sm_congr fun i hi => by rw [show n + 1 - 1 - (i + 1) = n - 1 - i by omega]
    rw [e]
    simp
    omega
theorem sm_tri (n : Nat) (F : Nat → Nat → Int) : sm n (fun i => sm (i + 1) (F i)) = sm n (fun j => sm (n - j) (fun l => F (j + l) j)) := by
  induction n with
  | zero => rfl
  | succ n ih =>
    have e : sm (n + 1) (fun j => sm (n + 1 - j) (fun l => F (j + l) j)) = sm (n + 1) (fun j => sm (n - j) (fun l => F (j + l) j) + F n j) := sm_congr fun j hj => by
      rw [show n + 1 - j = (n - j) + 1 by omega, sm, show j + (n - j) = n by omega]
    have e2 : sm (n + 1) (fun j => sm (n - j) (fun l => F (j + l) j)) = sm n (fun j => sm (n - j) (fun l => F (j + l) j)) := by
      show sm n _ + sm (n - n) _ = _
      rw [Nat.sub_self]
      exact Int.add_zero _
    rw [e, sm_add, e2, ← ih]
    rfl
/-- the product of rows of numbers -/
def cv (f g : Nat → Int) (k : Nat) : Int := sm (k + 1) (fun i => f i * g (k - i))
theorem cv_congr {f f' g g' : Nat → Int} {k : Nat} (h1 : ∀ i, i ≤ k → f i = f' i) (h2 : ∀ i, i ≤ k → g i = g' i) : cv f g k = cv f' g' k := sm_congr fun i hi => by rw [h1 i (by omega), h2 (k - i) (by omega)]
theorem cv_comm (f g : Nat → Int) (k : Nat) : cv f g k = cv g f k := by
  unfold cv
  rw [sm_refl]
  exact sm_congr fun i hi => by
    rw [show k + 1 - 1 - i = k - i by omega, show k - (k - i) = i by omega, Int.mul_comm]
theorem cv_assoc (f g h : Nat → Int) (k : Nat) : cv (cv f g) h k = cv f (cv g h) k := by
  have e1 : cv (cv f g) h k = sm (k + 1) (fun i => sm (i + 1) (fun j => f j * g (i - j) * h (k - i))) := sm_congr fun i hi => by
    show cv f g i * _ = _
    unfold cv
    rw [← sm_mulR]
  rw [e1, sm_tri]
  refine sm_congr fun j hj => ?_
  show _ = f j * cv g h (k - j)
  unfold cv
  rw [← sm_mul, show k + 1 - j = k - j + 1 by omega]
  exact sm_congr fun l hl => by
    rw [show j + l - j = l by omega, show k - (j + l) = k - j - l by omega, Int.mul_assoc]
theorem cv_scaleL {f f' g : Nat → Int} {s t : Int} {k : Nat} (h : ∀ i, i ≤ k → s * f i = t * f' i) : s * cv f g k = t * cv f' g k := by
  unfold cv
  rw [← sm_mul, ← sm_mul]
  exact sm_congr fun i hi => by rw [← Int.mul_assoc, ← Int.mul_assoc, h i (by omega)]
theorem cv_delta (c : Int) (g : Nat → Int) (k : Nat) : cv (fun i => if i = 0 then c else 0) g k = c * g k := by
  unfold cv
  rw [sm_cons]
  have e : sm k (fun i => (if i + 1 = 0 then c else 0) * g (k - (i + 1))) = 0 := by
    refine (sm_congr fun i _ => ?_).trans (sm_zero k)
    simp
  rw [e]
  simp
/-! ### lowest terms -/
def glF (d : Int) (ns : List Int) : Int := ns.foldl (fun d v => ((Nat.gcd d.natAbs v.natAbs : Nat) : Int)) d
def gl (ns : List Int) : Int := glF 0 ns
theorem glF_nonneg : ∀ (ns : List Int) (d : Int), 0 ≤ d → 0 ≤ glF d ns
  | [], _, h => h
  | n :: ns, d, _ => glF_nonneg ns _ (Int.natCast_nonneg _)
theorem gl_nonneg (ns : List Int) : 0 ≤ gl ns := glF_nonneg ns 0 (Int.le_refl 0)
theorem glF_dvd : ∀ (ns : List Int) (d : Int), (glF d ns ∣ d) ∧ ∀ c ∈ ns, glF d ns ∣ c
  | [], d => ⟨Int.dvd_refl d, fun _ z => by cases z⟩
  | n :: ns, d => by
    obtain ⟨h1, h2⟩ := glF_dvd ns ((Nat.gcd d.natAbs n.natAbs : Nat) : Int)
    refine ⟨Int.dvd_trans h1 (Int.ofNat_dvd_left.mpr (Nat.gcd_dvd_left _ _)), fun c hc => ?_⟩
    rcases List.mem_cons.mp hc with rfl | hc
    · exact Int.dvd_trans h1 (Int.ofNat_dvd_left.mpr (Nat.gcd_dvd_right _ _))
    · exact h2 c hc
theorem gl_dvd {ns : List Int} {c : Int} (h : c ∈ ns) : gl ns ∣ c := (glF_dvd ns 0).2 c h
theorem glF_great : ∀ (ns : List Int) (d : Int) {k : Int}, k ∣ d → (∀ c ∈ ns, k ∣ c) → k ∣ glF d ns
  | [], _, _, h, _ => h
  | n :: ns, d, k, h, h2 => glF_great ns _ (by
      have a : k.natAbs ∣ d.natAbs := Int.natAbs_dvd_natAbs.mpr h
      have b : k.natAbs ∣ n.natAbs := Int.natAbs_dvd_natAbs.mpr (h2 n (by simp))
      have := Nat.dvd_gcd a b
      exact Int.natAbs_dvd.mp (Int.ofNat_dvd.mpr this)) fun c hc => h2 c (by simp [hc])
theorem gl_great {ns : List Int} {k : Int} (h : ∀ c ∈ ns, k ∣ c) : k ∣ gl ns := glF_great ns 0 (Int.dvd_zero k) h
theorem gl_pos {ns : List Int} (h : 0 < ns.headD 0) : 0 < gl ns := by
  have h0 := gl_nonneg ns
  cases ns with
  | nil => exact absurd h (by decide)
  | cons n r =>
    have h : 0 < n := h
    have d : gl (n :: r) ∣ n := gl_dvd (by simp)
    by_cases z : gl (n :: r) = 0
    · rw [z] at d
      have := Int.zero_dvd.mp d
      omega
    · omega
theorem glF_scl {c : Int} (hc : 0 < c) : ∀ (ns : List Int) (d : Int), 0 ≤ d → glF (c * d) (scl c ns) = c * glF d ns
  | [], _, _ => rfl
  | n :: ns, d, hd => by
    show glF _ (scl c ns) = c * glF _ ns
    rw [← glF_scl hc ns _ (Int.natCast_nonneg _)]
    congr 1
    show ((Nat.gcd (c * d).natAbs (c * n).natAbs : Nat) : Int) = c * ((Nat.gcd d.natAbs n.natAbs : Nat) : Int)
    rw [Int.natAbs_mul, Int.natAbs_mul, Nat.gcd_mul_left, Int.natCast_mul, Int.natAbs_of_nonneg (Int.le_of_lt hc)]
theorem gl_scl {c : Int} (hc : 0 < c) (ns : List Int) : gl (scl c ns) = c * gl ns := by
  have h := glF_scl hc ns 0 (Int.le_refl 0)
  rw [Int.mul_zero] at h
  exact h
def low (ns : List Int) : List Int := ns.map fun c => c / gl ns
theorem low_len (ns : List Int) : (low ns).length = ns.length := by simp [low]
theorem low_scl {c : Int} (hc : 0 < c) (ns : List Int) : low (scl c ns) = low ns := by
  unfold low
  rw [gl_scl hc, scl, List.map_map]
  refine List.map_congr_left fun x _ => ?_
  show c * x / (c * gl ns) = _
  rw [Int.mul_ediv_mul_of_pos _ _ hc]
theorem scl_low (ns : List Int) : scl (gl ns) (low ns) = ns := by
  unfold scl low
  rw [List.map_map]
  refine List.ext_getElem (by simp) fun i h1 h2 => ?_
  simp only [List.getElem_map, Function.comp]
  exact Int.mul_ediv_cancel' (gl_dvd (List.getElem_mem _))
theorem getD_scl (c : Int) (ns : List Int) (k : Nat) : (scl c ns).getD k 0 = c * ns.getD k 0 := by
  unfold scl
  rw [List.getD_eq_getElem?_getD, List.getD_eq_getElem?_getD, List.getElem?_map]
  cases ns[k]? <;> simp
theorem ext_getD {p q : List Int} (h : p.length = q.length) (e : ∀ k, k < p.length → p.getD k 0 = q.getD k 0) : p = q := by
  refine List.ext_getElem h fun i h1 h2 => ?_
  have := e i h1
  simpa [List.getD_eq_getElem?_getD, h1, h2] using this
theorem low_eq {p q : List Int} {s t : Int} (hs : 0 < s) (ht : 0 < t) (h : p.length = q.length) (e : ∀ k, k < p.length → s * p.getD k 0 = t * q.getD k 0) : low p = low q := by
  rw [← low_scl hs p, ← low_scl ht q]
  congr 1
  refine ext_getD (by rw [scl_len, scl_len, h]) fun k hk => ?_
  rw [scl_len] at hk
  rw [getD_scl, getD_scl]
  exact e k hk
theorem low_head {ns : List Int} (h : 0 < ns.headD 0) : 0 < (low ns).headD 0 := by
  cases ns with
  | nil => exact absurd h (by decide)
  | cons n r =>
    have g := gl_pos h
    have h : 0 < n := h
    show 0 < n / gl (n :: r)
    have d : gl (n :: r) ∣ n := gl_dvd (by simp)
    obtain ⟨q, hq⟩ := d
    have : n / gl (n :: r) = q := by
      rw [show n / gl (n :: r) = (gl (n :: r) * q) / gl (n :: r) from by rw [← hq]]
      exact Int.mul_ediv_cancel_left _ (by omega)
    rw [this]
    by_cases z : 0 < q
    · exact z
    · have : gl (n :: r) * q ≤ 0 := Int.mul_nonpos_of_nonneg_of_nonpos (by omega) (by omega)
      omega
theorem low_abs {ns : List Int} {c : Int} (hc : c ∈ low ns) (h : 0 < ns.headD 0) : ∃ n ∈ ns, c.natAbs ≤ n.natAbs := by
  obtain ⟨n, hn, rfl⟩ := List.mem_map.mp hc
  refine ⟨n, hn, ?_⟩
  have g := gl_pos h
  obtain ⟨q, hq⟩ := gl_dvd hn
  have e : n / gl ns = q := by
    rw [show n / gl ns = (gl ns * q) / gl ns from by rw [← hq]]
    exact Int.mul_ediv_cancel_left _ (by omega)
  show (n / gl ns).natAbs ≤ _
  rw [e, hq, Int.natAbs_mul]
  exact Nat.le_mul_of_pos_left _ (by omega)
/-! ### weights -/
/-- weights of a degree: above 0, each divides the first -/
structure Wt (d : Nat) (W : Nat → Int) : Prop where
  pos : ∀ k, k ≤ d → 0 < W k
  dvd : ∀ k, k ≤ d → W k ∣ W 0
def hat (W : Nat → Int) (a : List Int) (k : Nat) : Int := a.getD k 0 * W k
def fnd (d : Nat) (W : Nat → Int) (a b : List Int) : List Int := (List.range (d + 1)).map fun k => cv (hat W a) (hat W b) k * (W 0 / W k)
theorem fnd_len (d : Nat) (W : Nat → Int) (a b : List Int) : (fnd d W a b).length = d + 1 := by simp [fnd]
theorem fnd_get {d : Nat} {W : Nat → Int} {a b : List Int} {k : Nat} (hk : k ≤ d) : (fnd d W a b).getD k 0 = cv (hat W a) (hat W b) k * (W 0 / W k) := by
  unfold fnd
  rw [List.getD_eq_getElem?_getD, List.getElem?_map, List.getElem?_range (by omega)]
  rfl
/-- a row is, weighted, a multiple of F -/
def Rel (d : Nat) (W : Nat → Int) (p : List Int) (F : Nat → Int) : Prop := p.length = d + 1 ∧ ∃ s t : Int, 0 < s ∧ 0 < t ∧ ∀ k, k ≤ d → s * hat W p k = t * F k
theorem Rel.self (d : Nat) (W : Nat → Int) {p : List Int} (h : p.length = d + 1) : Rel d W p (hat W p) := ⟨h, 1, 1, by decide, by decide, fun _ _ => rfl⟩
theorem Rel.congr {d : Nat} {W : Nat → Int} {p : List Int} {F G : Nat → Int} (h : Rel d W p F) (e : ∀ k, k ≤ d → F k = G k) : Rel d W p G := let ⟨h1, s, t, hs, ht, h2⟩ := h; ⟨h1, s, t, hs, ht, fun k hk => by rw [← e k hk]; exact h2 k hk⟩
theorem Rel.low {d : Nat} {W : Nat → Int} {p : List Int} {F : Nat → Int} (h : Rel d W p F) (hp : 0 < p.headD 0) : Rel d W (low p) F := by
  obtain ⟨h1, s, t, hs, ht, h2⟩ := h
  refine ⟨by rw [low_len, h1], s * gl p, t, Int.mul_pos hs (gl_pos hp), ht, fun k hk => ?_⟩
  rw [← h2 k hk]
  have e : p.getD k 0 = gl p * (GM.low p).getD k 0 := by
    rw [← getD_scl, scl_low]
  unfold hat
  rw [e]
  grind
theorem Rel.eq {d : Nat} {W : Nat → Int} {p q : List Int} {F : Nat → Int} (hw : Wt d W) (h : Rel d W p F) (g : Rel d W q F) : GM.low p = GM.low q := by
  obtain ⟨h1, s, t, hs, ht, h2⟩ := h
  obtain ⟨g1, s', t', hs', ht', g2⟩ := g
  refine low_eq (s := t' * s) (t := t * s') (Int.mul_pos ht' hs) (Int.mul_pos ht hs') (by rw [h1, g1]) fun k hk => ?_
  have a := h2 k (by omega)
  have b := g2 k (by omega)
  have w := hw.pos k (by omega)
  unfold hat at a b
  refine Int.eq_of_mul_eq_mul_right (show W k ≠ 0 by omega) ?_
  have e1 : t' * s * p.getD k 0 * W k = t' * (s * (p.getD k 0 * W k)) := by grind
  have e2 : t * s' * q.getD k 0 * W k = t * (s' * (q.getD k 0 * W k)) := by grind
  rw [e1, e2, a, b]
  grind
theorem Rel.fnd {d : Nat} {W : Nat → Int} (hw : Wt d W) (a b : List Int) : Rel d W (fnd d W a b) (cv (hat W a) (hat W b)) := by
  refine ⟨fnd_len d W a b, 1, W 0, by decide, hw.pos 0 (by omega), fun k hk => ?_⟩
  unfold hat
  rw [fnd_get hk, Int.one_mul, Int.mul_assoc, Int.ediv_mul_cancel (hw.dvd k hk)]
  exact Int.mul_comm _ _
theorem Rel.cvL {d : Nat} {W : Nat → Int} {p : List Int} {F : Nat → Int} (hw : Wt d W) (h : Rel d W p F) (b : List Int) : Rel d W (GM.fnd d W p b) (cv F (hat W b)) := by
  obtain ⟨h1, s, t, hs, ht, h2⟩ := h
  obtain ⟨g1, s', t', hs', ht', g2⟩ := Rel.fnd hw p b
  refine ⟨g1, s * s', t' * t, Int.mul_pos hs hs', Int.mul_pos ht' ht, fun k hk => ?_⟩
  rw [Int.mul_assoc, g2 k hk]
  have e := cv_scaleL (g := hat W b) (k := k) (fun i hi => h2 i (by omega))
  grind
theorem Rel.cvR {d : Nat} {W : Nat → Int} {p : List Int} {F : Nat → Int} (hw : Wt d W) (h : Rel d W p F) (a : List Int) : Rel d W (GM.fnd d W a p) (cv (hat W a) F) := by
  obtain ⟨h1, s, t, hs, ht, h2⟩ := h
  obtain ⟨g1, s', t', hs', ht', g2⟩ := Rel.fnd hw a p
  refine ⟨g1, s * s', t' * t, Int.mul_pos hs hs', Int.mul_pos ht' ht, fun k hk => ?_⟩
  rw [Int.mul_assoc, g2 k hk, cv_comm, cv_comm (hat W a) F]
  have e := cv_scaleL (g := hat W a) (k := k) (fun i hi => h2 i (by omega))
  grind
theorem fnd_head {d : Nat} {W : Nat → Int} (hw : Wt d W) {a b : List Int} (ha : 0 < a.headD 0) (hb : 0 < b.headD 0) : 0 < (fnd d W a b).headD 0 := by
  have e : (fnd d W a b).headD 0 = (fnd d W a b).getD 0 0 := by cases fnd d W a b <;> rfl
  rw [e, fnd_get (by omega)]
  have e0 : ∀ l : List Int, l.headD 0 = l.getD 0 0 := fun l => by cases l <;> rfl
  have w := hw.pos 0 (by omega)
  have e1 : W 0 / W 0 = 1 := Int.ediv_self (by omega)
  rw [e1, Int.mul_one]
  show 0 < sm 1 _
  simp only [sm, Int.zero_add, Nat.sub_self]
  rw [e0] at ha hb
  exact Int.mul_pos (Int.mul_pos ha w) (Int.mul_pos hb w)
/-! any order -/
theorem fnd_comm {d : Nat} {W : Nat → Int} (hw : Wt d W) (a b : List Int) : low (fnd d W a b) = low (fnd d W b a) :=
  (Rel.fnd hw a b).eq hw ((Rel.fnd hw b a).congr fun k _ => cv_comm _ _ k)
theorem fnd_assoc {d : Nat} {W : Nat → Int} (hw : Wt d W) {a b c : List Int} (ha : 0 < a.headD 0) (hb : 0 < b.headD 0) (hc : 0 < c.headD 0) :
    low (fnd d W (low (fnd d W a b)) c) = low (fnd d W a (low (fnd d W b c))) :=
  (((Rel.fnd hw a b).low (fnd_head hw ha hb)).cvL hw c).eq hw ((((Rel.fnd hw b c).low (fnd_head hw hb hc)).cvR hw a).congr fun k _ => (cv_assoc _ _ _ k).symm)
theorem getD_plain (d k : Nat) : (1 :: zr d).getD k 0 = if k = 0 then 1 else 0 := by
  cases k with
  | zero => rfl
  | succ k =>
    rw [List.getD_eq_getElem?_getD, List.getElem?_cons_succ, zr, List.getElem?_replicate]
    split <;> simp
theorem fnd_plain {d : Nat} {W : Nat → Int} (hw : Wt d W) {b : List Int} (h : b.length = d + 1) : low (fnd d W (1 :: zr d) b) = low b := by
  refine (Rel.fnd hw (1 :: zr d) b).eq hw ?_
  refine ⟨h, W 0, 1, hw.pos 0 (by omega), by decide, fun k hk => ?_⟩
  have e : cv (hat W (1 :: zr d)) (hat W b) k = W 0 * hat W b k := by
    rw [← cv_delta]
    refine cv_congr (fun i _ => ?_) fun _ _ => rfl
    unfold hat
    rw [getD_plain]
    split
    · rename_i z; rw [z, Int.one_mul]
    · exact Int.zero_mul _
  rw [e, Int.one_mul]
/-! ### factorials -/
def fac : Nat → Int
  | 0 => 1
  | n + 1 => fac n * ((n : Int) + 1)
theorem fac_pos : ∀ n, 0 < fac n
  | 0 => by decide
  | n + 1 => Int.mul_pos (fac_pos n) (by omega)
theorem fac_dvd {k n : Nat} (h : k ≤ n) : fac k ∣ fac n := by
  induction n with
  | zero => rw [Nat.le_zero.mp h]; exact Int.dvd_refl _
  | succ n ih =>
    by_cases e : k = n + 1
    · rw [e]; exact Int.dvd_refl _
    · exact Int.dvd_trans (ih (by omega)) (Int.dvd_mul_right _ _)
def Wm (d : Nat) (k : Nat) : Int := fac (d - k)
def Ws (d : Nat) (k : Nat) : Int := fac (d - k) ^ 2
theorem wt_m (d : Nat) : Wt d (Wm d) := ⟨fun _ _ => fac_pos _, fun k _ => fac_dvd (by omega)⟩
theorem pow_dvd2 {a b : Int} (h : a ∣ b) : a ^ 2 ∣ b ^ 2 := by
  obtain ⟨c, rfl⟩ := h
  exact ⟨c ^ 2, by grind⟩
theorem wt_s (d : Nat) : Wt d (Ws d) := ⟨fun _ _ => by unfold Ws; exact Int.pow_pos (fac_pos _), fun k _ => pow_dvd2 (fac_dvd (by omega))⟩
theorem ws_div {d k : Nat} (h : k ≤ d) : Ws d 0 / Ws d k = (fac d / fac (d - k)) ^ 2 := by
  obtain ⟨c, hc⟩ := fac_dvd (show d - k ≤ d by omega)
  have p := fac_pos (d - k)
  unfold Ws
  rw [Nat.sub_zero, hc, Int.mul_ediv_cancel_left _ (by omega)]
  have e : (fac (d - k) * c) ^ 2 = fac (d - k) ^ 2 * c ^ 2 := by grind
  rw [e, Int.mul_ediv_cancel_left]
  have : 0 < fac (d - k) ^ 2 := Int.pow_pos p
  omega
/-! ### derived -/
theorem der_get : ∀ (l : List Int) (i : Nat), i + 1 < l.length → (der l).getD i 0 = l.getD i 0 * ((l.length : Int) - 1 - i)
  | [], _, h => by simp at h
  | [_], _, h => by simp at h
  | a :: b :: as, 0, h => by
    show a * ((as.length : Int) + 1) = a * _
    simp only [List.length_cons]
    congr 1
    omega
  | a :: b :: as, i + 1, h => by
    show (der (b :: as)).getD i 0 = (b :: as).getD i 0 * _
    rw [der_get (b :: as) i (by simpa using h)]
    congr 1
    simp only [List.length_cons]
    omega
def derN : Nat → List Int → List Int
  | 0, a => a
  | j + 1, a => der (derN j a)
theorem derN_len (a : List Int) : ∀ j, (derN j a).length = a.length - j
  | 0 => rfl
  | j + 1 => by rw [derN, der_len, derN_len a j]; omega
theorem derN_get {a : List Int} {d : Nat} (h : a.length = d + 1) : ∀ (j i : Nat), i + j ≤ d → (derN j a).getD i 0 * fac (d - i - j) = a.getD i 0 * fac (d - i)
  | 0, i, _ => rfl
  | j + 1, i, hi => by
    have l := derN_len a j
    rw [derN, der_get _ i (by rw [l, h]; omega), ← derN_get h j i (by omega), l, h]
    have e : fac (d - i - j) = fac (d - i - (j + 1)) * ((((d + 1 - j : Nat)) : Int) - 1 - i) := by
      rw [show d - i - j = (d - i - (j + 1)) + 1 by omega, fac]
      congr 1
      omega
    rw [e]
    grind
/-- the sum in the mean by derivatives -/
def Lp (d : Nat) (a b : List Int) : Nat → List Int
  | 0 => zr (d + 1)
  | j + 1 => addR (Lp d a b j) j (fac (d - j) * b.getD j 0) (derN j a)
theorem Lp_len {d : Nat} {a b : List Int} (h : a.length = d + 1) : ∀ j, j ≤ d + 1 → (Lp d a b j).length = d + 1
  | 0, _ => zr_len _
  | j + 1, hj => by
    have l := Lp_len (b := b) h j (by omega)
    rw [Lp, addR_len (by rw [l, derN_len, h]; omega)]
    exact l
theorem Lp_get {d : Nat} {a b : List Int} (h : a.length = d + 1) {k : Nat} (hk : k ≤ d) : ∀ j, j ≤ d + 1 → (Lp d a b j).getD k 0 = sm j (fun i => if i ≤ k then fac (d - i) * b.getD i 0 * (derN i a).getD (k - i) 0 else 0)
  | 0, _ => by
    rw [Lp, sm, zr, List.getD_eq_getElem?_getD, List.getElem?_replicate]
    split <;> rfl
  | j + 1, hj => by
    have l := Lp_len (b := b) h j (by omega)
    have ld := derN_len a j
    rw [Lp, List.getD_eq_getElem?_getD, addR_get (by rw [l, ld, h]; omega) _ (by rw [l]; omega), Lp_get h hk j (by omega), sm, ld, h]
    by_cases z : j ≤ k
    · rw [if_pos ⟨z, by omega⟩, if_pos z]
      rfl
    · rw [if_neg (fun y => z y.1), if_neg z]
      rfl
def Lm (a b : List Int) : List Int := Lp (a.length - 1) a b a.length
theorem Lm_len {a b : List Int} {d : Nat} (h : a.length = d + 1) : (Lm a b).length = d + 1 := by
  unfold Lm
  rw [h]
  exact Lp_len h (d + 1) (Nat.le_refl _)
theorem sm_cut {n m : Nat} {f : Nat → Int} (h : n ≤ m) (z : ∀ i, n ≤ i → i < m → f i = 0) : sm m f = sm n f := by
  induction m with
  | zero => rw [Nat.le_zero.mp h]
  | succ m ih =>
    by_cases e : n = m + 1
    · rw [e]
    · rw [sm, ih (by omega) fun i h1 h2 => z i h1 (by omega), z m (by omega) (by omega), Int.add_zero]
theorem Lm_hat {a b : List Int} {d : Nat} (h : a.length = d + 1) {k : Nat} (hk : k ≤ d) : hat (Wm d) (Lm a b) k = cv (hat (Wm d) a) (hat (Wm d) b) k := by
  unfold Lm
  rw [h]
  show (Lp d a b (d + 1)).getD k 0 * fac (d - k) = _
  rw [Lp_get h hk (d + 1) (Nat.le_refl _), sm_cut (n := k + 1) (by omega) (fun i h1 _ => if_neg (by omega)), cv_comm, ← sm_mulR]
  refine sm_congr fun i hi => ?_
  rw [if_pos (by omega)]
  have e := derN_get h i (k - i) (by omega)
  rw [show d - (k - i) - i = d - k by omega] at e
  show _ = b.getD i 0 * fac (d - i) * (a.getD (k - i) 0 * fac (d - (k - i)))
  rw [← e]
  grind
theorem Lm_rel {a b : List Int} {d : Nat} (h : a.length = d + 1) : Rel d (Wm d) (Lm a b) (cv (hat (Wm d) a) (hat (Wm d) b)) := ⟨Lm_len h, 1, 1, by decide, by decide, fun k hk => by rw [Lm_hat h hk]⟩
/-- what mean_sum and the law's derivatives give -/
theorem mean_law {a b : List Int} {d : Nat} (h : a.length = d + 1) : low (fnd d (Wm d) a b) = low (Lm a b) := (Rel.fnd (wt_m d) a b).eq (wt_m d) (Lm_rel h)
theorem Lm_comm {a b : List Int} {d : Nat} (h : a.length = d + 1) (g : b.length = d + 1) : Lm a b = Lm b a := by
  refine ext_getD (by rw [Lm_len h, Lm_len g]) fun k hk => ?_
  rw [Lm_len h] at hk
  have e := (Lm_hat (b := b) h (show k ≤ d by omega)).trans ((cv_comm _ _ k).trans (Lm_hat (b := a) g (show k ≤ d by omega)).symm)
  have p := fac_pos (d - k)
  exact Int.eq_of_mul_eq_mul_right (show Wm d k ≠ 0 by show fac (d - k) ≠ 0; omega) e
/-- derived -/
theorem der_rel {d : Nat} {p : List Int} {F : Nat → Int} (h : Rel (d + 1) (Wm (d + 1)) p F) : Rel d (Wm d) (der p) F := by
  obtain ⟨h1, s, t, hs, ht, h2⟩ := h
  refine ⟨by rw [der_len, h1]; rfl, s, t, hs, ht, fun k hk => ?_⟩
  rw [← h2 k (by omega)]
  congr 1
  show (der p).getD k 0 * fac (d - k) = p.getD k 0 * fac (d + 1 - k)
  rw [der_get p k (by rw [h1]; omega), h1, show d + 1 - k = (d - k) + 1 by omega, fac, show (((d + 1 + 1 : Nat)) : Int) - 1 - k = ((d - k : Nat) : Int) + 1 by omega]
  grind
theorem hat_der {d : Nat} {p : List Int} (h : p.length = d + 2) {k : Nat} (hk : k ≤ d) : hat (Wm d) (der p) k = hat (Wm (d + 1)) p k := by
  show (der p).getD k 0 * fac (d - k) = p.getD k 0 * fac (d + 1 - k)
  rw [der_get p k (by rw [h]; omega), h, show d + 1 - k = (d - k) + 1 by omega, fac, show (((d + 2 : Nat)) : Int) - 1 - k = ((d - k : Nat) : Int) + 1 by omega]
  grind
theorem fnd_der {d : Nat} {a b : List Int} (ha : a.length = d + 2) (hb : b.length = d + 2) (pa : 0 < a.headD 0) (pb : 0 < b.headD 0) :
    low (fnd d (Wm d) (der a) (der b)) = low (der (low (fnd (d + 1) (Wm (d + 1)) a b))) := by
  refine (Rel.fnd (wt_m d) (der a) (der b)).eq (wt_m d) ?_
  refine (der_rel ((Rel.fnd (wt_m (d + 1)) a b).low (fnd_head (wt_m (d + 1)) pa pb))).congr fun k hk => ?_
  exact cv_congr (fun i hi => (hat_der ha (by omega)).symm) fun i hi => (hat_der hb (by omega)).symm
/-! ### shifted by an integer -/
def shS (u : Int) (f : List Int) (n : Int) : List Int := List.zipWith (fun o h => o + u * h) (f ++ [n]) (0 :: f)
def sh (u : Int) : List Int → List Int
  | [] => []
  | a :: as => as.foldl (shS u) [a]
theorem shS_eq (u : Int) (f : List Int) (n : Int) : shS u f n = zadd (f ++ [n]) (scl u (0 :: f)) := by
  unfold shS zadd scl
  rw [List.zipWith_map_right]
theorem shS_len (u : Int) (f : List Int) (n : Int) : (shS u f n).length = f.length + 1 := by simp [shS]
theorem ev_shS (u : Int) (f : List Int) (n x : Int) : ev (shS u f n) x = ev f x * (x + u) + n := by
  rw [shS_eq, ev_zadd (by simp [scl_len]), ev_snoc, ev_scl]
  show _ + u * (0 * x ^ f.length + ev f x) = _
  grind
theorem sh_fold (u : Int) : ∀ (l f : List Int) (x : Int), ev (l.foldl (shS u) f) x = ev f x * (x + u) ^ l.length + ev l (x + u) ∧ (l.foldl (shS u) f).length = f.length + l.length
  | [], f, x => by simp [ev]
  | n :: l, f, x => by
    obtain ⟨e1, e2⟩ := sh_fold u l (shS u f n) x
    rw [List.foldl_cons]
    refine ⟨?_, by rw [e2, shS_len, List.length_cons]; omega⟩
    rw [e1, ev_shS, List.length_cons, Int.pow_succ, ev]
    grind
theorem sh_len (u : Int) (p : List Int) : (sh u p).length = p.length := by
  cases p with
  | nil => rfl
  | cons a as => rw [sh, (sh_fold u as [a] 0).2, List.length_cons, List.length_cons, List.length_nil]; omega
theorem ev_sh (u : Int) (p : List Int) (x : Int) : ev (sh u p) x = ev p (x + u) := by
  cases p with
  | nil => rfl
  | cons a as =>
    rw [sh, (sh_fold u as [a] x).1]
    simp [ev]
theorem sh_scl (u c : Int) (p : List Int) : sh u (scl c p) = scl c (sh u p) := ext_ev' (by rw [sh_len, scl_len, scl_len, sh_len]) fun x => by rw [ev_sh, ev_scl, ev_scl, ev_sh]
theorem sh_sh (u v : Int) (p : List Int) : sh u (sh v p) = sh (u + v) p := ext_ev' (by rw [sh_len, sh_len, sh_len]) fun x => by rw [ev_sh, ev_sh, ev_sh, Int.add_assoc]
theorem sh_zero (p : List Int) : sh 0 p = p := ext_ev' (sh_len 0 p) fun x => by rw [ev_sh, Int.add_zero]
theorem sh_head (u : Int) {p : List Int} : (sh u p).headD 0 = p.headD 0 := by
  have key : ∀ (l f : List Int), f ≠ [] → (l.foldl (shS u) f).headD 0 = f.headD 0 := by
    intro l
    induction l with
    | nil => intro f _; rfl
    | cons n l ih =>
      intro f hf
      rw [List.foldl_cons, ih]
      · cases f with
        | nil => exact absurd rfl hf
        | cons a as => simp [shS]
      · intro z
        have := shS_len u f n
        rw [z] at this
        simp at this
  cases p with
  | nil => rfl
  | cons a as => exact key as [a] (by simp)
/-- a row in lowest terms stays so -/
theorem sh_low (u : Int) {q : List Int} (h : 0 < q.headD 0) (hg : gl q = 1) : low (sh u q) = sh u q := by
  have g : gl (sh u q) = 1 := by
    have e : sh u q = scl (gl (sh u q)) (low (sh u q)) := (scl_low _).symm
    have e2 : q = scl (gl (sh u q)) (sh (-u) (low (sh u q))) := by
      rw [← sh_scl, ← e, sh_sh, Int.add_left_neg, sh_zero]
    have d : gl (sh u q) ∣ gl q := gl_great fun c hc => by
      rw [e2] at hc
      obtain ⟨r, _, rfl⟩ := List.mem_map.mp hc
      exact Int.dvd_mul_right _ _
    rw [hg] at d
    exact Int.eq_one_of_dvd_one (gl_nonneg _) d
  unfold low
  rw [g]
  simp
theorem gl_low {p : List Int} (h : 0 < p.headD 0) : gl (low p) = 1 := by
  have g := gl_pos h
  have e := gl_scl g (low p)
  rw [scl_low] at e
  have : gl p * 1 = gl p * gl (low p) := by rw [Int.mul_one]; exact e
  exact (Int.eq_of_mul_eq_mul_left (by omega) this).symm
theorem low_low_sh (u : Int) {p : List Int} (h : 0 < p.headD 0) : low (sh u p) = sh u (low p) := by
  have e : sh u p = scl (gl p) (sh u (low p)) := by rw [← sh_scl, scl_low]
  rw [e, low_scl (gl_pos h), sh_low u (low_head h) (gl_low h)]
theorem ev_derN_sh (u : Int) (p : List Int) (x : Int) : ∀ j, ev (derN j (sh u p)) x = ev (derN j p) (x + u) ∧ derN j (sh u p) = sh u (derN j p)
  | 0 => ⟨ev_sh u p x, rfl⟩
  | j + 1 => by
    have e := (ev_derN_sh u p x j).2
    have key : ∀ q : List Int, der (sh u q) = sh u (der q) := by
      intro q
      refine ext_ev' (by rw [der_len, sh_len, sh_len, der_len]) fun y => ?_
      rw [ev_sh, ev_der, ev_der]
      have f : ∀ (l f : List Int), dv (l.foldl (shS u) f) y = dv f y * (y + u) ^ l.length + ev f y * (l.length * (y + u) ^ (l.length - 1)) + dv l (y + u) := by
        intro l
        induction l with
        | nil => intro f; simp [dv]
        | cons n l ih =>
          intro f
          rw [List.foldl_cons, ih, ev_shS]
          have d1 : dv (shS u f n) y = dv f y * (y + u) + ev f y := by
            rw [shS_eq, dv_zadd (by simp [scl_len]), dv_append, dv_scl]
            show dv f y * y ^ [n].length + ev f y * ([n].length * y ^ ([n].length - 1)) + (n * ((0 : Nat) * y ^ (0 - 1)) + 0) + u * (0 * _ + dv f y) = _
            simp
            grind
          rw [d1, List.length_cons, Int.pow_succ]
          show _ = _ + _ + (n * (l.length * (y + u) ^ (l.length - 1)) + dv l (y + u))
          rw [Int.natCast_add, Nat.add_sub_cancel]
          cases l with
          | nil => simp
          | cons m l =>
            rw [List.length_cons, Nat.add_sub_cancel, Int.pow_succ, Int.natCast_add]
            grind
      cases q with
      | nil => rfl
      | cons a as =>
        rw [sh, f]
        show _ = a * (as.length * (y + u) ^ (as.length - 1)) + dv as (y + u)
        simp [dv, ev]
    have e2 : derN (j + 1) (sh u p) = sh u (derN (j + 1) p) := by rw [derN, e, key]; rfl
    exact ⟨by rw [e2, ev_sh], e2⟩
theorem ev_Lp {d : Nat} {a b : List Int} (h : a.length = d + 1) (x : Int) : ∀ j, j ≤ d + 1 → ev (Lp d a b j) x = sm j (fun i => fac (d - i) * b.getD i 0 * ev (derN i a) x)
  | 0, _ => by rw [Lp, ev_zr, sm]
  | j + 1, hj => by
    have l := Lp_len (b := b) h j (by omega)
    have ld := derN_len a j
    rw [Lp, ev_addR (by rw [l, ld, h]; omega), ev_Lp h x j (by omega), sm, l, ld, h, show d + 1 - j - (d + 1 - j) = 0 by omega, Int.pow_zero, Int.mul_one]
theorem Lm_sh {d : Nat} {a b : List Int} (h : a.length = d + 1) (u : Int) : Lm (sh u a) b = sh u (Lm a b) := by
  have h' : (sh u a).length = d + 1 := by rw [sh_len, h]
  refine ext_ev' (by rw [Lm_len h', sh_len, Lm_len h]) fun x => ?_
  rw [ev_sh]
  unfold Lm
  rw [h', h]
  show ev (Lp d (sh u a) b (d + 1)) x = ev (Lp d a b (d + 1)) (x + u)
  rw [ev_Lp h' x _ (Nat.le_refl _), ev_Lp h (x + u) _ (Nat.le_refl _)]
  exact sm_congr fun i _ => by rw [(ev_derN_sh u a x i).1]
theorem Lm_head {d : Nat} {a b : List Int} (h : a.length = d + 1) (pa : 0 < a.headD 0) (pb : 0 < b.headD 0) : 0 < (Lm a b).headD 0 := by
  have e0 : ∀ l : List Int, l.headD 0 = l.getD 0 0 := fun l => by cases l <;> rfl
  have e := Lm_hat (b := b) h (show 0 ≤ d by omega)
  have p := fac_pos d
  have e1 : cv (hat (Wm d) a) (hat (Wm d) b) 0 = a.getD 0 0 * fac d * (b.getD 0 0 * fac d) := by simp [cv, sm, hat, Wm]
  rw [e1] at e
  rw [e0] at pa pb ⊢
  have e2 : (Lm a b).getD 0 0 * fac d = a.getD 0 0 * fac d * b.getD 0 0 * fac d := by
    have : hat (Wm d) (Lm a b) 0 = (Lm a b).getD 0 0 * fac d := rfl
    rw [← this, e]
    grind
  have e3 := Int.eq_of_mul_eq_mul_right (show fac d ≠ 0 by omega) e2
  rw [e3]
  exact Int.mul_pos (Int.mul_pos pa p) pb
theorem fnd_sh {d : Nat} {a b : List Int} (ha : a.length = d + 1) (hb : b.length = d + 1) (pa : 0 < a.headD 0) (pb : 0 < b.headD 0) (u v : Int) :
    low (fnd d (Wm d) (sh u a) (sh v b)) = sh (u + v) (low (fnd d (Wm d) a b)) := by
  have ha' : (sh u a).length = d + 1 := by rw [sh_len, ha]
  have hb' : (sh v b).length = d + 1 := by rw [sh_len, hb]
  rw [mean_law ha', mean_law ha, ← low_low_sh _ (Lm_head ha pa pb), Lm_sh ha, Lm_comm ha hb', Lm_sh hb, sh_sh, Lm_comm hb ha]
/-! ### (x - 1) to a power -/
end GM
/-! Own rules: == and != by an own __eq__, str by an own __str__, a staticmethod of a class. -/
namespace GS
open PySem PySem.Spec PyProof.Rows L2
section
variable {X : Cx}
theorem notImpl_no {v : V} (h : RelV v Value.notImplemented) : False := by
  cases v with
  | non => cases (show Value.notImplemented = Value.none from h)
  | bl b => cases (show Value.notImplemented = Value.bool b from h)
  | int i => obtain ⟨t, q⟩ := (show ∃ t, Value.notImplemented = Value.int i t from h); cases q
  | str i => obtain ⟨t, q⟩ := (show ∃ t, Value.notImplemented = Value.str i t from h); cases q
  | byt i => obtain ⟨t, q⟩ := (show ∃ t, Value.notImplemented = Value.bytes i t from h); cases q
  | flt i => obtain ⟨t, q⟩ := (show ∃ t, Value.notImplemented = Value.float i t from h); cases q
  | ref a => cases (show Value.notImplemented = Value.ref a from h)
  | ty n => cases (show Value.notImplemented = Value.type n from h)
/-- what a call of the def gives, from any place below the body -/
theorem run_at {CX : CXT} {k : Nat} {f : Addr} {fd : FuncData} {ps : List Str} {sp : Sp} {E : XK} {pins : List (Addr × Obj)} {σ : L2.St} {H : Hp} {s : Shared} {Q : VK} {us : List Value} {vs : List V} {A : Around}
    (F : FnOk X.prog X.w X.K X.mg X.base CX k f fd ps sp) (hr : Room k A) (hA : A.frames = X.A.frames) (hb : Binds X.K fd ps []) (hx : Passes CX X E) (I : Inv X pins σ H s) (r : Vals vs us) (hsp : sp vs H Q E) :
    wpAny (model X.prog X.w) A (call (.ref f) us) (EP X pins σ Q) X.xe s := by
  have e0 : Env0 X.prog X.w X.K X.mg X.base A X.stack s H := by
    have e := I.env0
    exact ⟨by rw [hA]; exact e.frames, e.mod, e.bs, e.bsz, e.funs, e.frf, e.hok, e.bare⟩
  have hl := F.len _ _ _ _ hsp
  refine wpAny_call (codeAny_mono (F.run A X.stack s H ⟨us, []⟩ us vs _ E hr e0 (by
    have := hb s us I.kIn (by rw [List.append_nil, ← r.length]; exact hl)
    simpa using this) r hsp) fun r s' hq => ?_)
  cases r with
  | error e => exact hx pins σ H s e s' I hq
  | ok fl =>
    cases fl with
    | ret w => exact I.after hq
    | next => exact False.elim hq
    | brk => exact False.elim hq
    | cont => exact False.elim hq
/-- x == y by the own __eq__ of x's class; y of any kind -/
def rEqOwn (K : PySem.W.Frag) (C : Addr) (sp : Sp) (E : XK) : R2 := fun x y H Q => ∃ a dx fs t, x = .ref a ∧ H a = some (.ins C dx fs) ∧ TyX K H y t ∧ PySem.W.notFirst K C t = true ∧ sp [x, y] H Q E
theorem op_eqOwn {CX : CXT} {k : Nat} {C f : Addr} {fd : FuncData} {ps : List Str} {sp : Sp} {E : XK} (F : FnOk X.prog X.w X.K X.mg X.base CX k f fd ps sp) (hr : Room k X.A)
    (hs : PySem.W.findIn X.K (.ref C) "__eq__" = some (some (.ref f))) (hf : PySem.W.isFn X.K (.ref f) = true) (hb : Binds X.K fd ps []) (hx : Passes CX X E) : OpR X (compareOp .Eq) (rEqOwn X.K C sp E) := by
  intro pins s σ H x y v u Q I rx ry hq
  obtain ⟨a, dx, fs, t, rfl, ha, ty, hn, hsp⟩ := hq
  cases rx
  obtain ⟨mA, J, _⟩ := ins_get I.hok ha
  obtain ⟨od, J, _⟩ := J.look
  obtain ⟨m, hF⟩ := I.fr
  obtain ⟨P, Z, p, _⟩ := kit_of I ry ty
  show wpAny (model X.prog X.w) X.A (richCompare .Eq (.ref a) u) (EP X pins σ Q) X.xe s
  refine PySem.W.cmp_K (op := .Eq) (tb := t) hr.units0 hF I.ok.mod.kin J (Z.ty _ _ I.kIn p) hn hs hf ?_
  refine wpAny_mono (run_at F hr rfl hb hx I (.cons (show L2.RelV (V.ref a) (Value.ref a) from rfl) (.cons ry .nil)) hsp) (fun v s' hv => ?_) fun _ _ z => z
  cases v <;> first | exact hv | (obtain ⟨w, _, _, z, _⟩ := hv; exact (notImpl_no z).elim)
open Builtin in
theorem objNe_K {A : Around} {s : Shared} {a C f : Addr} {ox : Obj} {od : Option Obj} {u : Value} {E : Value → Shared → Prop} {Q : Fin → Shared → Prop} (hu : A.units < cLine) (XI : X.K.In s.heap) (J : PySem.W.InstAt s.heap a ox C od)
    (hs : PySem.W.findIn X.K (.ref C) "__eq__" = some (some (.ref f))) (hf : PySem.W.isFn X.K (.ref f) = true)
    (hcall : wpAny (model X.prog X.w) A (call (.ref f) [.ref a, u]) (fun v s' => ∃ b, v = .bool b ∧ Q (.done (.ret (.bool (!b)))) s') E s) :
    wpAny (model X.prog X.w) A (Builtin.«object.__ne__» ⟨[.ref a, u], []⟩) Q E s := by
  unfold Builtin.«object.__ne__»
  repeat (first
    | with_reducible refine wpAny_cRoomFor hu ?_
    | (refine wpAny_bind (m := callSpecialIfBound? (.ref a) (Str.ofString "__eq__") [u])
        (PySem.W.ifBound_K XI J hs hf (wpAny_mono hcall (fun r s' hr => by
          obtain ⟨b, rfl, hq⟩ := hr
          repeat (first | exact hq | exact wpAny_pure hq | exact wpAny_truthy_bool hq | (refine wpAny_bind (m := truthy (.bool _)) (wpAny_truthy_bool ?_)) | wp_step)) fun _ _ e => e)))
    | wp_step)
/-- x != y, the class says nothing of != -/
def rNeOwn (K : PySem.W.Frag) (C : Addr) (sp : Sp) (E : XK) : R2 := fun x y H Q => ∃ a dx fs t, x = .ref a ∧ H a = some (.ins C dx fs) ∧ TyX K H y t ∧ PySem.W.notFirst K C t = true ∧ sp [x, y] H (fun v H' => ∃ b, v = .bl b ∧ Q (.bl (!b)) H') E

theorem ifBound_B {M : Model} {A : Around} {s : Shared} {a C : Addr} {ox : Obj} {od : Option Obj} {name : Str} {id : String} {args : List Value} {E : Value → Shared → Prop} {Q : Option Value → Shared → Prop} (XI : X.K.In s.heap) (J : PySem.W.InstAt s.heap a ox C od)
    (hs : PySem.W.findIn X.K (.ref C) name = some (some (.builtin id))) (S : Slot "object" name id) (h : wpAny M A (call (.builtin id) (.ref a :: args)) (fun v => Q (some v)) E s) : wpAny M A (callSpecialIfBound? (.ref a) name args) Q E s := by
  have last : wpAny M A (call (.builtin id) ([.ref a] ++ args) >>= fun v => pure (some v)) Q E s := wpAny_bind (wpAny_mono h (fun _ _ z => wpAny_pure z) fun _ _ z => z)
  simp only [callSpecialIfBound?, bindSpecialIfBound?]
  refine wpAny_holding (wpAny_bind (wpAny_bind (wpAny_bind (J.type.here ((PySem.W.looks_findIn XI hs).here ?_)))))
  simp only [S.bind]
  refine wpAny_bind (wpAny_askSetting (wpAny_ite ?_))
  split
  · exact wpAny_bind (wpAny_pure (wpAny_pure last))
  · exact wpAny_tryCatch (wpAny_bind (wpAny_pure (wpAny_pure last)))
theorem op_neOwn {CX : CXT} {k : Nat} {C f : Addr} {fd : FuncData} {ps : List Str} {sp : Sp} {E : XK} (F : FnOk X.prog X.w X.K X.mg X.base CX k f fd ps sp) (hr : Room (k + 2) X.A) (hn0 : PySem.W.findIn X.K (.ref C) "__ne__" = some (some (.builtin "object.__ne__"))) (hm : PySem.W.mroIn X.K C (.type "object") = some true)
    (hs : PySem.W.findIn X.K (.ref C) "__eq__" = some (some (.ref f))) (hf : PySem.W.isFn X.K (.ref f) = true) (hb : Binds X.K fd ps []) (hx : Passes CX X E) : OpR X (compareOp .NotEq) (rNeOwn X.K C sp E) := by
  intro pins s σ H x y v u Q I rx ry hq
  obtain ⟨a, dx, fs, t, rfl, ha, ty, hn, hsp⟩ := hq
  cases rx
  obtain ⟨mA, J, _⟩ := ins_get I.hok ha
  obtain ⟨od, J, _⟩ := J.look
  obtain ⟨P, Z, p, _⟩ := kit_of I ry ty
  have LU := Z.ty (model X.prog X.w) _ I.kIn p
  have sub : PySem.W.Looks (model X.prog X.w) s.heap (isInstance (.ref a) (.type "object")) true := J.type.andThen (PySem.W.looks_mroIn I.kIn hm)
  have try1 : wpAny (model X.prog X.w) X.A (tryCompare (.ref a) "__ne__" u) (fun r s' => ∃ v, r = some v ∧ EP X pins σ Q v s') X.xe s := by
    unfold tryCompare
    refine wpAny_bind (ifBound_B I.kIn J hn0 PySem.F.cmp_object.ne (wpAny_call (codeAny_call_builtin PySem.F.cmp_object.ne.plain PySem.F.cmpEntry_ne
      (PySem.W.check_slot PySem.F.cmpKind_ne PySem.F.cmpSplit_ne sub (PySem.F.cmpArgs_ne _ _) ?_))))
    refine objNe_K (A := X.A.in1) hr.in1.units0 I.kIn J hs hf ?_
    refine wpAny_mono (run_at F (hr.in1.mono (by omega)) rfl hb hx I (.cons (show L2.RelV (V.ref a) (Value.ref a) from rfl) (.cons ry .nil)) hsp) (fun v s' hv => ?_) fun _ _ z => z
    obtain ⟨z, H', I', rz, b, rfl, q⟩ := hv
    have ev : v = .bool b := rz
    have fin : EP X pins σ Q (.bool (!b)) s' := ⟨.bl (!b), H', I', rfl, q⟩
    refine ⟨b, ev, ?_⟩
    first
      | exact wpAny_pure ⟨_, rfl, fin⟩
      | exact ⟨_, wpAny_pure ⟨_, rfl, fin⟩⟩
      | (show _ ∧ _; exact ⟨by simp, wpAny_pure ⟨_, rfl, fin⟩⟩)
  show wpAny (model X.prog X.w) X.A (richCompare .NotEq (.ref a) u) (EP X pins σ Q) X.xe s
  unfold richCompare
  simp only [oneThing_ref]
  refine wpAny_holding (wpAny_bind (wpAny_cRoomFor hr.units0 (wpAny_bind (J.type.here (wpAny_bind (LU.here ?_))))))
  have fin : ∀ r s', (∃ v, r = some v ∧ EP X pins σ Q v s') → wpAny (model X.prog X.w) X.A (match r with | some v => pure v | none => richCompare .NotEq (.ref a) u) (EP X pins σ Q) X.xe s' := fun r s' ⟨v, e, z⟩ => by subst e; exact wpAny_pure z
  split
  · rename_i q
    have e : PySem.W.subIn X.K t (.ref C) = some false := by
      cases Bool.or_eq_true_iff.mp hn with
      | inl e => rw [beq_iff_eq.mp e] at q; simp at q
      | inr e => exact beq_iff_eq.mp e
    refine wpAny_bind ((PySem.W.looks_subIn I.kIn e).here ?_)
    simp only [Bool.false_eq_true, if_false]
    refine wpAny_bind (wpAny_mono try1 (fun r s' ⟨v, e, z⟩ => ?_) fun _ _ z => z)
    subst e
    exact wpAny_pure z
  · refine wpAny_bind (wpAny_pure ?_)
    simp only [Bool.false_eq_true, if_false]
    refine wpAny_bind (wpAny_mono try1 (fun r s' ⟨v, e, z⟩ => ?_) fun _ _ z => z)
    subst e
    exact wpAny_pure z
/-- str(x) by an own __str__ -/
def rStrOwn (C : Addr) (sp : Sp) (E : XK) : List V → Hp → VK → Prop := fun xs H Q => ∃ a dx fs, xs = [.ref a] ∧ H a = some (.ins C dx fs) ∧ sp xs H (fun v H' => (∃ z, v = .str z) ∧ Q v H') E
theorem call_strOwn {CX : CXT} {k : Nat} {C f : Addr} {fd : FuncData} {ps : List Str} {sp : Sp} {E : XK} (F : FnOk X.prog X.w X.K X.mg X.base CX k f fd ps sp) (hr : Room (k + 2) X.A)
    (hs : PySem.W.findIn X.K (.ref C) "__str__" = some (some (.ref f))) (hf : PySem.W.isFn X.K (.ref f) = true) (hb : Binds X.K fd ps []) (hx : Passes CX X E) : CallR X (.type "str") (rStrOwn C sp E) := by
  intro pins s σ H xs us Q I r hq
  obtain ⟨a, dx, fs, rfl, ha, hsp⟩ := hq
  obtain ⟨u, rfl, ru⟩ := vals1 r
  cases ru
  obtain ⟨mA, J, _⟩ := ins_get I.hok ha
  obtain ⟨od, J, _⟩ := J.look
  refine PySem.W.kso_call hr.in1.in1.units0 I.kIn J hs hf ?_
  refine wpAny_mono (run_at F hr.in1.in1 rfl hb hx I r hsp) (fun v s' hv => ?_) fun _ _ z => z
  obtain ⟨w, H', I', rw', ⟨z, rfl⟩, q⟩ := hv
  obtain ⟨tk, e⟩ := rw'
  subst e
  exact ⟨.str z, H', I', ⟨tk, rfl⟩, q⟩
/-! ### a staticmethod of a class -/
structure SMet (K : PySem.W.Frag) (C : Addr) (mc : Value) (m : Str) (p g : Addr) : Prop where
  at_ : PySem.W.findCls K (.ref C) mc m = some (.get (.builtin "staticmethod.__get__") (.ref p) .none (.ref C))
  rc : ∃ rest, PySem.W.recIn K p "staticmethod" = some (.ref g :: rest)
def tSMeth (C : Addr) (sp : Sp) (E : XK) (ta : TE) (t : TA) : TE := fun σ H Q => ta σ H fun x H1 => x = .ref C ∧ t σ H1 fun vs H2 => sp vs H2 Q E
theorem pe_smeth {CX : CXT} {k : Nat} {C p g : Addr} {mc : Value} {fd : FuncData} {ps : List Str} {sp : Sp} {E : XK} {o e : Expr} {es : List Expr} {m : Str} {pos apos : Pos} {ta : TE} {t : TA} {pl : Sem Bool}
    (he : PE X o ta) (r : ClX.CRead X.K C mc) (c : SMet X.K C mc m p g) (F : FnOk X.prog X.w X.K X.mg X.base CX k g fd ps sp) (hk : PySem.W.keepIn X.K (.ref g) = true) (hr : Room k X.A) (hb : Binds X.K fd ps []) (hx : Passes CX X E) (ha : PA X (e :: es) t)
    (hst : starEach (e :: es) X.env = (false, eval e X.env) :: starEach es X.env := by rfl) (hpl : (backTo pos (starEach es X.env)).any (·.1) = false := by rfl)
    (ht : eval (.Call (.Attribute o m apos) (e :: es) [] pos) X.env = (do let ov ← eval o X.env; standAt apos.atName; let (f, first) ← holding [ov] (getMethod ov m pl); callWith pos f first (backTo pos (starEach (e :: es) X.env)) (backToKw pos (keywordEach [] X.env))) := by rfl) :
    PE X (.Call (.Attribute o m apos) (e :: es) [] pos) (tSMeth C sp E ta t) := by
  refine ⟨fun pins s σ H Q I h => PySem.W.methodCall_KW (pl := pl) (thn (he.run pins s σ H _ I h) fun u s1 ⟨x, H1, I1, rx, ex, q⟩ => ?_) ht⟩
  subst ex
  obtain rfl : u = Value.ref C := rx
  obtain ⟨rest, hp⟩ := c.rc
  refine PySem.W.method_cls I1.kIn r.ga (PySem.W.cls_bind I1.kIn r.rd c.at_ (wpAny_call (PySem.W.sm_get (s := { s1 with toks := s1.toks + 1 }) I1.kIn hp (PySem.W.handed_on rfl ?_))))
  have I2 := I1.tok (s1.toks + 1)
  refine PySem.W.callWith_K (h₀ := X.base) I2.ok.mod.kin hk (thn (ha.run pos pins _ σ H1 _ I2 q) fun us s3 ⟨vs, H2, I3, rv, q2⟩ => ⟨I3.kIn, ?_⟩) hst hpl
  exact run_at F hr rfl hb hx I3 rv q2
end
end GS
/-! Own rule: several except clauses, each with or without «as n». -/
namespace GS
open PySem PySem.Spec PyProof.Rows L2
abbrev Cl := Value × Option Nat × (Addr → Value → Option Addr → TS)
/-- the ends and the slots of a suite whose error's name has slot i -/
def asEnds (i : Nat) (D : Ends) : Ends := { nx := fun σ' H' => D.nx (σ'.set i none) H', rt := D.rt, bk := fun σ' H' => D.bk (σ'.set i none) H', ct := fun σ' H' => D.ct (σ'.set i none) H' }
def wCl (D : Ends) (q : Cl) (a : Addr) (cls : Value) (d : Option Addr) (σ : L2.St) (H : Hp) : Prop := match q.2.1 with
  | none => q.2.2 a cls d D σ H
  | some i => q.2.2 a cls d (asEnds i D) (σ.set i (some (.ref a))) H
def wCls (K : PySem.W.Frag) (Wout : WX) (D : Ends) : List Cl → WX
  | [] => Wout
  | q :: r => fun cls d σ H => ∃ b, PySem.W.exmOne K cls q.1 = some b ∧ (b = true → ∀ a, H a = none → wCl D q a cls d σ H) ∧ (b = false → wCls K Wout D r cls d σ H)
/-- one clause is as it is told -/
inductive ClOk (X : Cx) : ExceptHandler → Cl → Prop
  | bare {x : Str} {c : Value} {ts : Addr → Value → Option Addr → TS} {st : Stmt} {sts : List Stmt} {np pos' : Pos} (hc : Names X x c)
      (su : ∀ (a : Addr) (oe : Obj) (cls : Value) (d : Option Addr) (pn : List (Addr × Obj)), Zc cls d oe → (∃ vs, oe.data = .fields vs) → PSs (X.suite a ((a, oe) :: pn)) (st :: sts) (ts a cls d)) :
      ClOk X (.ExceptHandler (some (.Name x np)) none (st :: sts) pos') (c, none, ts)
  | as {x n : Str} {c : Value} {ts : Addr → Value → Option Addr → TS} {st : Stmt} {sts : List Stmt} {np pos' : Pos} {i : Nat} (hc : Names X x c) (hN : X.N.Nodup) (hi : X.N[i]? = some n) (hln : X.env.kindOf n = some .local)
      (su : ∀ (a : Addr) (oe : Obj) (cls : Value) (d : Option Addr) (pn : List (Addr × Obj)), Zc cls d oe → (∃ vs, oe.data = .fields vs) → PSs (X.suite a ((a, oe) :: pn)) (st :: sts) (ts a cls d)) :
      ClOk X (.ExceptHandler (some (.Name x np)) (some n) (st :: sts) pos') (c, some i, ts)
inductive ClsOk (X : Cx) : List ExceptHandler → List Cl → Prop
  | nil : ClsOk X [] []
  | cons {h : ExceptHandler} {q : Cl} {hs : List ExceptHandler} {qs : List Cl} (o : ClOk X h q) (r : ClsOk X hs qs) : ClsOk X (h :: hs) (q :: qs)

/-- the frame holds the error at a; sI: the body's last state -/
structure Caught (X : Cx) (pins : List (Addr × Obj)) (σ : L2.St) (H : Hp) (a : Addr) (B : Heap) (cls : Value) (d : Option Addr) (sI s : Shared) : Prop where
  inv : Inv X pins σ H sI
  nb : ∀ (b : Addr) (o : Obj), sI.heap.get? b = some o → ¬b ∈ frs X.stack → B.get? b = some o
  up : sI.heap.UpToSlots s.heap
  na : H a = none
  os : s.os = sI.os
  ag : AllBare s.gens
  fl : PySem.HandSPX.FlyingZ B (X.env :: X.outer) a (Zc cls d) s.heap
section
variable {X : Cx} {pins : List (Addr × Obj)} {σ : L2.St} {H : Hp} {s sI : Shared} {a : Addr} {B : Heap} {cls : Value} {d : Option Addr} {D : Ends} {Wout : WX}
theorem Caught.here (c : Caught X pins σ H a B cls d sI s) : Inv X pins σ H s := c.inv.landed c.nb c.fl.1 c.up c.os c.ag
theorem Caught.off (c : Caught X pins σ H a B cls d sI s) (hf : X.env.frame = some X.env.locals) : a ≠ X.env.locals ∧ ¬ a ∈ X.fs := by
  obtain ⟨oe, vs, e1, _, e3⟩ := c.fl.there
  have none_of : ∀ b, b ∈ frs (X.env :: X.outer) → b ≠ a := fun b hb z => by
    obtain ⟨_, o, ho, hnf⟩ := c.fl.2.2.1.mem hb
    rw [z, e1] at ho
    exact hnf vs (by rw [← Option.some.inj ho]; exact e3)
  refine ⟨fun z => none_of a ?_ rfl, fun z => none_of a ?_ rfl⟩
  · rw [z]; exact List.mem_filterMap.mpr ⟨X.env, List.mem_cons_self, hf⟩
  · obtain ⟨e, he, q⟩ := List.mem_filterMap.mp z
    exact List.mem_filterMap.mpr ⟨e, List.mem_cons_of_mem _ he, q⟩
/-- it flies again -/
theorem Caught.again {M : Model} {A : Around} {E : Value → Shared → Prop} {Q : Unit → Shared → Prop} (c : Caught X pins σ H a B cls d sI s) (k : ∀ s', Caught X pins σ H a B cls d sI s' → Q () s') : wpAny M A (setFlight (.ref a) none) Q E s :=
  PySem.HandSPX.lands_againZ c.fl fun h' f u => k _ ⟨c.inv, c.nb, c.up.trans u, c.na, c.os, c.ag, f⟩
/-- a suite, from what its reading says, to the ends -/
theorem Caught.suite {M : Model} (c : Caught X pins σ H a B cls d sI s) (hf : X.env.frame = some X.env.locals) : ∃ oe, Zc cls d oe ∧ (∃ vs, oe.data = .fields vs) ∧ Inv (X.suite a ((a, oe) :: (X.pn ++ pins))) [] σ H s := by
  obtain ⟨oe, vs, e1, e2, e3⟩ := c.fl.there
  obtain ⟨n1, n2⟩ := c.off hf
  exact ⟨oe, e2, ⟨vs, e3⟩, c.here.suite e1 e3 c.na n1 n2⟩
/-- the class named in a clause, evaluated -/
theorem names_eval {x : Str} {c0 : Value} {np : Pos} {Q : Value → Shared → Prop} {E : Value → Shared → Prop} (c : Caught X pins σ H a B cls d sI s) (hf : X.env.frame = some X.env.locals) (hc : Names X x c0) (q : Q c0 s) :
    wpAny (model X.prog X.w) (X.A.mark (some (.ref a))) (eval (.Name x np) X.env) Q E s := by
  obtain ⟨oe, _, _, S⟩ := c.suite (M := model X.prog X.w) hf
  obtain ⟨hg, hdb, hh⟩ := hc
  cases hh with
  | inl hm => exact ld_glob (X := X.suite a ((a, oe) :: (X.pn ++ pins))) S hg hm q hdb
  | inr hm => exact ld_blt (X := X.suite a ((a, oe) :: (X.pn ++ pins))) S hg hm.1 hm.2.1 q hm.2.2 hdb
theorem clauses {hs : List ExceptHandler} {qs : List Cl} (k : ClsOk X hs qs) (hst : X.stack = X.env :: X.outer) (hf : X.env.frame = some X.env.locals) (tk : Takes X Wout) :
    ∀ {s : Shared}, Caught X pins σ H a B cls d sI s → wCls X.K Wout D qs cls d σ H → wpAny (model X.prog X.w) X.A (handleBy (.ref a) X.env hs) (SP X pins D) X.xe s := by
  induction k with
  | nil =>
    intro s c w
    refine wpAny_handleBy_nil ?_
    obtain ⟨k1, k2, k3, oe, vs, T, oT, ts', he, hz, hd, h1, hr⟩ := id c.fl
    have out : wpAny (model X.prog X.w) X.A (setFlight (.ref a) X.env.frame) (fun _ s4 => wpAny (model X.prog X.w) X.A (throw (.ref a) : Sem Flow) (SP X pins D) X.xe s4) X.xe s := by
      rw [hf]
      exact PySem.HandSPX.setFlight_upZ c.fl fun h4 hh4 up4 => wpAny_throw (tk _ _ ⟨a, B, sI, pins, σ, H, cls, d, rfl, c.inv, c.nb, c.up.trans up4, .inr (.inr (by rw [hst]; exact hh4)), c.na, c.os, c.ag, w⟩)
    unfold PySem.passOn
    refine wpAny_bind (wpAny_field he hd h1 ?_)
    rw [if_neg (show ¬ ((Value.ref T == Value.none) = true) from by simp)]
    first
      | exact wpAny_bind (wpAny_pure (wpAny_bind out))
      | exact wpAny_bind out
  | @cons h q hs qs o r ih =>
    intro s c w
    obtain ⟨b, hb1, hyes, hno⟩ := w
    obtain ⟨oe0, vs0, e01, e02, e03⟩ := c.fl.there
    have LT : PySem.W.Looks (model X.prog X.w) s.heap (typeOf (.ref a)) cls := fun A Q E s' kk z => wpAny_typeOf_ref (kk _ _ e01) (by rw [e02.1]; exact z)
    have LM := PySem.W.exm_one (M := model X.prog X.w) c.here.kIn LT hb1
    cases o with
    | bare hc su =>
      refine wpAny_handleBy_cons (codeAny_handlers_test ?_) (by intro q; cases q)
      refine names_eval c hf hc (LM.here ?_)
      cases b with
      | false => exact ih c (hno rfl)
      | true =>
        refine codeAny_handlers_suite (c.again fun s4 c4 => ?_)
        obtain ⟨oe, z1, z2, S⟩ := c4.suite (M := model X.prog X.w) hf
        have ok := c4.here.ok
        refine wpAny_mono ((su a oe cls d (X.pn ++ pins) z1 z2).run [] _ _ H _ S (hyes rfl a c.na)) (fun f s6 hsp => ?_) (fun _ _ z => False.elim z)
        cases f with
        | next => exact let ⟨σ6, H6, S6, q6⟩ := hsp; ⟨_, _, S6.unsuite ok, q6⟩
        | brk => exact let ⟨σ6, H6, S6, q6⟩ := hsp; ⟨_, _, S6.unsuite ok, q6⟩
        | cont => exact let ⟨σ6, H6, S6, q6⟩ := hsp; ⟨_, _, S6.unsuite ok, q6⟩
        | ret u => exact let ⟨v6, σ6, H6, S6, r6, q6⟩ := hsp; ⟨_, _, _, S6.unsuite ok, r6, q6⟩
    | @as x n c0 ts st sts np pos' i hc hN hi hln su =>
      refine wpAny_handleBy_cons (codeAny_handlers_test ?_) (by intro q; cases q)
      refine names_eval c hf hc (LM.here ?_)
      cases b with
      | false => exact ih c (hno rfl)
      | true =>
        refine codeAny_handlers_suite_as (c.again fun s4 c4 => ?_)
        obtain ⟨oe, z1, z2, S⟩ := c4.suite (M := model X.prog X.w) hf
        have ok := c4.here.ok
        refine store_ok (X := X.suite a ((a, oe) :: (X.pn ++ pins))) (v := .ref a) S hN hi (.inl hln) rfl (fun s5 S5 => ?_) (.inr hln)
        refine wpAny_mono ((su a oe cls d (X.pn ++ pins) z1 z2).run [] s5 _ H (asEnds i D) S5 (hyes rfl a c.na)) (fun f s6 hsp => ?_) (fun _ _ z => False.elim z)
        cases f with
        | next => exact let ⟨σ6, H6, S6, q6⟩ := hsp; gone_ok (S6.unsuite ok) hN hi hln fun s7 J7 => ⟨_, _, J7, q6⟩
        | brk => exact let ⟨σ6, H6, S6, q6⟩ := hsp; gone_ok (S6.unsuite ok) hN hi hln fun s7 J7 => ⟨_, _, J7, q6⟩
        | cont => exact let ⟨σ6, H6, S6, q6⟩ := hsp; gone_ok (S6.unsuite ok) hN hi hln fun s7 J7 => ⟨_, _, J7, q6⟩
        | ret u => exact let ⟨v6, σ6, H6, S6, r6, q6⟩ := hsp; gone_ok (S6.unsuite ok) hN hi hln fun s7 J7 => ⟨_, _, _, J7, r6, q6⟩
/-- THE RULE: try .. except A as x: .. except B: .. -/
theorem ps_try_cls {body : List Stmt} {h₀ : ExceptHandler} {hds : List ExceptHandler} {qs : List Cl} {pos : Pos} {tb : WX → TS} (hst : X.stack = X.env :: X.outer) (hf : X.env.frame = some X.env.locals) (tk : Takes X Wout)
    (hb : ∀ (W : WX) (pn : List (Addr × Obj)) (xe : Value → Shared → Prop), Takes (X.tr pn xe) W → PassesOwn (model X.prog X.w) X.A X.env xe → PSs (X.tr pn xe) body (tb W)) (hh : ClsOk X (h₀ :: hds) qs) :
    PS X (.Try body (h₀ :: hds) [] [] pos) (fun D σ H => tb (wCls X.K Wout D qs) D σ H) := by
  refine ⟨fun pins s σ H D I h => wpAny_Try_except ?_⟩
  have ok := I.ok
  have fr : X.A.frames = some (X.env :: X.outer) := by rw [ok.frames, hst]
  have B0 := hb (wCls X.K Wout D qs) (X.pn ++ pins) (fun e s₁ => wpAny (model X.prog X.w) X.A (noteFrame e X.env) (fun _ s₂ => wpAny (model X.prog X.w) X.A (setFlight e none) (fun _ s₃ => wpAny (model X.prog X.w) X.A (handleBy e X.env (h₀ :: hds)) (SP X pins D) X.xe s₃) X.xe s₂) X.xe s₁)
    (fun u s' xx => by
      obtain ⟨a, B, sI, pins', σ', H', cls, d, rfl, J', nb, up, sky, na, os, ag, w⟩ := xx
      refine Sky.land Zc.steady fr hf (show Sky B (X.env :: X.outer) a (Zc cls d) X.env.locals s'.heap by rw [← hst]; exact sky) fun h3 fl3 up3 => ?_
      exact clauses hh hst hf tk ⟨J'.ofTry ok, nb, up.trans up3, na, os, ag, fl3⟩ w) PassesOwn.looking
  refine wpAny_mono (B0.run [] s σ H D (I.toTry _) h) (fun f s1 hsp => ?_) (fun _ _ z => z)
  cases f with
  | next => exact let ⟨σ', H', J', q⟩ := hsp; wpAny_execs_nil ⟨σ', H', J'.ofTry ok, q⟩
  | brk => exact let ⟨σ', H', J', q⟩ := hsp; ⟨σ', H', J'.ofTry ok, q⟩
  | cont => exact let ⟨σ', H', J', q⟩ := hsp; ⟨σ', H', J'.ofTry ok, q⟩
  | ret u => exact let ⟨v, σ', H', J', r, q⟩ := hsp; ⟨v, σ', H', J'.ofTry ok, r, q⟩
end
end GS
/-! What the head tells: a list of Bools of the written part, and the defs. -/
namespace GS
open PySem PySem.W PySem.Calls PyProof.Rows He
abbrev Chk := PySem.W.Frag → Bool
def obsM (fa : List He.Fa) (ex : List Chk) (fn : List He5.DefA) (K : PySem.W.Frag) : He.AlD := ((fa.all fun f => f.ok K) && ((ex.all fun f => f K) && fn.all fun d => d.ok K), fn.map fun d => He5.fnA K (d.at_ K))
def SaysM (fa : List He.Fa) (ex : List Chk) (fn : List He5.DefA) (K : PySem.W.Frag) : Prop := obsM fa ex fn K = He5.valA fn
def obsMG (n : Nat) (fa : List He.Fa) (ex : List Chk) (fn : List He5.DefA) (g : Addr → Option Obj) : He.AlD := obsM fa ex fn (frG g (He5.asA g n))
def hookM (n : Nat) (fa : List He.Fa) (ex : List Chk) (fn : List He5.DefA) : PySem.W.Hook where
  α := He.AlD
  obs s := obsMG n fa ex fn s.heap.get?
  val _ := He5.valA fn
  says _ h := ∃ K : PySem.W.Frag, K.In h ∧ SaysM fa ex fn K
  of _ _ e := ⟨_, frG_in, e⟩
  keeps := fun _ _ _ ⟨K, i, c⟩ k => ⟨K, Frag.In.keeps i k, c⟩
theorem obsMG_eq {n : Nat} {fa : List He.Fa} {ex : List Chk} {fn : List He5.DefA} {g : Addr → Option Obj} {s : Shared} (h : ∀ a, g a = s.heap.get? a) : obsMG n fa ex fn g = (hookM n fa ex fn).obs s := by
  obtain rfl : g = s.heap.get? := funext h
  rfl
section
variable {fa : List He.Fa} {ex : List Chk} {fn : List He5.DefA} {K : PySem.W.Frag}
theorem SaysM.fst (c : SaysM fa ex fn K) : (∀ f ∈ fa, f.ok K = true) ∧ (∀ f ∈ ex, f K = true) ∧ ∀ d ∈ fn, d.ok K = true := by
  have e : ((fa.all fun f => f.ok K) && ((ex.all fun f => f K) && fn.all fun d => d.ok K)) = true := congrArg (fun z : He.AlD => z.1) c
  obtain ⟨h1, h2⟩ := ba e
  obtain ⟨h3, h4⟩ := ba h2
  exact ⟨List.all_eq_true.mp h1, List.all_eq_true.mp h3, List.all_eq_true.mp h4⟩
theorem SaysM.fact (c : SaysM fa ex fn K) (i : Nat) {f : He.Fa} (h : fa[i]? = some f := by rfl) : f.ok K = true := c.fst.1 f (List.mem_of_getElem? h)
theorem SaysM.chk (c : SaysM fa ex fn K) (i : Nat) {f : Chk} (h : ex[i]? = some f := by rfl) : f K = true := c.fst.2.1 f (List.mem_of_getElem? h)
theorem SaysM.def_ (c : SaysM fa ex fn K) (i : Nat) {d : He5.DefA} (h : fn[i]? = some d := by rfl) : ∃ fd, L2.FunD K d.name d.qual d.params d.body d.scope (d.dvs K) (d.kws K) (d.at_ K) fd := by
  have e : fn.map (fun d => He5.fnA K (d.at_ K)) = fn.map He5.DefA.val := congrArg (fun z : He.AlD => z.2) c
  have e2 := congrArg (fun l => l[i]?) e
  simp only [List.getElem?_map, h, Option.map_some, Option.some.injEq] at e2
  exact He5.DefA.funD e2 (c.fst.2.2 d (List.mem_of_getElem? h))
end
/-! ### classes of errors -/
def oexB (K : PySem.W.Frag) (C : Addr) : Bool := (match K.lookup C with
    | some ⟨.type t, _, .cls cd, sl⟩ => (match cd.mro, sl.toList with
      | .ref c :: bm, [_, _, _, _, some (.builtin n), _] => decide (t = "type") && (decide (c = C) && (decide (n = "ValueError.__new__") && (!cd.hasDel && (cd.hasDict && PySem.HandSPX.refsVE bm))))
      | _, _ => false)
    | _ => false) && (eqO (findIn K (.ref C) "__setattr__") (some (some (.builtin "object.__setattr__"))) && (decide (subIn K (.ref C) (.type "BaseException") = some true) && (decide (typeIn K (.ref C) = some (.type "type")) && keepIn K (.ref C))))
theorem oexB_ok {K : PySem.W.Frag} {C : Addr} (h : oexB K C = true) : L2.OexC K C := by
  obtain ⟨h0, h⟩ := ba h
  obtain ⟨h1, h⟩ := ba h
  obtain ⟨h2, h⟩ := ba h
  obtain ⟨h3, h4⟩ := ba h
  refine ⟨?_, eqO_ok h1, of_decide_eq_true h2, of_decide_eq_true h3, h4⟩
  clear h1 h2 h3 h4 h
  split at h0
  · rename_i t dd cd sl ho
    split at h0
    · rename_i c bm k0 k1 k2 k3 n k5 hm hs
      obtain ⟨a1, a⟩ := ba h0
      obtain ⟨a2, a⟩ := ba a
      obtain ⟨a3, a⟩ := ba a
      obtain ⟨a4, a⟩ := ba a
      obtain ⟨a5, a6⟩ := ba a
      obtain ⟨nm, bs, mro, ns, qn, hd, sn, sub, ab, col, del⟩ := cd
      obtain ⟨l⟩ := sl
      dsimp only at hm hs a4 a5
      subst hm hs a5
      obtain rfl := of_decide_eq_true a1
      obtain rfl := of_decide_eq_true a2
      obtain rfl := of_decide_eq_true a3
      have a4' : del = false := by simpa using a4
      subst a4'
      exact ⟨nm, qn, ns, bs, bm, sn, sub, ab, col, dd, k0, k1, k2, k3, k5, ho, a6⟩
    · cases h0
  · cases h0
/-- an error class X with the fields fs: made by its own __init__, caught by the classes yes, not by the classes no; its fields are read -/
def errB (x : PySem.Str) (fs : List PySem.Str) (yes no : List PySem.Str) : Chk := fun K => oexB K (ga K x) && (L2.xfB K (ga K x) && ((fs.all fun f => eqO (findIn K (.ref (ga K x)) f) (some none)) &&
  ((yes.all fun y => decide (exmOne K (.ref (ga K x)) (.ref (ga K y)) = some true)) && ((no.all fun y => decide (exmOne K (.ref (ga K x)) (.ref (ga K y)) = some false)) &&
    (eqO (findIn K (.ref (ga K x)) "__init__") (some (some (.ref (ma K (ga K x) "__init__")))) && decide (typeIn K (.ref (ma K (ga K x) "__init__")) = some (.type "function")))))))
structure ErrC (K : PySem.W.Frag) (x : PySem.Str) (fs yes no : List PySem.Str) : Prop where
  o : L2.OexC K (ga K x)
  xf : L2.XfC K (ga K x)
  no_ : ∀ f ∈ fs, findIn K (.ref (ga K x)) f = some none
  y : ∀ c ∈ yes, exmOne K (.ref (ga K x)) (.ref (ga K c)) = some true
  n : ∀ c ∈ no, exmOne K (.ref (ga K x)) (.ref (ga K c)) = some false
  i : findIn K (.ref (ga K x)) "__init__" = some (some (.ref (ma K (ga K x) "__init__")))
  t : typeIn K (.ref (ma K (ga K x) "__init__")) = some (.type "function")
theorem errB_ok {K : PySem.W.Frag} {x : PySem.Str} {fs yes no : List PySem.Str} (h : errB x fs yes no K = true) : ErrC K x fs yes no := by
  obtain ⟨h1, h⟩ := ba h
  obtain ⟨h2, h⟩ := ba h
  obtain ⟨h3, h⟩ := ba h
  obtain ⟨h4, h⟩ := ba h
  obtain ⟨h5, h⟩ := ba h
  obtain ⟨h6, h7⟩ := ba h
  exact ⟨oexB_ok h1, L2.xfB_ok h2, fun f hf => eqO_ok (List.all_eq_true.mp h3 f hf), fun f hf => of_decide_eq_true (List.all_eq_true.mp h4 f hf), fun f hf => of_decide_eq_true (List.all_eq_true.mp h5 f hf), eqO_ok h6, of_decide_eq_true h7⟩
/-! ### own classes -/
/-- a class whose instances are asked by isinstance; values of built-in types are none of it, and it is none of them -/
def clsB (x : PySem.Str) (tys : List String) : Chk := fun K => eqO (findIn K (.ref (ga K x)) "__class__") (some (some (.builtin "object.__class__"))) && (decide (mroIn K (ga K x) (.type "object") = some true) &&
  ((tys.all fun t => decide (kitOne K (.type t) (.ref (ga K x)) = some false) && (decide (kitOne K (.ref (ga K x)) (.type t) = some false) && notFirst K (ga K x) (.type t))) &&
    (decide (kitOne K (.ref (ga K x)) (.ref (ga K x)) = some true) && notFirst K (ga K x) (.ref (ga K x)))))
structure ClsC (K : PySem.W.Frag) (x : PySem.Str) (tys : List String) : Prop where
  ha : findIn K (.ref (ga K x)) "__class__" = some (some (.builtin "object.__class__"))
  hm : mroIn K (ga K x) (.type "object") = some true
  ty : ∀ t ∈ tys, kitOne K (.type t) (.ref (ga K x)) = some false ∧ kitOne K (.ref (ga K x)) (.type t) = some false ∧ notFirst K (ga K x) (.type t) = true
  me : kitOne K (.ref (ga K x)) (.ref (ga K x)) = some true
  nf : notFirst K (ga K x) (.ref (ga K x)) = true
theorem clsB_ok {K : PySem.W.Frag} {x : PySem.Str} {tys : List String} (h : clsB x tys K = true) : ClsC K x tys := by
  obtain ⟨h1, h⟩ := ba h
  obtain ⟨h2, h⟩ := ba h
  obtain ⟨h3, h⟩ := ba h
  obtain ⟨h4, h5⟩ := ba h
  refine ⟨eqO_ok h1, of_decide_eq_true h2, fun t ht => ?_, of_decide_eq_true h4, h5⟩
  obtain ⟨a, b⟩ := ba (List.all_eq_true.mp h3 t ht)
  obtain ⟨b, c⟩ := ba b
  exact ⟨of_decide_eq_true a, of_decide_eq_true b, c⟩
/-- what holds of every program: how __class__ is read -/
def topB : Chk := fun K => eqO (specialIn K (.builtin "object.__class__") "__get__") (some (some (.builtin "getset_descriptor.__get__"))) && decide (takesIn K (.builtin "object.__class__") = some true)
/-- the class says nothing of != -/
def neB (x : PySem.Str) : Chk := fun K => eqO (findIn K (.ref (ga K x)) "__ne__") (some (some (.builtin "object.__ne__")))
/-- a staticmethod -/
def smB (x m : PySem.Str) : Chk := fun K => He5.wrapB K (ga K x) "staticmethod" "staticmethod.__get__" m && (readsIn K (ga K x) (.type "type") && (eqO (specialIn K (.ref (ga K x)) "__getattribute__") (some (some (.builtin "type.__getattribute__"))) && keepIn K (.ref (He5.wf K (ga K x) "staticmethod" m))))
theorem smB_ok {K : PySem.W.Frag} {x m : PySem.Str} (h : smB x m K = true) : SMet K (ga K x) (.type "type") m (ma K (ga K x) m) (He5.wf K (ga K x) "staticmethod" m) ∧ ClX.CRead K (ga K x) (.type "type") ∧ keepIn K (.ref (He5.wf K (ga K x) "staticmethod" m)) = true := by
  obtain ⟨h1, h⟩ := ba h
  obtain ⟨h2, h⟩ := ba h
  obtain ⟨h3, h4⟩ := ba h
  obtain ⟨a, b⟩ := He5.wrapB_ok h1
  exact ⟨⟨a, b⟩, ⟨h2, eqO_ok h3⟩, h4⟩
end GS
/-! Readings, step by step: one lemma a construct, and a step tactic. -/
namespace GS
open PySem PySem.Spec PyProof.Rows L2

/-! ### promises by the number of arguments -/
def sp1 (S : V → Hp → VK → XK → Prop) : Sp := fun vs H Q E => match vs with | [a] => S a H Q E | _ => False
def sp2 (S : V → V → Hp → VK → XK → Prop) : Sp := fun vs H Q E => match vs with | [a, b] => S a b H Q E | _ => False
def sp3 (S : V → V → V → Hp → VK → XK → Prop) : Sp := fun vs H Q E => match vs with | [a, b, c] => S a b c H Q E | _ => False
def sp4 (S : V → V → V → V → Hp → VK → XK → Prop) : Sp := fun vs H Q E => match vs with | [a, b, c, d] => S a b c d H Q E | _ => False
theorem sp1_len {S : V → Hp → VK → XK → Prop} : ∀ vs H Q E, sp1 S vs H Q E → vs.length = 1 := fun vs _ _ _ h => match vs, h with | [_], _ => rfl
theorem sp2_len {S : V → V → Hp → VK → XK → Prop} : ∀ vs H Q E, sp2 S vs H Q E → vs.length = 2 := fun vs _ _ _ h => match vs, h with | [_, _], _ => rfl
theorem sp3_len {S : V → V → V → Hp → VK → XK → Prop} : ∀ vs H Q E, sp3 S vs H Q E → vs.length = 3 := fun vs _ _ _ h => match vs, h with | [_, _, _], _ => rfl
theorem sp4_len {S : V → V → V → V → Hp → VK → XK → Prop} : ∀ vs H Q E, sp4 S vs H Q E → vs.length = 4 := fun vs _ _ _ h => match vs, h with | [_, _, _, _], _ => rfl
theorem sp1_is {S : V → Hp → VK → XK → Prop} {vs H Q E} (h : sp1 S vs H Q E) : ∃ a, vs = [a] ∧ S a H Q E := match vs, h with | [a], h => ⟨a, rfl, h⟩
theorem sp2_is {S : V → V → Hp → VK → XK → Prop} {vs H Q E} (h : sp2 S vs H Q E) : ∃ a b, vs = [a, b] ∧ S a b H Q E := match vs, h with | [a, b], h => ⟨a, b, rfl, h⟩
theorem sp3_is {S : V → V → V → Hp → VK → XK → Prop} {vs H Q E} (h : sp3 S vs H Q E) : ∃ a b c, vs = [a, b, c] ∧ S a b c H Q E := match vs, h with | [a, b, c], h => ⟨a, b, c, rfl, h⟩
theorem sp4_is {S : V → V → V → V → Hp → VK → XK → Prop} {vs H Q E} (h : sp4 S vs H Q E) : ∃ a b c d, vs = [a, b, c, d] ∧ S a b c d H Q E := match vs, h with | [a, b, c, d], h => ⟨a, b, c, d, rfl, h⟩

/-! ### heaps that grow -/
def Ex (H H' : Hp) : Prop := ∀ a o, H a = some o → H' a = some o
theorem Ex.refl (H : Hp) : Ex H H := fun _ _ h => h
theorem Ex.trans {H H1 H2 : Hp} (a : Ex H H1) (b : Ex H1 H2) : Ex H H2 := fun x o h => b x o (a x o h)
theorem Ex.new {H : Hp} {p : Addr} {o : HO} (h : H p = none) : Ex H (upd H p o) := fun a u e => by rw [upd_ne (ne_of_none e h)]; exact e
theorem Ex.get {H H' : Hp} {a : Addr} {o : HO} (e : Ex H H') (h : H a = some o) : H' a = some o := e _ _ h
theorem Ex.free {H H' : Hp} {p : Addr} (e : Ex H H') (h : H' p = none) : H p = none := by
  cases q : H p with
  | none => rfl
  | some o => rw [e _ _ q] at h; cases h
theorem Ex.sql {K : PySem.W.Frag} {H H' : Hp} {a : Addr} {xs : List V} (e : Ex H H') (h : SqL K H a xs) : SqL K H' a xs := Same.seq e h
theorem Ex.sqt {K : PySem.W.Frag} {H H' : Hp} {a : Addr} {xs : List V} (e : Ex H H') (h : SqT K H a xs) : SqT K H' a xs := SqT.ext h e
/-- the heap without what stands at b -/
def wo (H : Hp) (b : Addr) : Hp := fun a => if a = b then none else H a
theorem wo_ex (H : Hp) (b : Addr) : Ex (wo H b) H := fun a o h => by
  unfold wo at h
  split at h
  · cases h
  · exact h
theorem Ex.wo {H H' : Hp} (b : Addr) (e : Ex H H') : Ex (wo H b) (wo H' b) := fun a o h => by
  unfold GS.wo at h ⊢
  split at h
  · cases h
  · rename_i n
    rw [if_neg n]
    exact e _ _ h
theorem wo_at {H : Hp} {a b : Addr} {o u : HO} (h : H a = some o) (hb : H b = some u) (n : o ≠ u) : wo H b a = some o := by
  unfold wo
  rw [if_neg (ne_of h hb n)]
  exact h
theorem wo_upd {H : Hp} {b : Addr} {o : HO} : wo (upd H b o) b = wo H b := by
  funext a
  unfold wo upd
  split <;> rfl

/-- what is wished of a new instance -/
def mkK (C : Addr) (sp : Sp) (E : XK) (Q : VK) : List V → Hp → Prop := fun vs H1 => ∀ x dx, H1 x = none → H1 dx = none → dx ≠ x → sp (.ref x :: (vs ++ [])) (upd (upd H1 dx (.own x)) x (.ins C dx [])) (fun v H2 => v = .non ∧ Q (.ref x) H2) E
/-- what is wished of a new tuple, a new list -/
def newT (Q : VK) : List V → Hp → Prop := fun xs H1 => xs.length ≤ sizeLine ∧ ∀ p, H1 p = none → Q (.ref p) (upd H1 p (.tup xs))
def newL (Q : VK) : List V → Hp → Prop := fun xs H1 => xs.length ≤ sizeLine ∧ ∀ p, H1 p = none → Q (.ref p) (upd H1 p (.lst xs))
theorem r_newT {Q : VK} {xs : List V} {H : Hp} (hz : xs.length ≤ sizeLine) (q : ∀ p H', H p = none → Ex H H' → H' p = some (.tup xs) → Q (.ref p) H') : newT Q xs H := ⟨hz, fun p hp => q p _ hp (Ex.new hp) upd_same⟩
theorem r_newL {Q : VK} {xs : List V} {H : Hp} (hz : xs.length ≤ sizeLine) (q : ∀ p H', H p = none → Ex H H' → H' p = some (.lst xs) → Q (.ref p) H') : newL Q xs H := ⟨hz, fun p hp => q p _ hp (Ex.new hp) upd_same⟩
/-! ### expressions -/
section
variable {K : PySem.W.Frag} {σ : L2.St} {H : Hp} {Q : VK} {ta tb te tc : TE} {t u : TT} {v x y : V} {i j : Int}
theorem r_var {n : Nat} (h : σ[n]? = some (some v)) (q : Q v H) : tVar n σ H Q := ⟨v, h, q⟩
theorem r_var3 {n : Nat} (q : Q v H) (h : σ[n]? = some (some v)) : tVar n σ H Q := ⟨v, h, q⟩
theorem r_c (q : Q v H) : tC v σ H Q := q
theorem r_op {r : R2} (q : ta σ H fun x H1 => tb σ H1 fun y H2 => r x y H2 Q) : tOp r ta tb σ H Q := q
theorem r_un {r : V → Hp → VK → Prop} (q : ta σ H fun x H1 => r x H1 Q) : tUn r ta σ H Q := q
theorem r_I0 {g : Int → Int → V} (q : Q (g i j) H) : rI0 g (.int i) (.int j) H Q := ⟨i, j, rfl, rfl, q⟩
theorem r_I {C : Int → Int → Prop} {g : Int → Int → V} (c : C i j) (q : Q (g i j) H) : rI C g (.int i) (.int j) H Q := ⟨i, j, rfl, rfl, c, q⟩
theorem r_U {g : Int → V} (q : Q (g i) H) : rU g (.int i) H Q := ⟨i, rfl, q⟩
theorem r_eq (h : scal x y = true) (q : Q (.bl (decide (x = y))) H) : rEq x y H Q := ⟨h, q⟩
theorem r_eqI (q : Q (.bl (decide (i = j))) H) : rEq (.int i) (.int j) H Q := ⟨rfl, by rwa [show decide (V.int i = V.int j) = decide (i = j) from by simp]⟩
theorem r_neI (q : Q (.bl (!decide (i = j))) H) : rNe (.int i) (.int j) H Q := ⟨rfl, by rwa [show decide (V.int i = V.int j) = decide (i = j) from by simp]⟩
theorem r_ne (h : scal x y = true) (q : Q (.bl (!decide (x = y))) H) : rNe x y H Q := ⟨h, q⟩
theorem r_test {R : Bool → Hp → Prop} (q : ta σ H fun x H' => ∃ k, x = .bl k ∧ R k H') : tTest ta σ H R := q
theorem r_B {R : Bool → Hp → Prop} (q : ta σ H fun x H' => ∃ k, x = .bl k ∧ R k H') : tB ta σ H R := q
theorem r_k {b : Bool} {R : Bool → Hp → Prop} (q : R b H) : ∃ k, V.bl b = .bl k ∧ R k H := ⟨b, rfl, q⟩
theorem r_and {R : Bool → Hp → Prop} (q : t σ H fun c H1 => if c = true then u σ H1 R else R false H1) : tAnd t u σ H R := q
theorem r_or {R : Bool → Hp → Prop} (q : t σ H fun c H1 => if c = true then R true H1 else u σ H1 R) : tOr t u σ H R := q
theorem r_not {R : Bool → Hp → Prop} (q : t σ H fun c H1 => R (!c) H1) : tNot t σ H R := q
theorem r_andV (q : ta σ H fun x H1 => ∃ c, x = .bl c ∧ if c = true then tb σ H1 Q else Q (.bl false) H1) : tAndV ta tb σ H Q := q
theorem r_orV (q : ta σ H fun x H1 => ∃ c, x = .bl c ∧ if c = true then Q (.bl true) H1 else tb σ H1 Q) : tOrV ta tb σ H Q := q
theorem r_notV (q : ta σ H fun x H1 => ∃ c, x = .bl c ∧ Q (.bl (!c)) H1) : tNotV ta σ H Q := q
theorem r_kV {b : Bool} {R : Bool → Prop} (q : R b) : ∃ c, V.bl b = .bl c ∧ R c := ⟨b, rfl, q⟩
theorem r_if (q : t σ H fun c H1 => if c = true then ta σ H1 Q else tb σ H1 Q) : tIf t ta tb σ H Q := q
theorem r_nil {R : List V → Hp → Prop} (q : R [] H) : tNil σ H R := q
theorem r_cons {tr : TA} {R : List V → Hp → Prop} (q : ta σ H fun x H1 => tr σ H1 fun xs H2 => R (x :: xs) H2) : tCons ta tr σ H R := q
theorem r_cb {r : List V → Hp → VK → Prop} {tr : TA} (q : tr σ H fun vs H1 => r vs H1 Q) : tCB r tr σ H Q := q
theorem r_call {sp : Sp} {E : XK} {tr : TA} (q : tr σ H fun vs H1 => sp (vs ++ []) H1 Q E) : tCall sp [] E tr σ H Q := q
theorem r_make {C : Addr} {sp : Sp} {E : XK} {tr : TA} (q : tr σ H (mkK C sp E Q)) : tMake C sp [] E tr σ H Q := q
theorem r_fld {a C dx : Addr} {fs : List (Str × V)} {f : Str} (h : H a = some (.ins C dx fs)) (c : Cls K C) (n : NoAttr K C f) (l : fs.lookup f = some v) (q : Q v H) : ∃ a' C dx fs v, V.ref a = .ref a' ∧ H a' = some (.ins C dx fs) ∧ Cls K C ∧ NoAttr K C f ∧ fs.lookup f = some v ∧ Q v H :=
  ⟨a, C, dx, fs, v, rfl, h, c, n, l, q⟩
theorem r_tup {tr : TA} (q : tr σ H (newT Q)) : tTup tr σ H Q := q
theorem r_lst {tr : TA} (q : tr σ H (newL Q)) : tLst tr σ H Q := q
/-! ### statements -/
variable {D : Ends} {ts tu : TS}
theorem r_seq (q : ts { D with nx := tu D } σ H) : tSeq ts tu D σ H := q
theorem r_asg {n : Nat} (q : te σ H fun x H1 => D.nx (σ.set n (some x)) H1) : tAsg te (gName n) D σ H := q
theorem r_asgG {g : TG} (q : te σ H fun x H1 => g x σ H1 D.nx) : tAsg te g D σ H := q
theorem r_ret (q : te σ H D.rt) : tRet te D σ H := q
theorem r_drop (q : te σ H fun _ H1 => D.nx σ H1) : tDrop te D σ H := q
theorem r_next (q : D.nx σ H) : tNext D σ H := q
theorem r_ifS (q : t σ H fun b H1 => if b = true then ts D σ H1 else tu D σ H1) : tIfS t ts tu D σ H := q
theorem r_raise {W : WX} {X : L2.St → Hp → XK → Prop} (q : X σ H fun cls d H' => W cls d σ H') : (fun (_ : Ends) σ H => X σ H fun cls d H' => W cls d σ H') D σ H := q
end
theorem ite_t {c : Bool} {A B : Prop} (hc : c = true) (h : A) : if c = true then A else B := by rw [if_pos hc]; exact h
theorem ite_f {c : Bool} {A B : Prop} (hc : c = false) (h : B) : if c = true then A else B := by rw [hc, if_neg Bool.false_ne_true]; exact h
theorem ite_b {c : Bool} {A B : Prop} (h1 : c = true → A) (h2 : c = false → B) : if c = true then A else B := by
  cases c with
  | true => rw [if_pos rfl]; exact h1 rfl
  | false => rw [if_neg Bool.false_ne_true]; exact h2 rfl

/-! ### own rules that the layer lacks -/
section
variable {X : Cx}
theorem pe_gint {x : Str} {pos : Pos} {i : Int} (hg : Gl X x) (h : ∃ t, X.mg x = some (.int i t)) (hd : (x == ("__debug__" : Str)) = false := by decide) : PE X (.Name x pos) (tC (.int i)) := let ⟨t, e⟩ := h; pe_glob hg e ⟨t, rfl⟩ hd
theorem pe_gstr {x : Str} {pos : Pos} {z : Str} (hg : Gl X x) (h : ∃ t, X.mg x = some (.str z t)) (hd : (x == ("__debug__" : Str)) = false := by decide) : PE X (.Name x pos) (tC (.str z)) := let ⟨t, e⟩ := h; pe_glob hg e ⟨t, rfl⟩ hd
def CPowW (i j : Int) : Prop := 0 ≤ j ∧ (Builtin.Int.intBits i : Int) * j ≤ 2 ^ 27
theorem op_powW : OpR X (binaryOp .Pow) (rI CPowW fun i j => .int (i ^ j.toNat)) := opI fun _ _ _ _ _ _ _ hc q => pow_int hc.1 hc.2 q
theorem cpow_of {i : Int} {n k : Nat} (h : i.natAbs < 2 ^ n) (hk : n * k ≤ 2 ^ 27) : CPowW i (k : Int) := by
  refine ⟨by omega, ?_⟩
  have b : Builtin.Int.intBits i ≤ n := by
    unfold Builtin.Int.intBits
    split
    · exact Nat.zero_le _
    · rename_i h0
      have h1 : i ≠ 0 := by simpa using h0
      have : i.natAbs.log2 < n := (Nat.log2_lt (by omega)).mpr h
      omega
  have : Builtin.Int.intBits i * k ≤ 2 ^ 27 := Nat.le_trans (Nat.mul_le_mul_right k b) hk
  exact_mod_cast this
end
end GS
/-! Comprehensions whose turns only let the heap grow; integers as texts. -/
namespace GS
open PySem PySem.Spec PyProof.Rows L2 TL
/-- the body of a comprehension's reading -/
def lcB (J : It) (g : TG) (tt : TT) (te : TE) (vs : List Nat) (σ : L2.St) (Q : VK) : Hp → Prop := fun H1 => ∀ D, H1 D = none → ∃ W : Nat → Nat → Hp → Prop, (∃ m, W 0 m (upd H1 D (.lst []))) ∧ ∀ i m H, W i m H → (J.stop i H ∧ Q (.ref D) H) ∨
  (J.go i H ∧ ∃ Nx : Hp → Prop, (∀ H', Nx H' → ∃ m', m' < m ∧ W (i + 1) m' H') ∧ ∀ x H', J.yld i H x H' → g x (wipe σ vs) H' fun σ2 H2 => wipe σ2 vs = wipe σ vs ∧ tt σ2 H2 fun b H3 => if b = true then te σ2 H3 fun y H4 => ∃ acc, H4 D = some (.lst acc) ∧ acc.length < sizeLine ∧ Nx (upd H4 D (.lst (acc ++ [y]))) else Nx H3)
theorem r_lc {wi : TI} {g : TG} {tt : TT} {te : TE} {vs : List Nat} {σ : L2.St} {H : Hp} {Q : VK} (q : wi σ H fun J H1 => lcB J g tt te vs σ Q H1) : tLc wi g tt te vs σ H Q := q
theorem r_chain {r r' : R2} {ta tb tc : TE} {σ : L2.St} {H : Hp} {Q : VK} (q : ta σ H fun x H1 => tb σ H1 fun y H2 => r x y H2 fun z H3 => ∃ k, z = .bl k ∧ (if k = true then tc σ H3 fun w' H4 => r' y w' H4 Q else Q (.bl false) H3)) : tChain r r' ta tb tc σ H Q := q
theorem all_true {K : PySem.W.Frag} {H : Hp} {p : Addr} {n : Nat} {Q : VK} (h : H p = some (.lst ((List.range n).map fun _ => V.bl true))) (q : Q (.bl true) H) : rAll K [.ref p] H Q := by
  refine ⟨p, (List.range n).map fun _ => true, rfl, SqL.of (by rw [List.map_map]; exact h), ?_⟩
  have e : ((List.range n).map fun _ => true).all id = true := by simp
  rw [e]
  exact q
theorem r_pickS {c : Prop} [Decidable c] {σ : L2.St} {H : Hp} {Q : VK} {ta tb : TE} {i j : Str} (h1 : ∀ Q : VK, Q (.str i) H → ta σ H Q) (h2 : ∀ Q : VK, Q (.str j) H → tb σ H Q) (q : Q (.str (if c then i else j)) H) : if decide c = true then ta σ H Q else tb σ H Q := by
  by_cases h : c
  · rw [if_pos h] at q
    exact ite_t (decide_eq_true h) (h1 Q q)
  · rw [if_neg h] at q
    exact ite_f (decide_eq_false h) (h2 Q q)
theorem r_iT {K : PySem.W.Frag} {tl : TE} {σ : L2.St} {H : Hp} {R : It → Hp → Prop} (q : tl σ H fun x H1 => ∃ a, x = .ref a ∧ (∃ xs, SqT K H1 a xs) ∧ R (Itt K a) H1) : iTup K tl σ H R := q
theorem r_iL {K : PySem.W.Frag} {tl : TE} {σ : L2.St} {H : Hp} {R : It → Hp → Prop} (q : tl σ H fun x H1 => ∃ a, x = .ref a ∧ (∃ xs, SqL K H1 a xs) ∧ R (Itl K a) H1) : iList K tl σ H R := q
theorem r_iR1 {ta : TA} {σ : L2.St} {H : Hp} {R : It → Hp → Prop} (q : ta σ H fun vs H1 => ∃ j : Int, vs = [.int j] ∧ -(2 ^ 62) ≤ j ∧ j < 2 ^ 62 ∧ R (Itr 0 j.toNat) H1) : iRng1 ta σ H R := q
theorem Ex.mut {H H' : Hp} {p : Addr} {o : HO} (e : Ex H H') (h : H p = none) : Ex H (upd H' p o) := fun a u ha => by
  rw [upd_ne (ne_of_none ha h)]
  exact e a u ha
theorem sz_le {n : Nat} (h : n ≤ 100000) : n ≤ sizeLine := Nat.le_trans h (by decide)
theorem sz_lt {n : Nat} (h : n < 100000) : n < sizeLine := Nat.lt_of_lt_of_le h (by decide)
/-- the items that a filtered comprehension gives -/
def given (n : Nat) (t : Nat → Bool) (f : Nat → V) : List V := ((List.range n).filter t).map f
theorem given_len (n : Nat) (t : Nat → Bool) (f : Nat → V) : (given n t f).length ≤ n := by
  unfold given
  rw [List.length_map]
  exact Nat.le_trans (List.length_filter_le _ _) (by rw [List.length_range]; exact Nat.le_refl _)
theorem given_all (n : Nat) (f : Nat → V) : given n (fun _ => true) f = (List.range n).map f := by
  unfold given
  rw [List.filter_eq_self.mpr (fun _ _ => rfl)]
theorem given_succ (n : Nat) (t : Nat → Bool) (f : Nat → V) : given (n + 1) t f = if t n = true then given n t f ++ [f n] else given n t f := by
  unfold given
  rw [List.range_succ, List.filter_append, List.map_append, List.filter_cons]
  split
  · rfl
  · show _ ++ [] = _
    rw [List.append_nil]
/-- one name, k its slot -/
theorem r_lcF {J : It} {n : Nat} {G : Hp → Prop} {Y : Nat → Hp → V → Hp → Prop} {k : Nat} {tt : TT} {te : TE} {σ : L2.St} {H1 : Hp} {Q : VK} (w : Walk J n G Y) (t : Nat → Bool) (f : Nat → V) (hn : n ≤ 50000) (hG : ∀ H' : Hp, Ex H1 H' → G H')
    (hw : ∀ x, wipe ((wipe σ [k]).set k (some x)) [k] = wipe σ [k])
    (hs : ∀ i x H H', i < n → Ex H1 H → Y i H x H' → Ex H H' ∧ ∀ R : Bool → Hp → Prop, (∀ H3, Ex H' H3 → R (t i) H3) → tt ((wipe σ [k]).set k (some x)) H' R)
    (he : ∀ i x H, i < n → t i = true → Ex H1 H → (∃ H0 H2, Y i H0 x H2 ∧ Ex H1 H0 ∧ Ex H0 H2 ∧ Ex H2 H) → ∀ R : VK, (∀ H4, Ex H H4 → R (f i) H4) → te ((wipe σ [k]).set k (some x)) H R)
    (q : ∀ p H', H1 p = none → Ex H1 H' → H' p = some (.lst (given n t f)) → Q (.ref p) H') : lcB J (gName k) tt te [k] σ Q H1 := by
  intro D hD
  refine lc_it w (fun i H => Ex H1 H ∧ H D = some (.lst (given i t f))) ⟨Ex.mut (Ex.refl _) hD, upd_same⟩ (fun i H _ p => hG H p.1) ?_ (fun H p => q D H hD p.1 p.2)
  intro i x H H' hi p y
  obtain ⟨e1, ht⟩ := hs i x H H' hi p.1 y
  refine ⟨hw x, ht _ fun H3 e3 => ?_⟩
  have hD3 : H3 D = some (.lst (given i t f)) := e3 _ _ (e1 _ _ p.2)
  cases c : t i with
  | false =>
    refine ite_f rfl ⟨(p.1.trans e1).trans e3, ?_⟩
    rw [given_succ, c]
    exact hD3
  | true =>
    refine ite_t rfl (he i x H3 hi c ((p.1.trans e1).trans e3) ⟨H, H', y, p.1, e1, e3⟩ _ fun H4 e4 => ?_)
    refine ⟨_, e4 _ _ hD3, sz_lt (by have := given_len i t f; omega), Ex.mut (((p.1.trans e1).trans e3).trans e4) hD, ?_⟩
    rw [given_succ, c]
    exact upd_same
/-- without a test -/
theorem r_lcM {J : It} {n : Nat} {G : Hp → Prop} {Y : Nat → Hp → V → Hp → Prop} {k : Nat} {te : TE} {σ : L2.St} {H1 : Hp} {Q : VK} (w : Walk J n G Y) (f : Nat → V) (hn : n ≤ 50000) (hG : ∀ H' : Hp, Ex H1 H' → G H')
    (hw : ∀ x, wipe ((wipe σ [k]).set k (some x)) [k] = wipe σ [k])
    (he : ∀ i x H H', i < n → Ex H1 H → Y i H x H' → Ex H H' ∧ ∀ H3, Ex H' H3 → ∀ R : VK, (∀ H4, Ex H3 H4 → R (f i) H4) → te ((wipe σ [k]).set k (some x)) H3 R)
    (q : ∀ p H', H1 p = none → Ex H1 H' → H' p = some (.lst ((List.range n).map f)) → Q (.ref p) H') : lcB J (gName k) tYes te [k] σ Q H1 := by
  refine r_lcF w (fun _ => true) f hn hG hw (fun i x H H' hi e y => ⟨(he i x H H' hi e y).1, fun R r => r H' (Ex.refl _)⟩) ?_ (fun p H' h1 h2 h3 => q p H' h1 h2 (by rw [given_all] at h3; exact h3))
  rintro i x H hi - e ⟨H0, H2, y, e0, e1, e2⟩ R r
  exact (he i x H0 H2 hi e0 y).2 H e2 R r
/-! ### integers as texts -/
def nS (i : Int) : Str := Str.ofString (toString i)
def dg (i : Int) : List Nat := numL i.natAbs
theorem tl_nS_nn {i : Int} (h : 0 ≤ i) : tl (nS i) = dg i := by
  obtain ⟨n, rfl⟩ := Int.eq_ofNat_of_zero_le h
  exact tl_num n
theorem tl_nS_neg {i : Int} (h : i < 0) : tl (nS i) = 45 :: dg i := by
  unfold nS dg
  have e : (0 - i) = ((i.natAbs : Nat) : Int) := by omega
  have f := tl_num i.natAbs
  rw [tl_ofString] at f
  rw [toString_neg h, tl_ofString, String.toList_append, List.map_append, e, f]
  rfl
theorem dg_digits (i : Int) : NumText.AllDigits (dg i) := numL_digits _
theorem dg_ne (i : Int) : dg i ≠ [] := numL_ne _
theorem dg_len {i : Int} {k : Nat} (hk : 0 < k) (h : i.natAbs < 10 ^ k) : (dg i).length ≤ k := numL_len hk h
theorem str_ext {a b : Str} (h : tl a = tl b) : a = b := ext_toList h
theorem nS_len {i : Int} {k : Nat} (hk : 0 < k) (h : i.natAbs < 10 ^ k) : (nS i).length ≤ k + 1 := by
  rw [len_tl]
  by_cases c : 0 ≤ i
  · rw [tl_nS_nn c]
    exact Nat.le_trans (dg_len hk h) (Nat.le_succ _)
  · rw [tl_nS_neg (by omega), List.length_cons]
    exact Nat.succ_le_succ (dg_len hk h)
/-- the sign and the digits apart -/
theorem nS_abs (i : Int) : nS i = (if i < 0 then Str.ofString "-" else Str.ofString "") ++ nS i.natAbs := by
  refine str_ext ?_
  have e : tl (nS (i.natAbs : Int)) = dg i := tl_nS_nn (i := (i.natAbs : Int)) (by omega)
  rw [tl_append, e]
  by_cases c : i < 0
  · rw [if_pos c, tl_nS_neg c]
    rfl
  · rw [if_neg c, tl_nS_nn (by omega)]
    rfl
theorem nS_free {i : Int} {s : Nat} (h : s ≠ 45) (h2 : s < 48 ∨ 57 < s) : s ∉ tl (nS i) := by
  by_cases c : 0 ≤ i
  · rw [tl_nS_nn c]
    exact numL_free h2
  · rw [tl_nS_neg (by omega)]
    intro hm
    rcases List.mem_cons.mp hm with e | e
    · exact h e
    · exact numL_free h2 e
theorem nS_int {i : Int} (h : i.natAbs < 10 ^ 600) : intText? (nS i) = some i := by
  have l := nS_len (k := 600) (by decide) h
  have v : ((NumText.digitsVal (dg i) : Nat) : Int) = i.natAbs := by unfold dg; rw [numL_val]
  by_cases c : 0 ≤ i
  · have e : (nS i).cps.toList = dg i := tl_nS_nn c
    rw [intText_digits (by rw [e]; exact dg_digits i) (by rw [e]; exact dg_ne i) (by omega), e, v]
    congr 1
    omega
  · have e : (nS i).cps.toList = 45 :: dg i := tl_nS_neg (by omega)
    rw [intText_neg e (dg_digits i) (dg_ne i) (by omega), v]
    congr 1
    omega
end GS
/-! A law's bag of drawn numbers; more stepping lemmas. -/
namespace GS
open PySem PySem.Spec PyProof.Rows L2 TL
/-! ### * of very great integers -/
def CMulB (i j : Int) : Prop := i.natAbs.log2 + j.natAbs.log2 < 100000000
theorem CMulB.ok {i j : Int} (h : CMulB i j) : IntMulOk i j := by
  have b : ∀ x : Int, Builtin.Int.intBits x ≤ x.natAbs.log2 + 1 := fun x => by
    unfold Builtin.Int.intBits
    split <;> omega
  have h1 := b i
  have h2 := b j
  unfold CMulB at h
  have e : bitsLine = 134217728 := by decide
  unfold IntMulOk
  intro z
  have z2 := (Bool.and_eq_true_iff.mp z).2
  unfold Builtin.Int.intTooBig at z2
  have z3 := of_decide_eq_true z2
  omega
theorem op_mulB {X : Cx} : OpR X (binaryOp .Mult) (rI CMulB fun i j => .int (i * j)) := opI fun _ _ _ _ _ _ _ hc q => mul_int q hc.ok
theorem lg_lt {i : Int} {n : Nat} (h : i.natAbs < 2 ^ n) (hn : 0 < n) : i.natAbs.log2 < n := PySem.Flt.log2_lt_of hn h
theorem mulB_of {i j : Int} {a b : Nat} (ha : i.natAbs < 2 ^ a) (hb : j.natAbs < 2 ^ b) (h0 : 0 < a) (h1 : 0 < b) (h : a + b ≤ 100000000) : CMulB i j := by
  have x := lg_lt ha h0
  have y := lg_lt hb h1
  unfold CMulB
  omega
/-! ### steps -/
section
variable {K : PySem.W.Frag} {σ : L2.St} {H : Hp} {Q : VK} {i j : Int} {b : Bool} {p : Addr} {xs : List V} {v : V}
theorem r_ixL (h : H p = some (.lst xs)) (e : atI xs i = some v) (q : Q v H) : rIxL K (.ref p) (.int i) H Q := ⟨_, _, _, _, rfl, rfl, SqL.of h, e, q⟩
theorem r_ixT (h : H p = some (.tup xs)) (e : atI xs i = some v) (q : Q v H) : rIxT K (.ref p) (.int i) H Q := ⟨_, _, _, _, rfl, rfl, SqT.of h, e, q⟩
theorem r_gSub {to ti : TE} {t : TSet} {N : L2.St → Hp → Prop} (q : to σ H fun o H1 => ti σ H1 fun i H2 => t o i v H2 fun H3 => N σ H3) : gSub to ti t v σ H N := q
theorem r_setL {k : Int} {n : Nat} {N : Hp → Prop} (h : H p = some (.lst xs)) (e : ixN xs.length k = some n) (q : N (upd H p (.lst (xs.set n v)))) : rSetL (.ref p) (.int k) v H N := ⟨p, xs, k, n, rfl, rfl, h, e, q⟩
theorem r_pow {v k : Int} (c : CPowW i k) (e : i ^ k.toNat = v) (q : Q (.int v) H) : rI CPowW (fun i j => .int (i ^ j.toNat)) (.int i) (.int k) H Q := r_I c (by rw [e]; exact q)
/-- what is wished behind int(..), abs(..), len(..) -/
def intK (Q : VK) : List V → Hp → Prop := fun xs H => (∃ i, xs = [V.int i] ∧ Q (.int i) H) ∨ ∃ k, xs = [V.bl k] ∧ Q (.int (if k = true then 1 else 0)) H
def absK (Q : VK) : List V → Hp → Prop := fun xs H => ∃ i, xs = [V.int i] ∧ Q (.int (if i < 0 then -i else i)) H
def lenK (K : PySem.W.Frag) (Q : VK) : List V → Hp → Prop := fun xs H => ∃ p ys, xs = [V.ref p] ∧ (SqL K H p ys ∨ SqT K H p ys) ∧ Q (.int ys.length) H
theorem r_cbInt {tr : TA} (q : tr σ H (intK Q)) : tCB (fun xs H Q => (∃ i, xs = [V.int i] ∧ Q (V.int i) H) ∨ ∃ k, xs = [V.bl k] ∧ Q (V.int (if k = true then 1 else 0)) H) tr σ H Q := q
theorem r_cbAbs {tr : TA} (q : tr σ H (absK Q)) : tCB (fun xs H Q => ∃ i, xs = [V.int i] ∧ Q (V.int (if i < 0 then -i else i)) H) tr σ H Q := q
theorem r_cbLen {tr : TA} (q : tr σ H (lenK K Q)) : tCB (fun xs H Q => ∃ p ys, xs = [V.ref p] ∧ (SqL K H p ys ∨ SqT K H p ys) ∧ Q (V.int ys.length) H) tr σ H Q := q
theorem r_intI (q : Q (.int j) H) : intK Q [.int j] H := .inl ⟨_, rfl, q⟩
theorem r_intB (q : Q (.int (if b = true then 1 else 0)) H) : intK Q [.bl b] H := .inr ⟨_, rfl, q⟩
theorem r_absI (q : Q (.int (if j < 0 then -j else j)) H) : absK Q [.int j] H := ⟨_, rfl, q⟩
theorem r_lenL (h : H p = some (.lst xs)) (q : Q (.int xs.length) H) : lenK K Q [.ref p] H := ⟨_, _, rfl, .inl (SqL.of h), q⟩
end
/-- a place where ways join -/
theorem r_seqJ {D : Ends} {ts tu : TS} {σ : L2.St} {H : Hp} (P : L2.St → Hp → Prop) (h : ∀ N : L2.St → Hp → Prop, (∀ σ' H', P σ' H' → N σ' H') → ts { D with nx := N } σ H) (h2 : ∀ σ' H', P σ' H' → tu D σ' H') : tSeq ts tu D σ H := h (tu D) h2
/-! ### lists of integers against one another -/
theorem dp_ints {K : PySem.W.Frag} {H : Hp} : ∀ xs : List Int, DpAll K H (xs.map V.int) (xs.map PyData.int)
  | [] => .nil
  | x :: xs => .cons (.int x) (dp_ints xs)
theorem can_ints : ∀ xs : List Int, PyData.canLayAll0 (xs.map PyData.int) = true
  | [] => rfl
  | x :: xs => by
    rw [List.map_cons]
    show (PyData.canLay0 (.int x) && PyData.canLayAll0 (xs.map PyData.int)) = true
    rw [can_ints xs]
    rfl
theorem depth_ints : ∀ xs : List Int, PyData.depthAll (xs.map PyData.int) = 0
  | [] => rfl
  | x :: xs => by
    rw [List.map_cons]
    show max (PyData.depth (.int x)) (PyData.depthAll (xs.map PyData.int)) = 0
    rw [depth_ints xs]
    rfl
theorem shaped_ints (xs : List Int) : SeqAt.shaped (.list (xs.map PyData.int)) = true ∧ SeqAt.shaped (.tuple (xs.map PyData.int)) = true := by
  have h1 := can_ints xs
  have h2 := depth_ints xs
  constructor
  · show (PyData.canLayAll0 (xs.map PyData.int) && decide (PyData.depthAll (xs.map PyData.int) + 1 ≤ 64)) = true
    rw [h1, h2]
    rfl
  · show (PyData.canLayAll0 (xs.map PyData.int) && decide (PyData.depthAll (xs.map PyData.int) + 1 ≤ 64)) = true
    rw [h1, h2]
    rfl
theorem eqv_ints : ∀ xs ys : List Int, PyData.eqvAll (xs.map PyData.int) (ys.map PyData.int) = decide (xs = ys)
  | [], [] => rfl
  | [], y :: ys => rfl
  | x :: xs, [] => rfl
  | x :: xs, y :: ys => by
    rw [List.map_cons, List.map_cons]
    show ((x == y) && PyData.eqvAll (xs.map PyData.int) (ys.map PyData.int)) = _
    rw [eqv_ints xs ys]
    by_cases c : x = y <;> simp [c]
/-- xs != ys, lists of integers -/
theorem r_neInts {K : PySem.W.Frag} {H : Hp} {Q : VK} {p q : Addr} {xs ys : List Int} (h1 : H p = some (.lst (xs.map V.int))) (h2 : H q = some (.lst (ys.map V.int))) (k : Q (.bl (!decide (xs = ys))) H) : rNeD K (.ref p) (.ref q) H Q := by
  refine ⟨_, _, .lst (SqL.of h1) (dp_ints xs), .lst (SqL.of h2) (dp_ints ys), (shaped_ints xs).1, (shaped_ints ys).1, ?_⟩
  show Q (.bl (!PyData.eqvAll (xs.map PyData.int) (ys.map PyData.int))) H
  rw [eqv_ints]
  exact k
theorem r_eqInts {K : PySem.W.Frag} {H : Hp} {Q : VK} {p q : Addr} {xs ys : List Int} (h1 : H p = some (.tup (xs.map V.int))) (h2 : H q = some (.tup (ys.map V.int))) (k : Q (.bl (decide (xs = ys))) H) : rEqD K (.ref p) (.ref q) H Q := by
  refine ⟨_, _, .tup (SqT.of h1) (dp_ints xs), .tup (SqT.of h2) (dp_ints ys), (shaped_ints xs).2, (shaped_ints ys).2, ?_⟩
  show Q (.bl (PyData.eqvAll (xs.map PyData.int) (ys.map PyData.int))) H
  rw [eqv_ints]
  exact k
/-! ### all but p is kept -/
def Bu (p : Addr) (H H' : Hp) : Prop := ∀ b o, b ≠ p → H b = some o → H' b = some o
theorem Bu.refl (p : Addr) (H : Hp) : Bu p H H := fun _ _ _ h => h
theorem Bu.trans {p : Addr} {H H1 H2 : Hp} (a : Bu p H H1) (b : Bu p H1 H2) : Bu p H H2 := fun c o n h => b c o n (a c o n h)
theorem Bu.upd {p : Addr} {H : Hp} {o : HO} : Bu p H (upd H p o) := fun b u n h => by rw [upd_ne n]; exact h
theorem Bu.of {p : Addr} {H H' : Hp} (e : Ex H H') : Bu p H H' := fun b o _ h => e b o h
/-- sizes -/
def Z (n : Nat) (i : Int) : Prop := i.natAbs < 2 ^ n
theorem Z.mono {n m : Nat} {i : Int} (h : Z n i) (l : n ≤ m) : Z m i := Nat.lt_of_lt_of_le h (Nat.pow_le_pow_right (by omega) l)
theorem Z.mul {n m : Nat} {i j : Int} (a : Z n i) (b : Z m j) : Z (n + m) (i * j) := wide_lt a b
theorem Z.add {n : Nat} {i j : Int} (a : Z n i) (b : Z n j) : Z (n + 1) (i + j) := by
  unfold Z at *
  have : (2 : Nat) ^ (n + 1) = 2 ^ n + 2 ^ n := by rw [Nat.pow_succ]; omega
  omega
theorem Z.sub {n : Nat} {i j : Int} (a : Z n i) (b : Z n j) : Z (n + 1) (i - j) := by
  unfold Z at *
  have : (2 : Nat) ^ (n + 1) = 2 ^ n + 2 ^ n := by rw [Nat.pow_succ]; omega
  omega
theorem Z.sq {n : Nat} {i : Int} (a : Z n i) : Z (n + n) (i ^ 2) := by rw [int_pow_two]; exact a.mul a
theorem mulOk {n m : Nat} {i j : Int} (a : Z n i) (b : Z m j) (hn : 0 < n) (hm : 0 < m) (h : n + m ≤ 1000000) : CMulW i j := wide_mul a b hn hm h
/-! ### the bag -/
structure Bag (H : Hp) (b : Addr) (n : Int) : Prop where
  is : ∃ (L : Addr) (xs : List Int) (at_ left : Int), H b = some (.lst [.ref L, .int at_, .int left]) ∧ H L = some (.lst (xs.map V.int)) ∧ L ≠ b ∧ 0 ≤ at_ ∧ at_ ≤ n ∧ 0 ≤ left ∧ xs.length ≤ 64 ∧ ∀ x ∈ xs, Z 2000000 x
theorem Bag.ex {H H' : Hp} {b : Addr} {n : Int} (h : Bag H b n) (e : Ex H H') : Bag H' b n := by
  obtain ⟨L, xs, a, l, h1, h2, h3⟩ := h.is
  exact ⟨L, xs, a, l, e _ _ h1, e _ _ h2, h3⟩
theorem Bag.le {H : Hp} {b : Addr} {n m : Int} (h : Bag H b n) (e : n ≤ m) : Bag H b m := by
  obtain ⟨L, xs, a, l, h1, h2, h3, h4, h5, h6⟩ := h.is
  exact ⟨L, xs, a, l, h1, h2, h3, h4, Int.le_trans h5 e, h6⟩
theorem Bag.ne {H : Hp} {b a : Addr} {n : Int} {o : HO} (h : Bag H b n) (ha : H a = some o) (ho : ∀ L x y, o ≠ .lst [.ref L, .int x, .int y]) : a ≠ b := by
  obtain ⟨L, xs, x, y, h1, _⟩ := h.is
  rintro rfl
  rw [ha] at h1
  exact ho _ _ _ (Option.some.inj h1)
/-- what a draw promises -/
def spDraw : Sp := sp2 fun b m H Q _ => ∃ p m' n, b = .ref p ∧ m = .int m' ∧ 0 < m' ∧ Z 1000 m' ∧ n ≤ 100000 ∧ Bag H p n ∧ ∀ r H', 0 ≤ r → r < m' → Bu p H H' → Bag H' p (n + 1) → Q (.int r) H'
theorem r_Draw {H : Hp} {Q : VK} {E : XK} {p : Addr} {m n : Int} (hb : Bag H p n) (hn : n ≤ 100000) (h0 : 0 < m) (hm : Z 1000 m) (k : ∀ r H', 0 ≤ r → r < m → Bu p H H' → Bag H' p (n + 1) → Q (.int r) H') : spDraw ([.ref p, .int m] ++ []) H Q E :=
  ⟨p, m, n, rfl, rfl, h0, hm, hn, hb, k⟩
end GS
/-! Calls by keywords alone; making an instance inside try. -/
namespace GS
open PySem PySem.Spec PyProof.Rows L2 TL
/-- the arguments in the parameters' order -/
def pm (ix : List Nat) {α : Type} (us ws : List α) : List α := ix.filterMap fun i => (us ++ ws)[i]?
theorem pm_vals (ix : List Nat) {vs zs : List V} {us ws : List Value} (a : Vals vs us) (b : Vals zs ws) : Vals (pm ix vs zs) (pm ix us ws) := by
  have c := a.append b
  unfold pm
  generalize vs ++ zs = l at c
  generalize us ++ ws = m at c
  induction ix with
  | nil => exact .nil
  | cons i ix ih =>
    cases h : l[i]? with
    | none =>
      rw [List.filterMap_cons_none h, List.filterMap_cons_none (c.none_of h)]
      exact ih
    | some x =>
      obtain ⟨u, hu, r⟩ := c.get h
      rw [List.filterMap_cons_some h, List.filterMap_cons_some hu]
      exact .cons r ih
theorem kb_of {K : PySem.W.Frag} {x qual : Str} {params : Arguments} {body : List Stmt} {scope : Scope} {kws : List (Str × V)} {f : Addr} {fd : FuncData} {ps : List Str} (F : FunD K x qual params body scope [] kws f fd) (n : Nat) (ks : List Str) (ix : List Nat)
    (h : ∀ (kV doc pmv : Value) (an : Option Addr) (cdv ct : Value) (us ws : List Value), us.length = n → ws.length = ks.length → bindArgs (PySem.W.fnOf x qual params body scope .none kV doc pmv an cdv ct) ⟨us, ks.zip ws⟩ = pure (ps.zip (pm ix us ws))) : KBn K fd ps n ks (pm ix) (pm ix) := by
  obtain ⟨oc, od, dV, kV, doc, pmv, an, cdv, ct, osl, rfl, lk, hcd, hD, hK⟩ := F.ex
  rcases hD with ⟨-, rfl⟩ | ⟨no, -⟩
  · exact ⟨fun s us ws _ l1 l2 => .of_eq (h kV doc pmv an cdv ct us ws l1 l2), pm_vals ix⟩
  · exact absurd rfl no
section
variable {X : Cx} {CX : CXT} {k : Nat} {f C : Addr} {fd : FuncData} {ps ks : List Str} {sp : Sp} {x : Str} {p pos : Pos} {g : List Value → List Value → List Value} {gV : List V → List V → List V}
/-- f(k = v, ..) -/
theorem pe_callK0 {E : XK} {kws : List Keyword} {tk : TA} (F : FnOk X.prog X.w X.K X.mg X.base CX k f fd ps sp) (hr : Room k X.A) (hg : Gl X x) (hm : X.mg x = some (.ref f)) (keep : PySem.W.keepIn X.K (.ref f) = true) (kb : KBn X.K fd ps 0 ks g gV) (hx : Passes CX X E) (hw : PK X kws tk)
    (named : (backToKw pos (keywordEach kws X.env)).all (·.1.isSome) = true := by rfl) (names : (backToKw pos (keywordEach kws X.env)).filterMap (·.1) = ks := by rfl) (nodb : (x == ("__debug__" : Str)) = false := by decide)
    (plain : ((backTo pos (starEach [] X.env)).any (·.1) || (backToKw pos (keywordEach kws X.env)).any (·.1.isNone)) = false := by rfl) : PE X (.Call (.Name x p) [] kws pos) (tCallN 0 ks.length sp gV E tNil tk) := by
  refine ⟨fun pins s σ H Q I h => wpAny_Call_Name_kw (ld_glob I hg hm ?_ nodb)⟩
  refine PySem.W.callWith_KW0 (h₀ := X.base) I.ok.mod.kin keep named (thn (hw.run pos pins s σ H _ I h) fun ws s2 ⟨zs, H2, I2, rz, m1, m2, q⟩ => ⟨I2.kIn, ?_⟩) plain
  rw [names]
  exact run_fnN F hr kb hx I2 .nil rz m1 m2 q
/-- C(e, ..) inside try: what passes may lean on the slots -/
def tMakeS (C : Addr) (sp : Sp) (E : L2.St → XK) (t : TA) : TE := fun σ H Q => t σ H (mkK C sp (E σ) Q)
theorem pe_makeS {E : L2.St → XK} {e : Expr} {es : List Expr} {t : TA} (M : Mk X.K C f) (F : FnOk X.prog X.w X.K X.mg X.base CX k f fd ps sp) (hr : Room (k + 1) X.A) (hg : Gl X x) (hm : X.mg x = some (.ref C)) (hb : Binds X.K fd ps []) (hx : ∀ σ, PassesAt CX X σ (E σ)) (ha : PA X (e :: es) t)
    (nodb : (x == ("__debug__" : Str)) = false := by decide) (st : starEach (e :: es) X.env = (false, eval e X.env) :: starEach es X.env := by rfl) (plain : (backTo pos (starEach es X.env)).any (·.1) = false := by rfl) :
    PE X (.Call (.Name x p) (e :: es) [] pos) (tMakeS C sp E t) := by
  refine ⟨fun pins s σ H Q I h => wpAny_Call_Name_kw (ld_glob I hg hm ?_ nodb)⟩
  refine PySem.W.callWith_K (h₀ := X.base) I.ok.mod.kin M.kp (thn (ha.run pos pins s σ H _ I h) fun us s1 ⟨vs, H1, I1, r, q⟩ => ⟨I1.kIn, ?_⟩) st plain
  have n0 := I1.hok.fresh (Nat.le_refl s1.heap.objs.size)
  have n1 := I1.hok.fresh (Nat.le_succ s1.heap.objs.size)
  have w1 := q _ _ n1 n0 (Nat.ne_of_lt (Nat.lt_succ_self _))
  have J := Inv.made (C := C) I1
  have rs : Vals (V.ref (s1.heap.objs.size + 1) :: (vs ++ [])) (Value.ref (s1.heap.objs.size + 1) :: us) := by
    rw [List.append_nil]
    exact .cons rfl r
  have many : (Value.ref (s1.heap.objs.size + 1) :: us).length = ps.length := rs.length.symm.trans (F.len _ _ _ _ w1)
  have bound := hb _ (Value.ref (s1.heap.objs.size + 1) :: us) J.kIn (by rw [List.append_nil]; exact many)
  rw [List.append_nil] at bound
  refine wpAny_call (make_map (f := f) I1.kIn M.makes M.init (beq_iff_eq.mp M.fn) (codeAny_mono (F.run _ X.stack _ _ ⟨_ :: us, []⟩ _ _ _ (E σ) (hr.make C us []) (J.env0.make C us []) bound rs w1) fun out s' got => ?_))
  match out, got with
  | .error y, got => exact hx σ pins _ _ y s' J got
  | .ok (.ret u), got =>
    obtain ⟨v, H3, J3, rv, ⟨nv, fine⟩⟩ := J.after got
    rw [nv] at rv
    exact ⟨rv, V.ref (s1.heap.objs.size + 1), H3, J3, rfl, fine⟩
/-! steps -/
variable {σ : L2.St} {H : Hp} {Q : VK} {E : XK} {m : Nat} {t tk : TA}
def clKN (m : Nat) (sp : Sp) (gV : List V → List V → List V) (E : XK) (Q : VK) : List V → Hp → Prop := fun zs H2 => ([] : List V).length = 0 ∧ zs.length = m ∧ sp (gV [] zs) H2 Q E
theorem r_callN0 (q : tk σ H (clKN m sp gV E Q)) : tCallN 0 m sp gV E tNil tk σ H Q := q
theorem r_clKN {zs vs : List V} (l : zs.length = m) (e : gV [] zs = vs) (q : sp (vs ++ []) H Q E) : clKN m sp gV E Q zs H := ⟨rfl, l, by rw [e]; rwa [List.append_nil] at q⟩
def mkKN (m : Nat) (C : Addr) (sp : Sp) (gV : List V → List V → List V) (E : XK) (Q : VK) : List V → Hp → Prop := fun zs H2 => ([] : List V).length = 0 ∧ zs.length = m ∧ ∀ x dx, H2 x = none → H2 dx = none → dx ≠ x → sp (gV [.ref x] zs) (upd (upd H2 dx (.own x)) x (.ins C dx [])) (fun v H3 => v = .non ∧ Q (.ref x) H3) E
theorem r_makeK0 (q : tk σ H (mkKN m C sp gV E Q)) : tMakeK C 0 m sp gV E tNil tk σ H Q := q
theorem r_mkKN {zs vs : List V} (l : zs.length = m) (e : ∀ x, gV [.ref x] zs = .ref x :: (vs ++ [])) (q : mkK C sp E Q vs H) : mkKN m C sp gV E Q zs H := ⟨rfl, l, fun x dx h1 h2 h3 => by rw [e]; exact q x dx h1 h2 h3⟩
theorem r_makeS {E : L2.St → XK} (q : t σ H (mkK C sp (E σ) Q)) : tMakeS C sp E t σ H Q := q
theorem r_callS {E : L2.St → XK} (q : t σ H fun vs H1 => sp vs H1 Q (E σ)) : tCallS sp E t σ H Q := q
end
theorem r_gCons {g : TG} {gs : TGs} {x : V} {xs : List V} {σ : L2.St} {H : Hp} {N : L2.St → Hp → Prop} (q : g x σ H fun σ' H' => gs xs σ' H' N) : gCons g gs (x :: xs) σ H N := ⟨x, xs, rfl, q⟩
theorem r_gNil {σ : L2.St} {H : Hp} {N : L2.St → Hp → Prop} (q : N σ H) : gNil [] σ H N := ⟨rfl, q⟩
theorem r_gName {n : Nat} {x : V} {σ : L2.St} {H : Hp} {N : L2.St → Hp → Prop} (q : N (σ.set n (some x)) H) : gName n x σ H N := q
theorem r_gTup {K : PySem.W.Frag} {n : Nat} {gs : TGs} {p : Addr} {xs : List V} {σ : L2.St} {H : Hp} {N : L2.St → Hp → Prop} (h : H p = some (.tup xs)) (l : xs.length = n) (q : gs xs σ H N) : gTup K n gs (.ref p) σ H N := ⟨p, xs, rfl, SqT.of h, l, q⟩
/-- a, b = c, d -/
def parK (i j : Nat) (σ : L2.St) (N : L2.St → Hp → Prop) : List V → Hp → Prop := fun vs H1 => ∃ v w, vs = [v, w] ∧ N ((σ.set i (some v)).set j (some w)) H1
theorem r_par {i j : Nat} {ta : TA} {D : Ends} {σ : L2.St} {H : Hp} (q : ta σ H (parK i j σ D.nx)) : tPar i j ta D σ H := q
theorem r_parK {i j : Nat} {N : L2.St → Hp → Prop} {σ : L2.St} {H : Hp} {v w : V} (q : N ((σ.set i (some v)).set j (some w)) H) : parK i j σ N [v, w] H := ⟨v, w, rfl, q⟩
/-! clauses -/
theorem r_wAs {D : Ends} {c : Value} {i : Nat} {ts : Addr → Value → Option Addr → TS} {a : Addr} {cls : Value} {d : Option Addr} {σ : L2.St} {H : Hp} (q : ts a cls d (asEnds i D) (σ.set i (some (.ref a))) H) : wCl D (c, some i, ts) a cls d σ H := q
theorem r_cl1 {K : PySem.W.Frag} {Wout : WX} {D : Ends} {c : Value} {o : Option Nat} {ts : Addr → Value → Option Addr → TS} {r : List Cl} {cls : Value} {d : Option Addr} {σ : L2.St} {H : Hp} (y : PySem.W.exmOne K cls c = some true) (q : ∀ a, H a = none → wCl D (c, o, ts) a cls d σ H) : wCls K Wout D ((c, o, ts) :: r) cls d σ H := ⟨true, y, fun _ => q, fun z => by cases z⟩
theorem r_cl0 {K : PySem.W.Frag} {Wout : WX} {D : Ends} {c : Value} {o : Option Nat} {ts : Addr → Value → Option Addr → TS} {r : List Cl} {cls : Value} {d : Option Addr} {σ : L2.St} {H : Hp} (n : PySem.W.exmOne K cls c = some false) (q : wCls K Wout D r cls d σ H) : wCls K Wout D ((c, o, ts) :: r) cls d σ H := ⟨false, n, fun z => (by cases z), fun _ => q⟩
theorem r_xf {a C dd : Addr} {f : Str} {te : TE} {σ : L2.St} {H : Hp} {Q : VK} {fs : List (Str × V)} {v : V} (h : H dd = some (.xd fs)) (l : fs.lookup f = some v) (s : te σ H (fun x H1 => x = .ref a ∧ H1 = H)) (m : ∀ {P P' : VK}, te σ H P → (∀ x H1, P x H1 → P' x H1) → te σ H P') (q : Q v H) : tXf a (.ref C) (some dd) C f te σ H Q :=
  m s fun x H1 e => ⟨e.1, rfl, dd, fs, v, rfl, by rw [e.2]; exact h, l, by rw [e.2]; exact q⟩
theorem r_smeth {C : Addr} {sp : Sp} {E : XK} {t : TA} {σ : L2.St} {H : Hp} {Q : VK} (q : t σ H fun vs H2 => sp vs H2 Q E) : tSMeth C sp E (tC (.ref C)) t σ H Q := ⟨rfl, q⟩
theorem r_yes {σ : L2.St} {H : Hp} {R : Bool → Hp → Prop} (q : R true H) : tYes σ H R := q
/-- each turn gives a new tuple of the same items -/
theorem r_lcT {J : It} {n : Nat} {G : Hp → Prop} {Y : Nat → Hp → V → Hp → Prop} {k : Nat} {te : TE} {σ : L2.St} {H1 : Hp} {Q : VK} (w : Walk J n G Y) (o : List V) (hn : n ≤ 50000) (hG : ∀ H' : Hp, Ex H1 H' → G H')
    (hw : ∀ x, wipe ((wipe σ [k]).set k (some x)) [k] = wipe σ [k])
    (he : ∀ i x H H', i < n → Ex H1 H → Y i H x H' → Ex H H' ∧ ∀ R : VK, (∀ t H4, Ex H' H4 → H4 t = some (.tup o) → R (.ref t) H4) → te ((wipe σ [k]).set k (some x)) H' R)
    (q : ∀ p ys H', H1 p = none → Ex H1 H' → H' p = some (.lst ys) → ys.length = n → (∀ y ∈ ys, ∃ t, y = .ref t ∧ H' t = some (.tup o)) → Q (.ref p) H') : lcB J (gName k) tYes te [k] σ Q H1 := by
  intro D hD
  refine lc_it w (fun i H => Ex H1 H ∧ ∃ ys, H D = some (.lst ys) ∧ ys.length = i ∧ ∀ y ∈ ys, ∃ t, y = .ref t ∧ H t = some (.tup o)) ⟨Ex.mut (Ex.refl _) hD, [], upd_same, rfl, fun _ z => by cases z⟩ (fun i H _ p => hG H p.1) ?_ (fun H p => let ⟨ys, h1, h2, h3⟩ := p.2; q D ys H hD p.1 h1 h2 h3)
  intro i x H H' hi p y
  obtain ⟨p1, ys, p2, p3, p4⟩ := p
  obtain ⟨e1, hte⟩ := he i x H H' hi p1 y
  refine ⟨hw x, ?_⟩
  refine r_yes ?_
  rw [if_pos rfl]
  refine hte _ fun t H4 e4 h4 => ⟨ys, e4 _ _ (e1 _ _ p2), sz_lt (by omega), Ex.mut ((p1.trans e1).trans e4) hD, ys ++ [.ref t], upd_same, (by rw [List.length_append, p3]; rfl), fun z hz => ?_⟩
  have keep' : ∀ {t : Addr} (l : List V), H4 t = some (.tup o) → upd H4 D (.lst l) t = some (.tup o) := fun {t} l ht => by
    rw [upd_ne (fun e => ?_)]
    · exact ht
    · rw [e, e4 _ _ (e1 _ _ p2)] at ht
      cases ht
  rcases List.mem_append.mp hz with hz | hz
  · obtain ⟨t', rfl, ht'⟩ := p4 z hz
    exact ⟨t', rfl, keep' _ (e4 _ _ (e1 _ _ ht'))⟩
  · obtain rfl := List.mem_singleton.mp hz
    exact ⟨t, rfl, keep' _ h4⟩
/-- the same, the items told by the turn -/
theorem r_lcI {J : It} {n : Nat} {G : Hp → Prop} {Y : Nat → Hp → V → Hp → Prop} {k : Nat} {te : TE} {σ : L2.St} {H1 : Hp} {Q : VK} (w : Walk J n G Y) (o : Nat → List V) (hn : n ≤ 50000) (hG : ∀ H' : Hp, Ex H1 H' → G H')
    (hw : ∀ x, wipe ((wipe σ [k]).set k (some x)) [k] = wipe σ [k])
    (he : ∀ i x H H', i < n → Ex H1 H → Y i H x H' → Ex H H' ∧ ∀ R : VK, (∀ t H4, Ex H' H4 → H4 t = some (.tup (o i)) → R (.ref t) H4) → te ((wipe σ [k]).set k (some x)) H' R)
    (q : ∀ p ys H', H1 p = none → Ex H1 H' → H' p = some (.lst ys) → ys.length = n → (∀ i y, ys[i]? = some y → ∃ t, y = .ref t ∧ H' t = some (.tup (o i))) → Q (.ref p) H') : lcB J (gName k) tYes te [k] σ Q H1 := by
  intro D hD
  refine lc_it w (fun i H => Ex H1 H ∧ ∃ ys, H D = some (.lst ys) ∧ ys.length = i ∧ ∀ j y, ys[j]? = some y → ∃ t, y = .ref t ∧ H t = some (.tup (o j))) ⟨Ex.mut (Ex.refl _) hD, [], upd_same, rfl, fun j y z => by simp at z⟩ (fun i H _ p => hG H p.1) ?_ (fun H p => let ⟨ys, h1, h2, h3⟩ := p.2; q D ys H hD p.1 h1 h2 h3)
  intro i x H H' hi p y
  obtain ⟨p1, ys, p2, p3, p4⟩ := p
  obtain ⟨e1, hte⟩ := he i x H H' hi p1 y
  refine ⟨hw x, ?_⟩
  refine r_yes ?_
  rw [if_pos rfl]
  refine hte _ fun t H4 e4 h4 => ⟨ys, e4 _ _ (e1 _ _ p2), sz_lt (by omega), Ex.mut ((p1.trans e1).trans e4) hD, ys ++ [.ref t], upd_same, (by rw [List.length_append, p3]; rfl), fun j z hz => ?_⟩
  have keep' : ∀ {t : Addr} {u : List V} (l : List V), H4 t = some (.tup u) → upd H4 D (.lst l) t = some (.tup u) := fun {t u} l ht => by
    rw [upd_ne (fun e => ?_)]
    · exact ht
    · rw [e, e4 _ _ (e1 _ _ p2)] at ht
      cases ht
  by_cases hj : j < ys.length
  · rw [List.getElem?_append_left hj] at hz
    obtain ⟨t', rfl, ht'⟩ := p4 j z hz
    exact ⟨t', rfl, keep' _ (e4 _ _ (e1 _ _ ht'))⟩
  · rw [List.getElem?_append_right (by omega)] at hz
    have : j - ys.length = 0 := by
      have := (List.getElem?_eq_some_iff.mp hz).1
      simp at this
      omega
    rw [this] at hz
    have hz' : V.ref t = z := Option.some.inj hz
    have : j = i := by omega
    subst this
    exact ⟨t, hz'.symm, keep' _ h4⟩
/-- the body of a for's reading -/
def forB (J : It) (g : TG) (tb : TS) (D : Ends) (σ : L2.St) (H1 : Hp) : Prop := ∃ W : Nat → Nat → L2.St → Hp → Prop, (∃ m, W 0 m σ H1) ∧ ∀ i m σ H, W i m σ H →
  (J.stop i H ∧ D.nx σ H) ∨ (J.go i H ∧ ∃ N : L2.St → Hp → Prop, (∀ σ' H', N σ' H' → ∃ m', m' < m ∧ W (i + 1) m' σ' H') ∧ ∀ x H', J.yld i H x H' → g x σ H' fun σ2 H2 => tb { D with nx := N, ct := N, bk := D.nx } σ2 H2)
theorem r_for {wi : TI} {g : TG} {tb : TS} {D : Ends} {σ : L2.St} {H : Hp} (q : wi σ H fun J H1 => forB J g tb D σ H1) : tFor wi g tb D σ H := q
theorem for_of {J : It} {n : Nat} {G : Hp → Prop} {Y : Nat → Hp → V → Hp → Prop} (w : Walk J n G Y) {g : TG} {tb : TS} {D : Ends} {σ : L2.St} {H : Hp} (Pv : Nat → L2.St → Hp → Prop) (h0 : Pv 0 σ H) (hG : ∀ i σ H, i ≤ n → Pv i σ H → G H)
    (hs : ∀ i x σ H H', i < n → Pv i σ H → Y i H x H' → g x σ H' fun σ2 H2 => tb { D with nx := Pv (i + 1), ct := Pv (i + 1), bk := D.nx } σ2 H2) (hd : ∀ σ H, Pv n σ H → D.nx σ H) : forB J g tb D σ H := for_it w Pv h0 hG hs hd
theorem cr_isi {X : Cx} {K : PySem.W.Frag} (h : X.K = K) : CallR X (.builtin "isinstance") (rIsi K) := by
  subst h
  exact call_isi
end GS
/-! any(..) of integers. -/
namespace GS
open PySem PySem.Spec PyProof.Rows L2 TL
theorem truthOf_ints {prog : Program} {w : World} {A : Around} {ns : List Int} {its : List Value} (r : Vals (ns.map V.int) its) : TruthOf prog w A (fun i v => its.toArray[i]? = some v) (fun i => ns.getD i 0 != 0) := fun i v s Q E hv hq => by
  have there : its[i]? = some v := by simpa using hv
  have hl := r.length
  rw [List.length_map] at hl
  have hi : i < ns.length := by have := (List.getElem?_eq_some_iff.mp there).1; omega
  obtain ⟨u, hu, t, e⟩ := r.get (i := i) (x := V.int ns[i]) (by simp [hi])
  rw [there] at hu
  cases hu
  rw [e]
  have g : ns.getD i 0 = ns[i] := by simp [hi]
  simp only [g] at hq
  exact truthy_int hq
theorem any_getD (ns : List Int) : ((List.range ns.length).any fun i => ns.getD i 0 != 0) = ns.any (· != 0) := by
  induction ns with
  | nil => rfl
  | cons n ns ih =>
    rw [List.length_cons, List.range_succ_eq_map, List.any_cons, List.any_map, List.any_cons, ← ih]
    rfl
def rAnyI (K : PySem.W.Frag) : List V → Hp → VK → Prop := fun vs H Q => ∃ (a : Addr) (ns : List Int), vs = [V.ref a] ∧ (SqL K H a (ns.map V.int) ∨ SqT K H a (ns.map V.int)) ∧ Q (.bl (ns.any (· != 0))) H
theorem cr_anyI {X : Cx} {K : PySem.W.Frag} (hk : X.K = K) (calm : X.calm = true) : CallR X (.builtin "any") (rAnyI K) := by
  subst hk
  intro pins s σ H vs us Q I r got
  obtain ⟨a, ns, rfl, hs, q⟩ := got
  rw [Vals.ref1 r]
  have close : ∀ {its : List Value}, Vals (ns.map V.int) its → ∀ (n : Addr) {ob : Obj} (h' : Heap) (tk : Tok), n = s.heap.objs.size → (∀ b o, b ∉ [n] → (s.heap.push ob).get? b = some o → h'.get? b = some o) →
      EP X pins σ Q (.bool ((List.range its.toArray.size).any fun i => ns.getD i 0 != 0)) { s with heap := h', toks := tk } := by
    intro its rv n ob h' tk en kept
    have sz : its.toArray.size = ns.length := by rw [List.size_toArray, ← rv.length, List.length_map]
    rw [sz, any_getD]
    refine ⟨.bl _, H, I.kept fun b o eo => kept b o (fun hm => ?_) (Heap.get?_push_of_some _ eo), rfl, q⟩
    rw [List.mem_singleton.mp hm, en] at eo
    exact absurd (Heap.lt_size eo) (Nat.lt_irrefl _)
  rcases hs with hs | hs
  · obtain ⟨its, rv, hl, _⟩ := I.list hs
    refine call_any_walk (iter_any hl.isList fun s₂ e2 st ne => ?_)
    rw [e2] at st ⊢
    exact ⟨_, _, _, _, _, _, _, rfl, Walks.list (A := X.A.in1) (I.ok.hd calm) _ a ne its.toArray, st, truthOf_ints rv, fun h' tk hk => close rv _ h' tk rfl hk⟩
  · obtain ⟨its, rv, ht, _⟩ := I.tuple hs
    refine call_any_walk (iter_tuple ht ?_)
    exact ⟨_, _, _, _, _, _, _, rfl, Walks.tuple (A := X.A.in1) (I.ok.hd calm) _ a (Nat.ne_of_lt ht.lt) its.toArray, ⟨⟨_, Heap.get?_push_size _ rfl, rfl, rfl⟩, ht.push _⟩, truthOf_ints rv, fun h' tk hk => close rv _ h' tk rfl hk⟩
end GS
/-! enumerate(tuple). -/
namespace GS
open PySem PySem.Spec PyProof.Rows L2 TL
/-- the tuple at a, each item with its place in a new pair -/
def IteT (K : PySem.W.Frag) (a : Addr) : It where
  go := fun i H => ∃ (xs : List V) (x : V), SqT K H a xs ∧ xs[i]? = some x
  yld := fun i H v H' => ∃ T x, v = .ref T ∧ H T = none ∧ H' = upd H T (.tup [.int (i : Nat), x]) ∧ ∀ xs, SqT K H a xs → xs[i]? = some x
  stop := fun i H => ∃ xs : List V, SqT K H a xs ∧ xs.length ≤ i
/-- a tuple's iterator that is at its end -/
theorem draws_end {prog : Program} {w : World} {A : Around} (hh : A.handled = none) (it t : Addr) (items : Array Value) (n : Nat) (hn : items[n]? = none) (ne : t ≠ it) :
    Draws prog w A it [it, t] n (fun _ _ => False) (fun j h => j = n ∧ h.IsTupleIter it t n ∧ h.IsTuple t items) where
  live := fun _ _ st => let ⟨o, ho, _⟩ := st.2.1; ⟨o, ho⟩
  frame := fun _ _ _ st kept => ⟨st.1, st.2.1.at fun o q => kept it (by simp) o q, st.2.2.at fun o q => kept t (by simp) o q⟩
  item := fun i s Q E hi st _ => absurd st.1 (Nat.ne_of_lt hi)
  done := fun s Q E st out => wpAny_nextOf_tuple_end hh st.2.1 st.2.2 hn out
theorem turn_enumT {P : Program} {w : World} {K : PySem.W.Frag} {elts : List Expr} {kk : Nat} {tpos : Pos} (a e it : Addr) :
    Turn P w K (.Tuple elts kk tpos) (IteT K a) [e, it] e (fun i h => (∃ old, IsEnum h e it ((i : Nat) : Int) old) ∧ h.IsTupleIter it a i ∧ e ≠ it ∧ a ≠ it ∧ a ≠ e) where
  mem := by simp
  obj := by
    intro i h st b hb
    obtain ⟨⟨old, he⟩, ⟨o, ho, hc, hd⟩, -, -, -⟩ := st
    rcases List.mem_cons.mp hb with rfl | hb
    · exact ⟨_, he, fun v q => nomatch q⟩
    · rw [List.mem_singleton.mp hb]
      exact ⟨o, ho, fun v q => by rw [hd] at q; cases q⟩
  keep := by
    intro i h h' st k
    obtain ⟨⟨old, he⟩, hi, ns⟩ := st
    exact ⟨⟨old, k e (by simp) _ he⟩, hi.at fun o q => k it (by simp) o q, ns⟩
  item := by
    intro X hP hw hK hc i pins s σ H E I hf st hg
    subst hP hw hK
    obtain ⟨⟨old, he⟩, hit, hne, ha1, ha2⟩ := st
    obtain ⟨xs, x, hq, hx⟩ := hg
    obtain ⟨its, rv, tp, hz⟩ := I.tuple hq
    obtain ⟨u, hu, ru⟩ := rv.get hx
    have hlt : i < its.toArray.size := by
      have := (List.getElem?_eq_some_iff.mp hu).1
      simpa using this
    have elt := Heap.lt_size he
    have ilt : it < s.heap.objs.size := by
      obtain ⟨_, q, _⟩ := hit
      exact Heap.lt_size q
    refine wpAny_pyNext_enum_itemD (Draws.tuple (A := X.A.in1) (I.ok.hd hc) it a ha1 its.toArray) he ⟨hit, tp⟩ hlt hne (by simp [hne, Ne.symm ha2]) fun x' h' tk hp ho st' hT hsz hk => ?_
    have : x' = u := by
      have hp' : its[i]? = some x' := by simpa using hp
      rw [hu] at hp'
      exact (Option.some.inj hp').symm
    subst this
    refine ⟨_, rfl, wpAny_letOwnedTupleGo_enum (s := { s with heap := h', toks := tk + 1 }) ho fun h2 he2 sb => ?_⟩
    have hT2 : h2.get? s.heap.objs.size = some { cls := .type "tuple", data := .seq #[.int i tk, x'] } := (sb.2 _ (Nat.ne_of_gt elt)).trans hT
    have pair : ObjOk X.prog X.w (upd H s.heap.objs.size (.tup [.int (i : Nat), x])) h2 s.heap.objs.size (.tup [.int (i : Nat), x]) := by
      refine ⟨?_, [.int i tk, x'], .cons ⟨_, rfl⟩ (.cons ru .nil), ⟨_, hT2, rfl, _, rfl⟩⟩
      show 2 ≤ sizeLine
      decide
    have J : Inv X pins σ (upd H s.heap.objs.size (.tup [.int (i : Nat), x])) { s with heap := h2, toks := tk + 1 } := by
      refine I.turnedNew (ch := [e, it]) (fun b ob hb q => ?_) hf (Nat.le_refl _) pair
      have n1 : b ≠ e := fun z => hb (by simp [z])
      have n2 : b ≠ it := fun z => hb (by simp [z])
      exact (sb.2 b n1).trans (hk b ob n1 n2 q)
    refine ⟨.ref s.heap.objs.size, _, J, rfl, ⟨_, x, rfl, I.hok.fresh (Nat.le_refl _), rfl, fun ys hy => by rw [I.tuple_inj hy hq]; exact hx⟩, ⟨⟨x', ?_⟩, st'.1.at fun o q => (sb.2 it (Ne.symm hne)).trans q, hne, ha1, ha2⟩, fun b hb => ?_⟩
    · rw [show ((i + 1 : Nat) : Int) = (i : Int) + 1 by omega]
      exact he2
    · have below : b < s.heap.objs.size := by
        rcases List.mem_cons.mp hb with rfl | hb
        · exact elt
        · rw [List.mem_singleton.mp hb]
          exact ilt
      rw [upd_ne (Nat.ne_of_lt below)]
      exact (hf b hb).1
  done := by
    intro X hP hw hK hc i pins s σ H E I hf st hg
    subst hP hw hK
    obtain ⟨⟨old, he⟩, hit, hne, ha1, ha2⟩ := st
    obtain ⟨xs, hq, hx⟩ := hg
    obtain ⟨its, rv, tp, hz⟩ := I.tuple hq
    obtain ⟨f0, f1, f2, f3, f4, f5⟩ := hf it (by simp)
    have hl := rv.length
    have off : its.toArray[i]? = none := by
      rw [List.getElem?_toArray]
      exact List.getElem?_eq_none (by omega)
    refine wpAny_pyNext_enum_endD (draws_end (A := X.A.in1) (I.ok.hd hc) it a its.toArray i off ha1) he ⟨rfl, hit, tp⟩ fun h' eb => ⟨rfl, ?_⟩
    exact I.turned (t' := s.toks) (fun b o hb q => eb b o hb q) f0 f1 f3 f4 f5
  self := fun A i s Q E st h => let ⟨⟨_, he⟩, _⟩ := st; wpAny_pyIter_enum he h
set_option maxHeartbeats 4000000 in
theorem meets_enum1 {v : Value} {o : Obj} {Hp' : Heap → Prop} (B : Begins v o Hp') :
    Meets (Builtin.«enumerate.__new__» ⟨[.type "enumerate", v], []⟩) (fun _ R s => Hp' s.heap ∧
      R (.ok (.ret (.ref (s.heap.push o).objs.size))) { s with heap := (s.heap.push o).push { cls := .type "enumerate", data := .fields #[.none, .bool false, .ref s.heap.objs.size, rawInt 0, .none, .none] } }) :=
  .of_wp fun prog w A R s both => by
    obtain ⟨hp, g, d, tk, os⟩ := s
    obtain ⟨begun, fin⟩ := both
    have sub := sub_enumerate
    have step : ∀ {A' : Around} {E : Value → Shared → Prop} {Q : Value → Shared → Prop}, Q (.ref hp.objs.size) ⟨hp.push o, g, d, tk, os⟩ → wpAny (model prog w) A' (pyIter v) Q E ⟨hp, g, d, tk, os⟩ := fun q => B.iter prog w _ _ ⟨hp, g, d, tk, os⟩ _ begun q
    wp_walk using step
    refine wpAny_stack_any fun st => wpAny_pure ?_
    split
    · rename_i c _ _ _ _ _
      cases (c == Value.type "enumerate") <;> (wp_walk using step; exact ⟨_, rfl, fin⟩)
    · wp_walk using step
      exact ⟨_, rfl, fin⟩
/-- enumerate(v): its two new cells -/
theorem enum1_begins {prog : Program} {w : World} {A : Around} {E : Value → Shared → Prop} {s : Shared} {v : Value} {o : Obj} {Hp' : Heap → Prop} {Q : Value → Shared → Prop} (B : Begins v o Hp') (begun : Hp' s.heap)
    (q : ∀ h', IsEnum h' (s.heap.objs.size + 1) s.heap.objs.size 0 .none → h'.get? s.heap.objs.size = some o → (∀ b o, s.heap.get? b = some o → h'.get? b = some o) → Q (.ref (s.heap.objs.size + 1)) { s with heap := h' }) :
    wpAny (model prog w) A (call (.type "enumerate") [v]) Q E s := by
  refine callType_new F.called_enumerate (by decide) (F.typeCall_enumerate_1 _) (F.newCall_enumerate_1 _) (fun obj => F.args_object_init_2 obj _) F.entry_enumerate_new (meets_enum1 B) ⟨begun, ?_⟩
  have sz : (s.heap.push o).objs.size = s.heap.objs.size + 1 := Heap.size_push ..
  have new := Heap.get?_push_size (s.heap.push o) (o := { cls := .type "enumerate", data := .fields #[.none, .bool false, .ref s.heap.objs.size, rawInt 0, .none, .none] }) rfl
  show _ ∧ _
  rw [sz] at new ⊢
  refine ⟨⟨_, new, rfl⟩, q _ new ?_ fun b o x => ?_⟩
  · exact Heap.get?_push_of_some _ (Heap.get?_push_size _ B.free)
  · exact Heap.get?_push_of_some _ (Heap.get?_push_of_some _ x)
def iEnumT (K : PySem.W.Frag) (ta : TA) : TI := fun σ H R => ta σ H fun vs H1 => ∃ a xs, vs = [.ref a] ∧ SqT K H1 a xs ∧ R (IteT K a) H1
theorem pi_enumT {X : Cx} {e : Expr} {ta : TA} {p pos tpos : Pos} {elts : List Expr} {kk : Nat} (free : Gl X "enumerate") (none : X.mg "enumerate" = none) (ha : PA X [e] ta) (st : starEach [e] X.env = [(false, eval e X.env)] := by rfl) :
    PI X (.Tuple elts kk tpos) (.Call (.Name "enumerate" p) [e] [] pos) (iEnumT X.K ta) := by
  refine ⟨fun pins s σ H R I h => Call_ (ld_blt I free none boot_enumerate (PyProof.Rows.callWith_type1 (thn (ha.run pos pins s σ H _ I h) fun us s1 ⟨vs, H1, I1, r1, q1⟩ => ?_) st rfl))⟩
  obtain ⟨a, xs, rfl, hq, q⟩ := q1
  rw [Vals.ref1 r1]
  obtain ⟨its, rv, tp, hz⟩ := I1.tuple hq
  refine enum1_begins (begins_tuple a its.toArray) tp fun h' he hit hk => wpAny_pyIter_enum he ?_
  have J : Inv X pins σ H1 { s1 with heap := h' } := I1.kept (t' := s1.toks) hk
  have lt := tp.lt
  refine ⟨s1.heap.objs.size + 1, [s1.heap.objs.size + 1, s1.heap.objs.size], _, _, H1, rfl, J, turn_enumT a (s1.heap.objs.size + 1) s1.heap.objs.size, ⟨⟨.none, he⟩, ⟨_, hit, rfl, rfl⟩, Nat.succ_ne_self _, Nat.ne_of_lt lt, Nat.ne_of_lt (Nat.lt_succ_of_lt lt)⟩, fun b hb => ?_, q⟩
  have above : s1.heap.objs.size ≤ b := by
    rcases List.mem_cons.mp hb with rfl | hb
    · exact Nat.le_succ _
    · rw [List.mem_singleton.mp hb]
      exact Nat.le_refl _
  exact I1.fpOk above (I1.hok.fresh above)
theorem walk_enumT {K : PySem.W.Frag} {a : Addr} {xs : List V} : Walk (IteT K a) xs.length (fun H => SqT K H a xs) (YPair (fun i => some (.int (i : Nat))) (fun i => xs[i]?)) :=
  ⟨fun i _ hi q => ⟨xs, xs[i], q, by simp [hi]⟩, fun _ q => ⟨xs, q, Nat.le_refl _⟩, fun i H v H' hi q y => let ⟨T, x, e1, e2, e3, e4⟩ := y; ⟨T, _, x, e1, e2, e3, rfl, e4 xs q⟩⟩
end GS
/-! Several except clauses, each of one class or of a tuple of classes, with or without «as n». -/
namespace GS
open PySem PySem.Spec PyProof.Rows L2 TL
abbrev MCl := List Value × Option Nat × (Addr → Value → Option Addr → TS)
def wMCl (D : Ends) (q : MCl) (a : Addr) (cls : Value) (d : Option Addr) (σ : L2.St) (H : Hp) : Prop := match q.2.1 with
  | none => q.2.2 a cls d D σ H
  | some i => q.2.2 a cls d (asEnds i D) (σ.set i (some (.ref a))) H
def wMCls (K : PySem.W.Frag) (Wout : WX) (D : Ends) : List MCl → WX
  | [] => Wout
  | q :: r => fun cls d σ H => ∃ b, PySem.W.exmAny K cls q.1 = some b ∧ (b = true → ∀ a, H a = none → wMCl D q a cls d σ H) ∧ (b = false → wMCls K Wout D r cls d σ H)
/-- what stands behind except -/
inductive MTest (X : Cx) : Expr → List Value → Prop
  | name {x : Str} {c : Value} {p : Pos} (h : Names X x c) : MTest X (.Name x p) [c]
  | two {x y : Str} {c d : Value} {p1 p2 p : Pos} {k : Nat} (h1 : Names X x c) (h2 : Names X y d) : MTest X (.Tuple [.Name x p1, .Name y p2] k p) [c, d]
  | three {x y z : Str} {c d e : Value} {p1 p2 p3 p : Pos} {k : Nat} (h1 : Names X x c) (h2 : Names X y d) (h3 : Names X z e) : MTest X (.Tuple [.Name x p1, .Name y p2, .Name z p3] k p) [c, d, e]
  | four {x y z u : Str} {c d e f : Value} {p1 p2 p3 p4 p : Pos} {k : Nat} (h1 : Names X x c) (h2 : Names X y d) (h3 : Names X z e) (h4 : Names X u f) : MTest X (.Tuple [.Name x p1, .Name y p2, .Name z p3, .Name u p4] k p) [c, d, e, f]
inductive MClOk (X : Cx) : ExceptHandler → MCl → Prop
  | bare {t : Expr} {cs : List Value} {ts : Addr → Value → Option Addr → TS} {st : Stmt} {sts : List Stmt} {pos' : Pos} (hc : MTest X t cs)
      (su : ∀ (a : Addr) (oe : Obj) (cls : Value) (d : Option Addr) (pn : List (Addr × Obj)), Zc cls d oe → (∃ vs, oe.data = .fields vs) → PSs (X.suite a ((a, oe) :: pn)) (st :: sts) (ts a cls d)) :
      MClOk X (.ExceptHandler (some t) none (st :: sts) pos') (cs, none, ts)
  | as {t : Expr} {n : Str} {cs : List Value} {ts : Addr → Value → Option Addr → TS} {st : Stmt} {sts : List Stmt} {pos' : Pos} {i : Nat} (hc : MTest X t cs) (hN : X.N.Nodup) (hi : X.N[i]? = some n) (hln : X.env.kindOf n = some .local)
      (su : ∀ (a : Addr) (oe : Obj) (cls : Value) (d : Option Addr) (pn : List (Addr × Obj)), Zc cls d oe → (∃ vs, oe.data = .fields vs) → PSs (X.suite a ((a, oe) :: pn)) (st :: sts) (ts a cls d)) :
      MClOk X (.ExceptHandler (some t) (some n) (st :: sts) pos') (cs, some i, ts)
inductive MClsOk (X : Cx) : List ExceptHandler → List MCl → Prop
  | nil : MClsOk X [] []
  | cons {h : ExceptHandler} {q : MCl} {hs : List ExceptHandler} {qs : List MCl} (o : MClOk X h q) (r : MClsOk X hs qs) : MClsOk X (h :: hs) (q :: qs)
theorem flying_keeps {base h h' : Heap} {l : List Env} {e : Addr} {Z : Obj → Prop} (f : PySem.HandSPX.FlyingZ base l e Z h) (k : ∀ b o, h.get? b = some o → h'.get? b = some o) : PySem.HandSPX.FlyingZ base l e Z h' := by
  obtain ⟨f1, f2, f3, oe, vs, T, oT, ts, t1, t2, t3, t4, t5, t6, t7, t8⟩ := f
  exact ⟨fun b o q => k _ _ (f1 b o q), f2, Heap.FunFrames.of_keeps (fun b o q _ => ⟨o, k _ _ q, rfl⟩) f3, oe, vs, T, oT, ts, k _ _ t1, t2, t3, t4, t5, t6, k _ _ t7, t8⟩
section
variable {X : Cx} {pins : List (Addr × Obj)} {σ : L2.St} {H : Hp} {s sI : Shared} {a : Addr} {B : Heap} {cls : Value} {d : Option Addr} {D : Ends} {Wout : WX}
theorem Caught.grown (c : Caught X pins σ H a B cls d sI s) {h' : Heap} (k : ∀ b o, s.heap.get? b = some o → h'.get? b = some o) : Caught X pins σ H a B cls d sI { s with heap := h' } :=
  ⟨c.inv, c.nb, c.up.trans (Heap.UpToSlots.of_keeps k), c.na, c.os, c.ag, flying_keeps c.fl k⟩
theorem Caught.looks (c : Caught X pins σ H a B cls d sI s) : PySem.W.Looks (model X.prog X.w) s.heap (typeOf (.ref a)) cls := by
  obtain ⟨oe0, vs0, e01, e02, e03⟩ := c.fl.there
  exact fun A Q E s' kk z => wpAny_typeOf_ref (kk _ _ e01) (by rw [e02.1]; exact z)
/-- a tuple of classes, new -/
theorem mtup {t : Expr} {cs : List Value} {b : Bool} {Q : Bool → Shared → Prop} {E : Value → Shared → Prop} (c : Caught X pins σ H a B cls d sI s) (lcs : cs.length ≤ 10)
    (ev : ∀ Q' : Value → Shared → Prop, Q' (.ref s.heap.objs.size) { s with heap := s.heap.push { cls := .type "tuple", data := .seq cs.toArray } } → wpAny (model X.prog X.w) (X.A.mark (some (.ref a))) (eval t X.env) Q' E s)
    (lk : ∀ h : Heap, X.K.In h → PySem.W.Looks (model X.prog X.w) h (typeOf (.ref a)) cls → h.get? s.heap.objs.size = some { cls := .type "tuple", data := .seq cs.toArray } → PySem.W.Looks (model X.prog X.w) h (excMatches (.ref a) (.ref s.heap.objs.size)) b)
    (q : ∀ s', Caught X pins σ H a B cls d sI s' → Q b s') : wpAny (model X.prog X.w) (X.A.mark (some (.ref a))) (eval t X.env) (fun v s₁ => wpAny (model X.prog X.w) (X.A.mark (some (.ref a))) (excMatches (.ref a) v) Q E s₁) E s := by
  have c2 := c.grown (h' := s.heap.push { cls := .type "tuple", data := .seq cs.toArray }) fun b o e => Heap.get?_push_of_some _ e
  exact ev _ ((lk _ c2.here.kIn c2.looks (Heap.get?_push_size _ rfl)).here (q _ c2))
theorem mtest {t : Expr} {cs : List Value} {b : Bool} {Q : Bool → Shared → Prop} {E : Value → Shared → Prop} (c : Caught X pins σ H a B cls d sI s) (hf : X.env.frame = some X.env.locals) (m : MTest X t cs) (hb : PySem.W.exmAny X.K cls cs = some b)
    (q : ∀ s', Caught X pins σ H a B cls d sI s' → Q b s') : wpAny (model X.prog X.w) (X.A.mark (some (.ref a))) (eval t X.env) (fun v s₁ => wpAny (model X.prog X.w) (X.A.mark (some (.ref a))) (excMatches (.ref a) v) Q E s₁) E s := by
  have small : ∀ n : Nat, n ≤ 10 → n ≤ sizeLine := fun n hn => Nat.le_trans hn (by decide)
  cases m with
  | name h =>
    obtain ⟨b1, d1, x1, y1, z1⟩ := PySem.W.exmAny_cons hb
    have : d1 = false := (Option.some.inj y1).symm
    subst this
    rw [Bool.or_false] at z1
    subst z1
    exact names_eval c hf h ((PySem.W.exm_one (M := model X.prog X.w) c.here.kIn c.looks x1).here (q s c))
  | two h1 h2 =>
    exact mtup c (by simp) (fun Q' q' => wpAny_Tuple_spliced (Calls.spliced_cons (names_eval c hf h1 (Calls.spliced_cons (names_eval c hf h2 (Calls.spliced_nil ⟨small _ (by simp), q'⟩)))))) (fun h K1 L1 there => PySem.W.exm_tup2 K1 L1 there hb) q
  | three h1 h2 h3 =>
    exact mtup c (by simp) (fun Q' q' => wpAny_Tuple_spliced (Calls.spliced_cons (names_eval c hf h1 (Calls.spliced_cons (names_eval c hf h2 (Calls.spliced_cons (names_eval c hf h3 (Calls.spliced_nil ⟨small _ (by simp), q'⟩)))))))) (fun h K1 L1 there => PySem.W.exm_tup3 K1 L1 there hb) q
  | four h1 h2 h3 h4 =>
    exact mtup c (by simp) (fun Q' q' => wpAny_Tuple_spliced (Calls.spliced_cons (names_eval c hf h1 (Calls.spliced_cons (names_eval c hf h2 (Calls.spliced_cons (names_eval c hf h3 (Calls.spliced_cons (names_eval c hf h4 (Calls.spliced_nil ⟨small _ (by simp), q'⟩)))))))))) (fun h K1 L1 there => PySem.W.exm_tup4 K1 L1 there hb) q
theorem mclauses {hs : List ExceptHandler} {qs : List MCl} (k : MClsOk X hs qs) (hst : X.stack = X.env :: X.outer) (hf : X.env.frame = some X.env.locals) (tk : Takes X Wout) :
    ∀ {s : Shared}, Caught X pins σ H a B cls d sI s → wMCls X.K Wout D qs cls d σ H → wpAny (model X.prog X.w) X.A (handleBy (.ref a) X.env hs) (SP X pins D) X.xe s := by
  induction k with
  | nil =>
    intro s c w
    refine wpAny_handleBy_nil ?_
    obtain ⟨k1, k2, k3, oe, vs, T, oT, ts', he, hz, hd, h1, hr⟩ := id c.fl
    have out : wpAny (model X.prog X.w) X.A (setFlight (.ref a) X.env.frame) (fun _ s4 => wpAny (model X.prog X.w) X.A (throw (.ref a) : Sem Flow) (SP X pins D) X.xe s4) X.xe s := by
      rw [hf]
      exact PySem.HandSPX.setFlight_upZ c.fl fun h4 hh4 up4 => wpAny_throw (tk _ _ ⟨a, B, sI, pins, σ, H, cls, d, rfl, c.inv, c.nb, c.up.trans up4, .inr (.inr (by rw [hst]; exact hh4)), c.na, c.os, c.ag, w⟩)
    unfold PySem.passOn
    refine wpAny_bind (wpAny_field he hd h1 ?_)
    rw [if_neg (show ¬ ((Value.ref T == Value.none) = true) from by simp)]
    first
      | exact wpAny_bind (wpAny_pure (wpAny_bind out))
      | exact wpAny_bind out
  | @cons h q hs qs o r ih =>
    intro s c w
    obtain ⟨b, hb1, hyes, hno⟩ := w
    cases o with
    | bare hc su =>
      refine wpAny_handleBy_cons (codeAny_handlers_test ?_) (by intro q; cases q)
      refine mtest c hf hc hb1 fun s c => ?_
      cases b with
      | false => exact ih c (hno rfl)
      | true =>
        refine codeAny_handlers_suite (c.again fun s4 c4 => ?_)
        obtain ⟨oe, z1, z2, S⟩ := c4.suite (M := model X.prog X.w) hf
        have ok := c4.here.ok
        refine wpAny_mono ((su a oe cls d (X.pn ++ pins) z1 z2).run [] _ _ H _ S (hyes rfl a c.na)) (fun f s6 hsp => ?_) (fun _ _ z => False.elim z)
        cases f with
        | next => exact let ⟨σ6, H6, S6, q6⟩ := hsp; ⟨_, _, S6.unsuite ok, q6⟩
        | brk => exact let ⟨σ6, H6, S6, q6⟩ := hsp; ⟨_, _, S6.unsuite ok, q6⟩
        | cont => exact let ⟨σ6, H6, S6, q6⟩ := hsp; ⟨_, _, S6.unsuite ok, q6⟩
        | ret u => exact let ⟨v6, σ6, H6, S6, r6, q6⟩ := hsp; ⟨_, _, _, S6.unsuite ok, r6, q6⟩
    | @as t n cs ts st sts pos' i hc hN hi hln su =>
      refine wpAny_handleBy_cons (codeAny_handlers_test ?_) (by intro q; cases q)
      refine mtest c hf hc hb1 fun s c => ?_
      cases b with
      | false => exact ih c (hno rfl)
      | true =>
        refine codeAny_handlers_suite_as (c.again fun s4 c4 => ?_)
        obtain ⟨oe, z1, z2, S⟩ := c4.suite (M := model X.prog X.w) hf
        have ok := c4.here.ok
        refine store_ok (X := X.suite a ((a, oe) :: (X.pn ++ pins))) (v := .ref a) S hN hi (.inl hln) rfl (fun s5 S5 => ?_) (.inr hln)
        refine wpAny_mono ((su a oe cls d (X.pn ++ pins) z1 z2).run [] s5 _ H (asEnds i D) S5 (hyes rfl a c.na)) (fun f s6 hsp => ?_) (fun _ _ z => False.elim z)
        cases f with
        | next => exact let ⟨σ6, H6, S6, q6⟩ := hsp; gone_ok (S6.unsuite ok) hN hi hln fun s7 J7 => ⟨_, _, J7, q6⟩
        | brk => exact let ⟨σ6, H6, S6, q6⟩ := hsp; gone_ok (S6.unsuite ok) hN hi hln fun s7 J7 => ⟨_, _, J7, q6⟩
        | cont => exact let ⟨σ6, H6, S6, q6⟩ := hsp; gone_ok (S6.unsuite ok) hN hi hln fun s7 J7 => ⟨_, _, J7, q6⟩
        | ret u => exact let ⟨v6, σ6, H6, S6, r6, q6⟩ := hsp; gone_ok (S6.unsuite ok) hN hi hln fun s7 J7 => ⟨_, _, _, J7, r6, q6⟩
/-- THE RULE -/
theorem ps_try_m {body : List Stmt} {h₀ : ExceptHandler} {hds : List ExceptHandler} {qs : List MCl} {pos : Pos} {tb : WX → TS} (hst : X.stack = X.env :: X.outer) (hf : X.env.frame = some X.env.locals) (tk : Takes X Wout)
    (hb : ∀ (W : WX) (pn : List (Addr × Obj)) (xe : Value → Shared → Prop), Takes (X.tr pn xe) W → PassesOwn (model X.prog X.w) X.A X.env xe → PSs (X.tr pn xe) body (tb W)) (hh : MClsOk X (h₀ :: hds) qs) :
    PS X (.Try body (h₀ :: hds) [] [] pos) (fun D σ H => tb (wMCls X.K Wout D qs) D σ H) := by
  refine ⟨fun pins s σ H D I h => wpAny_Try_except ?_⟩
  have ok := I.ok
  have fr : X.A.frames = some (X.env :: X.outer) := by rw [ok.frames, hst]
  have B0 := hb (wMCls X.K Wout D qs) (X.pn ++ pins) (fun e s₁ => wpAny (model X.prog X.w) X.A (noteFrame e X.env) (fun _ s₂ => wpAny (model X.prog X.w) X.A (setFlight e none) (fun _ s₃ => wpAny (model X.prog X.w) X.A (handleBy e X.env (h₀ :: hds)) (SP X pins D) X.xe s₃) X.xe s₂) X.xe s₁)
    (fun u s' xx => by
      obtain ⟨a, B, sI, pins', σ', H', cls, d, rfl, J', nb, up, sky, na, os, ag, w⟩ := xx
      refine Sky.land Zc.steady fr hf (show Sky B (X.env :: X.outer) a (Zc cls d) X.env.locals s'.heap by rw [← hst]; exact sky) fun h3 fl3 up3 => ?_
      exact mclauses hh hst hf tk ⟨J'.ofTry ok, nb, up.trans up3, na, os, ag, fl3⟩ w) PassesOwn.looking
  refine wpAny_mono (B0.run [] s σ H D (I.toTry _) h) (fun f s1 hsp => ?_) (fun _ _ z => z)
  cases f with
  | next => exact let ⟨σ', H', J', q⟩ := hsp; wpAny_execs_nil ⟨σ', H', J'.ofTry ok, q⟩
  | brk => exact let ⟨σ', H', J', q⟩ := hsp; ⟨σ', H', J'.ofTry ok, q⟩
  | cont => exact let ⟨σ', H', J', q⟩ := hsp; ⟨σ', H', J'.ofTry ok, q⟩
  | ret u => exact let ⟨v, σ', H', J', r, q⟩ := hsp; ⟨v, σ', H', J'.ofTry ok, r, q⟩
end
end GS
/-! isinstance(error, C) within a suite, of an error with a dict of its own. -/
namespace GS
open PySem PySem.W PySem.Spec PySem.Calls PyProof.Rows L2
section
variable {K : Frag} {x D : Addr} {ox : Obj} {od : Option Obj}
theorem data_found {attr get : Value} {C : Addr} {n : PySem.Str} (there : (clsIn K C).isSome = true) (f : findIn K (.ref C) n = some (some attr)) (g : specialIn K attr "__get__" = some (some get)) (t : takesIn K attr = some true) : findObj K C od n = some (.bind get attr) := by
  obtain ⟨cd, e⟩ := Option.isSome_iff_exists.mp there
  unfold findObj
  rw [e]
  rw [Option.bind_some, f]
  rw [Option.bind_some]
  simp [g, t]
theorem own_class {prog : Program} {w : World} {A : Around} {E : Value → Shared → Prop} {s : Shared} {Q : Option Value → Shared → Prop} (c : ExcC K D) (kin : K.In s.heap) (i : InstAt s.heap x ox D od) (q : Q (some (.ref D)) { s with toks := s.toks + 1 }) :
    wpAny (model prog w) A (getAttr? (.ref x) "__class__") Q E s := by
  have found : findObj K D od "__class__" = some (.bind (.builtin "getset_descriptor.__get__") (.builtin "object.__class__")) := by
    refine data_found ?_ c.ha c.hn c.ht
    obtain ⟨cd, e, _⟩ := any_some c.hd
    rw [e]
    rfl
  obtain ⟨heap, g, d, t, os⟩ := s
  have ty := i.type (M := model prog w)
  have own := looks_findIn (M := model prog w) kin c.hg
  have hook := looks_findIn (M := model prog w) kin c.hk
  have look := looks_find (M := model prog w) kin i found
  have isExc : Looks (model prog w) heap (isInstance (.ref x) (.type "BaseException")) true := ty.andThen (looks_subIn kin c.hs)
  have no2 : (Value.builtin "BaseException.__getattribute__" == Value.builtin "object.__getattribute__") = false := by decide +kernel
  have no1 : (onTheHeap (Value.ref D) && Value.builtin "BaseException.__getattribute__" == Value.builtin "object.__getattribute__") = false := by
    rw [no2]
    rfl
  unfold getAttr? getAttrBy? getAttrBy
  refine wpAny_bind (wpAny_mkText (wpAny_bind (wpAny_attempt (wpAny_holding (wpAny_bind (ty.at (wpAny_bind (own.at ?_))))))))
  show wpAny _ _ (if (onTheHeap (Value.ref D) && Value.builtin "BaseException.__getattribute__" == Value.builtin "object.__getattribute__") = true then _ else _) _ _ _
  rw [no1, if_neg Bool.false_ne_true]
  unfold getAttrByItsOwn hookBefore
  refine wpAny_bind ?_
  rw [if_pos (show onTheHeap (Value.ref D) = true from rfl)]
  refine hook.at (wpAny_bind (wpAny_attempt (wpAny_holding ?_)))
  unfold callGetattribute
  rw [show (false && onTheHeap (Value.builtin "BaseException.__getattribute__")) = false from rfl, if_neg Bool.false_ne_true]
  unfold boundAndCalled
  rw [PySem.F.excAttr_ValueError.ga.bind (.ref x)]
  refine wpAny_bind (wpAny_pure ?_)
  show wpAny _ _ (call (.builtin "BaseException.__getattribute__") [.ref x, .str "__class__" t]) _ _ _
  refine wpAny_call (codeAny_call_builtin PySem.F.excAttr_ValueError.ga.plain PySem.F.entry_bexc_ga ?_)
  refine @check_slot (model prog w) _ _ ⟨heap, g, d, t + 1, os⟩ "BaseException.__getattribute__" "BaseException" "__getattribute__" (.ref x) [.str "__class__" t] [] _
    (by decide +kernel) (by decide +kernel) isExc (PySem.F.args_bexc_ga (.ref x) (.str "__class__" t)) ?_
  unfold Builtin.«object.__getattribute__»
  refine wpAny_bind (wpAny_of_eq (a := ((Value.ref x : Value), [Value.str "__class__" t])) (by first | rfl | (simp only [slotArgs]; rfl)) ?_)
  refine wpAny_bind (wpAny_pure (wpAny_bind (ty.at (wpAny_bind (look.at ?_)))))
  show wpAny _ _ (holding [Value.builtin "object.__class__"] (call (.builtin "getset_descriptor.__get__") [.builtin "object.__class__", .ref x, .ref D]) >>= ret) _ _ _
  refine wpAny_bind (wpAny_holding (wpAny_call (class_get (s := ⟨heap, g, d, t + 1, os⟩) kin i c.hm (wpAny_pure ?_))))
  show wpAny _ _ (handedOut (.ref D)) _ _ _
  rw [handedOut_of (v := .ref D) rfl]
  first | exact wpAny_pure (wpAny_pure q) | exact wpAny_pure q | exact wpAny_pure (wpAny_bind (wpAny_pure (wpAny_pure q)))
theorem kit_err (c : ExcC K D) : KitX K (.ref x) (.ref D) (fun h => InstAt h x ox D od) where
  ty := fun _ _ _ i => i.type
  it := fun _ _ kin _ => by
    obtain ⟨cd, e, _⟩ := any_some c.hd
    unfold clsIn at e
    split at e
    · rename_i ho
      intro A' Q' E' s' kept q
      unfold isType loadHead
      exact wpAny_bind (wpAny_loadPart (kept _ _ (kin _ _ ho)) (wpAny_pure q))
    · cases e
  ne := fun h tp dd its n sl kin there => by
    obtain ⟨cd, e, _⟩ := any_some c.hd
    refine Bool.eq_false_iff.mpr fun q => ?_
    have same : D = tp := Value.ref.inj (beq_iff_eq.mp q)
    unfold clsIn at e
    split at e
    · rename_i ho
      rw [same] at ho
      cases (kin _ _ ho).symm.trans there
    · cases e
  ca := fun kin i q => own_class c kin i q
end
/-- isinstance(e, c), e the error that the suite holds, of whichever class -/
def rIsX (K : Frag) (a : Addr) (cls : Value) (d : Option Addr) : List V → Hp → VK → Prop := fun xs H Q => ∃ (c : V) (cv : Value) (b : Bool) (C dd : Addr) (fs : List (PySem.Str × V)), xs = [.ref a, c] ∧ (∀ u, RelV c u → u = cv) ∧ cls = .ref C ∧ ExcC K C ∧ kitOne K (.ref C) cv = some b ∧ d = some dd ∧ H dd = some (.xd fs) ∧ Q (.bl b) H
section
variable {X : Cx} {a : Addr} {oe : Obj} {cls : Value} {d : Option Addr} {pn : List (Addr × Obj)}
/-- the error as an instance -/
theorem inst_err {pins : List (Addr × Obj)} {σ : L2.St} {H : Hp} {s : Shared} {C dd : Addr} {fs : List (PySem.Str × V)} (hz : Zc (.ref C) (some dd) oe) (hf : ∃ vs, oe.data = .fields vs) (I : Inv (X.suite a ((a, oe) :: pn)) pins σ H s) (there : H dd = some (.xd fs)) :
    ∃ od, InstAt s.heap a oe C (some od) ∧ ∀ n v, fs.lookup n = some v → ∃ u, RelV v u ∧ lookIn n od = some (some u) := by
  obtain ⟨mA, hns, hr⟩ := (show ObjOk X.prog X.w H s.heap dd (.xd fs) from I.hok dd _ there)
  obtain ⟨od, ho, hl⟩ := lookIn_ns hns
  obtain ⟨ha, _⟩ := I.pin (a, oe) (List.mem_append_left _ List.mem_cons_self)
  obtain ⟨vs, hd⟩ := hf
  have plain : notCls oe := by
    unfold notCls
    rw [hd]
  refine ⟨od, ⟨ha, hz.1, plain, by rw [hz.2]; exact ho⟩, fun n v hv => ?_⟩
  obtain ⟨u, hu, ru⟩ := RelO.some_of (v := v) (o := mA n) (by rw [← hv]; exact hr n)
  exact ⟨u, ru, by rw [hl, hu]⟩
theorem cr_isX {K : Frag} (hk : X.K = K) (hz : Zc cls d oe) (hf : ∃ vs, oe.data = .fields vs) : CallR (X.suite a ((a, oe) :: pn)) (.builtin "isinstance") (rIsX K a cls d) := by
  subst hk
  intro pins s σ H xs us Q I r got
  obtain ⟨c, cv, b, C, dd, fs, rfl, only, rfl, ec, e, rfl, there, q⟩ := got
  obtain ⟨u1, u2, rfl, r1, r2⟩ := vals2 r
  cases r1
  rw [only _ r2]
  obtain ⟨od, i, _⟩ := inst_err hz hf I there
  exact kia_one (kit_err ec) I.kIn i e (fun z => nomatch z) fun tk => ⟨.bl b, H, I.kept (t' := tk) fun _ _ z => z, rfl, q⟩
/-- e.f, e the error that the suite holds, of whichever class -/
def tXfA (K : Frag) (a : Addr) (cls : Value) (d : Option Addr) (n : PySem.Str) (te : TE) : TE := fun σ H Q => te σ H fun x H1 => x = .ref a ∧ ∃ (C dd : Addr) (fs : List (PySem.Str × V)) (v : V), cls = .ref C ∧ XfC K C ∧ findIn K (.ref C) n = some none ∧ d = some dd ∧ H1 dd = some (.xd fs) ∧ fs.lookup n = some v ∧ Q v H1
theorem pe_xfA {K : Frag} {e : Expr} {te : TE} {pos : Pos} {n : PySem.Str} (hk : X.K = K) (hz : Zc cls d oe) (hf : ∃ vs, oe.data = .fields vs) (he : PE (X.suite a ((a, oe) :: pn)) e te) (plain : attributeBase e n X.env (eval e X.env) = eval e X.env := by rfl) : PE (X.suite a ((a, oe) :: pn)) (.Attribute e n pos) (tXfA K a cls d n te) := by
  subst hk
  refine ⟨fun pins s σ H Q I h => attr_of plain (thn (he.run pins s σ H _ I h) fun u s1 got => ?_)⟩
  obtain ⟨x, H1, I1, rx, rfl, C, dd, fs, v, rfl, T, no_, rfl, there, l, q⟩ := got
  obtain rfl : u = Value.ref a := rx
  obtain ⟨od, i, fields⟩ := inst_err hz hf I1 there
  obtain ⟨u, ru, hu⟩ := fields n v l
  exact HandSPX.exc_get I1.kIn i T.ga T.gg T.exC (findObj_own T.hdC no_ rfl hu) (handed_of ru) ⟨v, H1, I1.tok _, ru, q⟩
end
end GS
/-! A list or a tuple walked; o.m(k = v). -/
namespace GS
open PySem PySem.Spec PyProof.Rows L2
def iSeq (K : PySem.W.Frag) (tl : TE) : TI := fun σ H R => tl σ H fun x H1 => ∃ a, x = .ref a ∧ (((∃ xs, SqL K H1 a xs) ∧ R (Itl K a) H1) ∨ ((∃ xs, SqT K H1 a xs) ∧ R (Itt K a) H1))
theorem pi_seq {X : Cx} {tg l : Expr} {tl : TE} (hl : PE X l tl) : PI X tg l (iSeq X.K tl) := by
  refine ⟨fun pins s σ H R I h => thn (hl.run pins s σ H _ I h) fun v s1 ⟨x, H1, I1, r1, a, ex, q⟩ => ?_⟩
  subst ex
  obtain rfl : v = Value.ref a := r1
  have grown : ∀ (o : Obj), Inv X pins σ H1 { s1 with heap := s1.heap.push o } := fun o => I1.kept (t' := s1.toks) fun b u e => Heap.get?_push_of_some _ e
  have fresh := I1.fpOk (Nat.le_refl _) (I1.hok.fresh (Nat.le_refl s1.heap.objs.size))
  rcases q with ⟨⟨xs, hq⟩, q⟩ | ⟨⟨xs, hq⟩, q⟩
  · obtain ⟨its, rv, p, hz⟩ := I1.list hq
    refine wpAny_pyIter_list p.isList ⟨s1.heap.objs.size, [s1.heap.objs.size], _, _, H1, rfl, grown _, turn_list a _, ⟨_, Heap.get?_push_size _ rfl, rfl, rfl⟩, fun b hb => ?_, q⟩
    rw [List.mem_singleton.mp hb]
    exact fresh
  · obtain ⟨its, rv, p, hz⟩ := I1.tuple hq
    refine wpAny_pyIter_tuple (show s1.heap.IsTuple a its.toArray from p) ⟨s1.heap.objs.size, [s1.heap.objs.size], _, _, H1, rfl, grown _, turn_tuple a _, ⟨_, Heap.get?_push_size _ rfl, rfl, rfl⟩, fun b hb => ?_, q⟩
    rw [List.mem_singleton.mp hb]
    exact fresh
theorem r_iSeqL {K : PySem.W.Frag} {a : Addr} {H : Hp} {xs : List V} {R : It → Hp → Prop} (h : SqL K H a xs) (q : R (Itl K a) H) : ∃ b, V.ref a = .ref b ∧ (((∃ xs, SqL K H b xs) ∧ R (Itl K b) H) ∨ ((∃ xs, SqT K H b xs) ∧ R (Itt K b) H)) := ⟨a, rfl, .inl ⟨⟨xs, h⟩, q⟩⟩
theorem r_iSeqT {K : PySem.W.Frag} {a : Addr} {H : Hp} {xs : List V} {R : It → Hp → Prop} (h : SqT K H a xs) (q : R (Itt K a) H) : ∃ b, V.ref a = .ref b ∧ (((∃ xs, SqL K H b xs) ∧ R (Itl K b) H) ∨ ((∃ xs, SqT K H b xs) ∧ R (Itt K b) H)) := ⟨a, rfl, .inr ⟨⟨xs, h⟩, q⟩⟩
/-- o.m(k = v, ..) -/
def tMethN (C : Addr) (m : PySem.Str) (nk : Nat) (sp : Sp) (gV : List V → List V → List V) (E : XK) (ta : TE) (tk : TA) : TE := fun σ H Q => ta σ H fun x H1 => ∃ a dx fs, x = .ref a ∧ H1 a = some (.ins C dx fs) ∧ fs.lookup m = none ∧ tk σ H1 fun zs H2 => zs.length = nk ∧ sp (gV [x] zs) H2 Q E
theorem pe_methK0 {X : Cx} {CX : CXT} {k : Nat} {f C : Addr} {fd : FuncData} {ps ks : List PySem.Str} {sp : Sp} {E : XK} {o : Expr} {m : PySem.Str} {pos apos : Pos} {ta : TE} {tk : TA} {kws : List Keyword} {g : List Value → List Value → List Value} {gV : List V → List V → List V} {pl : Sem Bool}
    (he : PE X o ta) (c : Cls X.K C) (hm : Meth X.K C m f) (F : FnOk X.prog X.w X.K X.mg X.base CX k f fd ps sp) (hr : Room k X.A) (kb : KBn X.K fd ps 1 ks g gV) (hx : Passes CX X E) (hw : PK X kws tk)
    (named : (backToKw pos (keywordEach kws X.env)).all (·.1.isSome) = true := by rfl) (names : (backToKw pos (keywordEach kws X.env)).filterMap (·.1) = ks := by rfl)
    (plain : ((backTo pos (starEach [] X.env)).any (·.1) || (backToKw pos (keywordEach kws X.env)).any (·.1.isNone)) = false := by rfl)
    (ht : eval (.Call (.Attribute o m apos) [] kws pos) X.env = (do let ov ← eval o X.env; standAt apos.atName; let (f, first) ← holding [ov] (getMethod ov m pl); callWith pos f first (backTo pos (starEach [] X.env)) (backToKw pos (keywordEach kws X.env))) := by rfl) :
    PE X (.Call (.Attribute o m apos) [] kws pos) (tMethN C m ks.length sp gV E ta tk) := by
  refine ⟨fun pins s σ H Q I h => PySem.W.methodCall_KW (pl := pl) (thn (he.run pins s σ H _ I h) fun u s1 ⟨x, H1, I1, rx, a, dx, fs, ex, ea, l, q⟩ => ?_) ht⟩
  subst ex
  obtain rfl : u = Value.ref a := rx
  refine getmeth_ok I1 ea c hm l ?_
  refine PySem.W.callWith_KW0 (first := [.ref a]) (h₀ := X.base) I.ok.mod.kin hm.kp named (thn (hw.run pos pins s1 σ H1 _ I1 q) fun ws s2 ⟨zs, H2, I2, rz, m2, q2⟩ => ⟨I2.kIn, ?_⟩) plain
  rw [names]
  exact run_fnN (us := [.ref a]) (vs := [.ref a]) F hr kb hx I2 (.cons rfl .nil) rz rfl m2 q2
/-- o.m(e, ..) inside try -/
def tMethE (C : Addr) (m : PySem.Str) (sp : Sp) (E : L2.St → XK) (ta : TE) (t : TA) : TE := fun σ H Q => ta σ H fun x H1 => ∃ a dx fs, x = .ref a ∧ H1 a = some (.ins C dx fs) ∧ fs.lookup m = none ∧ t σ H1 fun vs H2 => sp (x :: vs) H2 Q (E σ)
theorem pe_methE {X : Cx} {CX : CXT} {k : Nat} {f C : Addr} {fd : FuncData} {ps : List PySem.Str} {sp : Sp} {E : L2.St → XK} {o e : Expr} {es : List Expr} {m : PySem.Str} {pos apos : Pos} {ta : TE} {t : TA} {pl : Sem Bool}
    (he : PE X o ta) (c : Cls X.K C) (hm : Meth X.K C m f) (F : FnOk X.prog X.w X.K X.mg X.base CX k f fd ps sp) (hr : Room k X.A) (hb : Binds X.K fd ps []) (hx : ∀ σ, PassesAt CX X σ (E σ)) (ha : PA X (e :: es) t)
    (st : starEach (e :: es) X.env = (false, eval e X.env) :: starEach es X.env := by rfl) (plain : (backTo pos (starEach es X.env)).any (·.1) = false := by rfl)
    (ht : eval (.Call (.Attribute o m apos) (e :: es) [] pos) X.env = (do let ov ← eval o X.env; standAt apos.atName; let (f, first) ← holding [ov] (getMethod ov m pl); callWith pos f first (backTo pos (starEach (e :: es) X.env)) (backToKw pos (keywordEach [] X.env))) := by rfl) :
    PE X (.Call (.Attribute o m apos) (e :: es) [] pos) (tMethE C m sp E ta t) := by
  refine ⟨fun pins s σ H Q I h => PySem.W.methodCall_KW (pl := pl) (thn (he.run pins s σ H _ I h) fun u s1 ⟨x, H1, I1, rx, a, dx, fs, ex, ea, l, q⟩ => ?_) ht⟩
  subst ex
  obtain rfl : u = Value.ref a := rx
  refine getmeth_ok I1 ea c hm l ?_
  refine PySem.W.callWith_K (first := [.ref a]) (h₀ := X.base) I.ok.mod.kin hm.kp (thn (ha.run pos pins s1 σ H1 _ I1 q) fun us s2 ⟨vs, H2, I2, r, q2⟩ => ⟨I2.kIn, ?_⟩) st plain
  exact run_fnS (us := .ref a :: us) (vs := .ref a :: vs) F hr hb (hx σ) I2 (.cons rfl r) q2
/-- l[j] for l[j] op= e, from 0 on -/
def rGetL (K : PySem.W.Frag) : V → V → Hp → VK → Prop := fun x y H Q => ∃ p xs j v, x = .ref p ∧ y = .int (j : Nat) ∧ SqL K H p xs ∧ xs[j]? = some v ∧ Q v H
theorem pget_list {X : Cx} : PGet X (rGetL X.K) := by
  intro pins s σ H o i ov iv Q I ro ri got
  obtain ⟨p, xs, j, v, rfl, rfl, hq, e, q⟩ := got
  obtain rfl : ov = Value.ref p := ro
  obtain ⟨t, rfl⟩ := ri
  obtain ⟨its, r, pl, hz⟩ := I.list hq
  obtain ⟨u, hu, ru⟩ := r.get e
  have lt := (List.getElem?_eq_some_iff.mp e).1
  have n := line63
  refine wpAny_getItem_list (x := u) pl.isList (Int.natCast_nonneg j) ?_ ?_ ⟨v, H, I, ru, q⟩
  · omega
  · rw [Int.toNat_natCast]
    simpa using hu
/-! the same rules where X's K is only told by an equation (within comprehensions) -/
theorem kx_ixl {X : Cx} {K : PySem.W.Frag} (h : X.K = K) : IxR X (rIxL K) := by subst h; exact ix_list
theorem kx_ixt {X : Cx} {K : PySem.W.Frag} (h : X.K = K) : IxR X (rIxT K) := by subst h; exact ix_tup
theorem kx_lens {X : Cx} {K : PySem.W.Frag} (h : X.K = K) : CallR X (.builtin "len") (fun xs H Q => ∃ p ys, xs = [.ref p] ∧ (SqL K H p ys ∨ SqT K H p ys) ∧ Q (.int ys.length) H) := by subst h; exact call_len_seq
theorem kx_fld {X : Cx} {K : PySem.W.Frag} {e : Expr} {te : TE} {f : PySem.Str} {pos : Pos} (h : X.K = K) (he : PE X e te) (hb : attributeBase e f X.env (eval e X.env) = eval e X.env) : PE X (.Attribute e f pos) (tFld K te f) := by subst h; exact pe_fld he hb
/-! facts of the head -/
def bnB (x : PySem.Str) (id : String) : Chk := fun K => He.eqO (PySem.W.nsIn K mainGlobals x) (some (some (.builtin id)))
theorem bnB_ok {K : PySem.W.Frag} {mg : PySem.Str → Option Value} {h : Heap} (X : K.In h) (G : h.Ns mainGlobals mg) {x : PySem.Str} {id : String} (c : bnB x id K = true) : mg x = some (.builtin id) := PySem.W.mg_of X G (He.eqO_ok c)
def excB (x : PySem.Str) : Chk := fun K => He.eqO (PySem.W.findIn K (.ref (He.ga K x)) "__class__") (some (some (.builtin "object.__class__"))) && decide (PySem.W.mroIn K (He.ga K x) (.type "object") = some true)
theorem excB_ok {K : PySem.W.Frag} {x : PySem.Str} (top : topB K = true) (f : XfC K (He.ga K x)) (c : excB x K = true) : ExcC K (He.ga K x) := by
  obtain ⟨t1, t2⟩ := Bool.and_eq_true_iff.mp top
  obtain ⟨c1, c2⟩ := Bool.and_eq_true_iff.mp c
  exact ⟨f.ga, f.gg, f.exC, f.hdC, He.eqO_ok c1, He.eqO_ok t1, of_decide_eq_true t2, of_decide_eq_true c2⟩
/-- an instance of D is none of C -/
def otB (D C : PySem.Str) : Chk := fun K => decide (PySem.W.kitOne K (.ref (He.ga K D)) (.ref (He.ga K C)) = some false) && PySem.W.notFirst K (He.ga K C) (.ref (He.ga K D))
theorem otB_ok {K : PySem.W.Frag} {D C : PySem.Str} (c : otB D C K = true) : PySem.W.kitOne K (.ref (He.ga K D)) (.ref (He.ga K C)) = some false ∧ PySem.W.notFirst K (He.ga K C) (.ref (He.ga K D)) = true := by
  obtain ⟨c1, c2⟩ := Bool.and_eq_true_iff.mp c
  exact ⟨of_decide_eq_true c1, c2⟩
end GS
/-! Comprehensions of any target; zip of tuples; loops. -/
namespace GS
open PySem PySem.Spec PyProof.Rows L2 TL
theorem walk_zipT {K : PySem.W.Frag} {a b : Addr} {xs ys : List V} {n : Nat} (hn : n = min xs.length ys.length) : Walk (RZ.ItzT K a b) n (fun H => SqT K H a xs ∧ SqT K H b ys) (YPair (fun i => xs[i]?) (fun i => ys[i]?)) := by
  subst hn
  refine ⟨fun i _ hi q => ?_, fun _ q => ⟨xs, ys, q.1, q.2, by omega⟩, fun i H v H' _ q y => ?_⟩
  · have h1 : i < xs.length := by omega
    have h2 : i < ys.length := by omega
    exact ⟨xs, ys, xs[i], ys[i], q.1, q.2, by simp [h1], by simp [h2]⟩
  · obtain ⟨T, x, z, h1, h2, h3, h4, h5⟩ := y
    exact ⟨T, x, z, h1, h2, h3, h4 xs q.1, h5 ys q.2⟩
theorem r_zipA {K : PySem.W.Frag} {ta : TA} {σ : L2.St} {H : Hp} {R : It → Hp → Prop} (q : ta σ H fun vs H1 => ∃ a b xs ys, vs = [.ref a, .ref b] ∧ ((SqL K H1 a xs ∧ SqL K H1 b ys ∧ R (Itz K a b) H1) ∨ (SqT K H1 a xs ∧ SqT K H1 b ys ∧ R (RZ.ItzT K a b) H1))) : RZ.iZipA K ta σ H R := q
theorem walk_enumT' {K : PySem.W.Frag} {a : Addr} {xs : List V} {n : Nat} (h : xs.length = n) : Walk (IteT K a) n (fun H => SqT K H a xs) (YPair (fun i => some (.int (i : Nat))) (fun i => xs[i]?)) := by subst h; exact walk_enumT
/-- what is wished behind list(..), tuple(..) -/
def listK (K : PySem.W.Frag) (Q : VK) : List V → Hp → Prop := fun xs H => ∃ p ys, xs = [V.ref p] ∧ (SqL K H p ys ∨ SqT K H p ys) ∧ ∀ (l : Addr), H l = none → Q (.ref l) (upd H l (.lst ys))
theorem r_cbList {K : PySem.W.Frag} {tr : TA} {σ : L2.St} {H : Hp} {Q : VK} (q : tr σ H (listK K Q)) : tCB (fun xs H Q => ∃ p ys, xs = [V.ref p] ∧ (SqL K H p ys ∨ SqT K H p ys) ∧ ∀ (l : Addr), H l = none → Q (.ref l) (upd H l (.lst ys))) tr σ H Q := q
theorem r_list {K : PySem.W.Frag} {Q : VK} {H : Hp} {a : Addr} {xs : List V} (h : SqL K H a xs ∨ SqT K H a xs) (q : ∀ l H', H l = none → Ex H H' → H' l = some (.lst xs) → Q (.ref l) H') : listK K Q [.ref a] H :=
  ⟨a, xs, rfl, h, fun l hl => q l _ hl (Ex.new hl) upd_same⟩
def tupK (K : PySem.W.Frag) (Q : VK) : List V → Hp → Prop := fun xs H => ∃ p ys, xs = [V.ref p] ∧ ((SqL K H p ys ∧ ∀ (l : Addr), H l = none → Q (.ref l) (upd H l (.tup ys))) ∨ SqT K H p ys ∧ Q (.ref p) H)
theorem r_cbTup {K : PySem.W.Frag} {tr : TA} {σ : L2.St} {H : Hp} {Q : VK} (q : tr σ H (tupK K Q)) : tCB (fun xs H Q => ∃ p ys, xs = [V.ref p] ∧ ((SqL K H p ys ∧ ∀ (l : Addr), H l = none → Q (.ref l) (upd H l (.tup ys))) ∨ SqT K H p ys ∧ Q (.ref p) H)) tr σ H Q := q
theorem r_tupL {K : PySem.W.Frag} {Q : VK} {H : Hp} {a : Addr} {xs : List V} (h : SqL K H a xs) (q : ∀ l H', H l = none → Ex H H' → H' l = some (.tup xs) → Q (.ref l) H') : tupK K Q [.ref a] H :=
  ⟨a, xs, rfl, .inl ⟨h, fun l hl => q l _ hl (Ex.new hl) upd_same⟩⟩
theorem r_sl {r : V → Option Int → Option Int → Hp → VK → Prop} {te : TE} {tl th : TO} {σ : L2.St} {H : Hp} {Q : VK} (q : te σ H fun x H1 => tl σ H1 fun l H2 => th σ H2 fun u H3 => r x l u H3 Q) : tSl r te tl th σ H Q := q
theorem r_noPart {σ : L2.St} {H : Hp} {R : Option Int → Hp → Prop} (q : R none H) : tNoPart σ H R := q
theorem r_part {te : TE} {σ : L2.St} {H : Hp} {R : Option Int → Hp → Prop} (q : te σ H fun x H1 => ∃ i, x = .int i ∧ R (some i) H1) : tPart te σ H R := q
theorem r_iR2 {ta : TA} {σ : L2.St} {H : Hp} {R : It → Hp → Prop} (q : ta σ H fun vs H1 => ∃ i j : Int, vs = [.int i, .int j] ∧ (-(2 ^ 62) ≤ i ∧ i < 2 ^ 62 ∧ -(2 ^ 62) ≤ j ∧ j < 2 ^ 62) ∧ R (Itr i (j - i).toNat) H1) : iRng2 ta σ H R := q
theorem r_iR3 {ta : TA} {σ : L2.St} {H : Hp} {R : It → Hp → Prop} (q : ta σ H fun vs H1 => ∃ (i j c : Int) (n : Nat), vs = [.int i, .int j, .int c] ∧ RgC i j c n ∧ R (Itc i c n) H1) : iRng3 ta σ H R := q
/-- any target, no test; what is known of the items by the turn -/
theorem r_lcP {J : It} {n : Nat} {G : Hp → Prop} {Y : Nat → Hp → V → Hp → Prop} {g : TG} {vs : List Nat} {te : TE} {σ : L2.St} {H1 : Hp} {Q : VK} (w : Walk J n G Y) (P : Addr → Nat → List V → Hp → Prop) (hn : n ≤ 50000) (hG : ∀ H' : Hp, Ex H1 H' → G H')
    (h0 : ∀ D H, Ex H1 H → P D 0 [] H) (mono : ∀ D i ys H H', P D i ys H → Bu D H H' → P D i ys H')
    (step : ∀ D i x ys H H', i < n → H1 D = none → Ex H1 H → H D = some (.lst ys) → P D i ys H → Y i H x H' → ∀ N : VK, (∀ y H4, Ex H H4 → P D (i + 1) (ys ++ [y]) H4 → N y H4) → g x (wipe σ vs) H' fun σ2 H2 => wipe σ2 vs = wipe σ vs ∧ te σ2 H2 N)
    (q : ∀ D ys H', H1 D = none → Ex H1 H' → H' D = some (.lst ys) → ys.length = n → P D n ys H' → Q (.ref D) H') : lcB J g tYes te vs σ Q H1 := by
  intro D hD
  refine lc_it w (fun i H => Ex H1 H ∧ ∃ ys, H D = some (.lst ys) ∧ ys.length = i ∧ P D i ys H) ⟨Ex.mut (Ex.refl _) hD, [], upd_same, rfl, h0 D _ (Ex.mut (Ex.refl _) hD)⟩ (fun i H _ p => hG H p.1) ?_ (fun H p => let ⟨ys, h1, h2, h3⟩ := p.2; q D ys H hD p.1 h1 h2 h3)
  intro i x H H' hi p y
  obtain ⟨p1, ys, p2, p3, p4⟩ := p
  refine step D i x ys H H' hi hD p1 p2 p4 y _ fun z H4 e4 hp4 => ⟨ys, e4 _ _ p2, sz_lt (by omega), Ex.mut (p1.trans e4) hD, ys ++ [z], upd_same, (by rw [List.length_append, p3]; rfl), mono D _ _ _ _ hp4 Bu.upd⟩
/-- the items are integers -/
theorem r_lcZ {J : It} {n : Nat} {G : Hp → Prop} {Y : Nat → Hp → V → Hp → Prop} {g : TG} {vs : List Nat} {te : TE} {σ : L2.St} {H1 : Hp} {Q : VK} (w : Walk J n G Y) (r : List Int) (hr : r.length = n) (hn : n ≤ 50000) (hG : ∀ H' : Hp, Ex H1 H' → G H')
    (step : ∀ i x H H', i < n → Ex H1 H → Y i H x H' → ∀ N : VK, (∀ H4, Ex H H4 → N (.int (r.getD i 0)) H4) → g x (wipe σ vs) H' fun σ2 H2 => wipe σ2 vs = wipe σ vs ∧ te σ2 H2 N)
    (q : ∀ D H', H1 D = none → Ex H1 H' → H' D = some (.lst (r.map V.int)) → Q (.ref D) H') : lcB J g tYes te vs σ Q H1 := by
  refine r_lcP w (fun _ i ys _ => ys = (r.take i).map V.int) hn hG (fun _ _ _ => rfl) (fun _ _ _ _ _ h _ => h) ?_ (fun D ys H' h1 h2 h3 h4 h5 => q D H' h1 h2 ?_)
  · intro D i x ys H H' hi hD e hd hp y N hN
    refine step i x H H' hi e y N fun H4 e4 => hN _ H4 e4 ?_
    have : i < r.length := by omega
    rw [hp, List.take_add_one, List.getElem?_eq_getElem this, List.map_append]
    congr 1
    simp [this]
  · rw [h3, h5, ← hr, List.take_length]
/-- any target, no test; the heap may change as it likes -/
theorem r_lcG {J : It} {n : Nat} {G : Hp → Prop} {Y : Nat → Hp → V → Hp → Prop} {g : TG} {vs : List Nat} {te : TE} {σ : L2.St} {H1 : Hp} {Q : VK} (w : Walk J n G Y) (P : Addr → Nat → List V → Hp → Prop) (hn : n ≤ 50000) (hG : ∀ D i ys H, P D i ys H → G H)
    (h0 : ∀ D, H1 D = none → P D 0 [] (upd H1 D (.lst []))) (mono : ∀ D i ys H o, H1 D = none → P D i ys H → P D i ys (upd H D o))
    (step : ∀ D i x ys H H', i < n → H1 D = none → H D = some (.lst ys) → ys.length = i → P D i ys H → Y i H x H' → ∀ N : VK, (∀ y H4, H4 D = some (.lst ys) → P D (i + 1) (ys ++ [y]) H4 → N y H4) → g x (wipe σ vs) H' fun σ2 H2 => wipe σ2 vs = wipe σ vs ∧ te σ2 H2 N)
    (q : ∀ D ys H', H1 D = none → H' D = some (.lst ys) → ys.length = n → P D n ys H' → Q (.ref D) H') : lcB J g tYes te vs σ Q H1 := by
  intro D hD
  refine lc_it w (fun i H => ∃ ys, H D = some (.lst ys) ∧ ys.length = i ∧ P D i ys H) ⟨[], upd_same, rfl, h0 D hD⟩ (fun i H _ p => let ⟨ys, _, _, h⟩ := p; hG D i ys H h) ?_ (fun H p => let ⟨ys, h1, h2, h3⟩ := p; q D ys H hD h1 h2 h3)
  intro i x H H' hi p y
  obtain ⟨ys, p2, p3, p4⟩ := p
  refine step D i x ys H H' hi hD p2 p3 p4 y _ fun z H4 h4 hp4 => ⟨ys, h4, sz_lt (by omega), ys ++ [z], upd_same, (by rw [List.length_append, p3]; rfl), mono D _ _ _ _ hD hp4⟩
/-! ### the bag's own list stays -/
def Bg (p : Addr) (H H' : Hp) : Prop := Bu p H H' ∧ ∀ L x y, H p = some (.lst [.ref L, x, y]) → ∃ x' y', H' p = some (.lst [.ref L, x', y'])
theorem Bg.refl (p : Addr) (H : Hp) : Bg p H H := ⟨Bu.refl p H, fun _ x y h => ⟨x, y, h⟩⟩
theorem Bg.trans {p : Addr} {H H1 H2 : Hp} (a : Bg p H H1) (b : Bg p H1 H2) : Bg p H H2 := ⟨a.1.trans b.1, fun L x y h => let ⟨x', y', h'⟩ := a.2 L x y h; b.2 L x' y' h'⟩
theorem Bg.of {p : Addr} {H H' : Hp} (e : Ex H H') : Bg p H H' := ⟨Bu.of e, fun _ x y h => ⟨x, y, e _ _ h⟩⟩
theorem Bg.at_ {p b : Addr} {H H' : Hp} {o : HO} (e : Bg p H H') (n : b ≠ p) (h : H b = some o) : H' b = some o := e.1 b o n h
theorem Bg.updD {p D : Addr} {H1 H : Hp} {o : HO} {n0 : Int} (e : Bg p H1 H) (hb : Bag H1 p n0) (hD : H1 D = none) : Bg p H1 (upd H D o) := by
  obtain ⟨L, xs, a, l, h1, _⟩ := hb.is
  have np : p ≠ D := by rintro rfl; rw [hD] at h1; cases h1
  refine ⟨fun b u n hb => ?_, fun L x y h => ?_⟩
  · rw [upd_ne (by rintro rfl; rw [hD] at hb; cases hb)]
    exact e.1 b u n hb
  · rw [upd_ne np]
    exact e.2 L x y h
theorem Bag.updD {p D : Addr} {H1 H : Hp} {o : HO} {n0 n : Int} (hb : Bag H p n) (hb1 : Bag H1 p n0) (e : Bg p H1 H) (hD : H1 D = none) : Bag (upd H D o) p n := by
  obtain ⟨L1, xs1, a1, l1, h1, hL1, ne1, _⟩ := hb1.is
  obtain ⟨L, xs, a, l, h, hL, ne, r⟩ := hb.is
  obtain ⟨x', y', h'⟩ := e.2 L1 _ _ h1
  rw [h] at h'
  cases h'
  have np : p ≠ D := by rintro rfl; rw [hD] at h1; cases h1
  have nL : L1 ≠ D := by rintro rfl; rw [hD] at hL1; cases hL1
  exact ⟨L1, xs, a, l, by rw [upd_ne np]; exact h, by rw [upd_ne nL]; exact hL, ne, r⟩
/-- what a draw promises -/
def spDrawG : Sp := sp2 fun b m H Q _ => ∃ p m' n, b = .ref p ∧ m = .int m' ∧ 0 < m' ∧ Z 1000 m' ∧ n ≤ 100000 ∧ Bag H p n ∧ ∀ r H', 0 ≤ r → r < m' → Bg p H H' → Bag H' p (n + 1) → Q (.int r) H'
theorem r_DrawG {H : Hp} {Q : VK} {E : XK} {p : Addr} {m n : Int} (hb : Bag H p n) (hn : n ≤ 100000) (h0 : 0 < m) (hm : Z 1000 m) (k : ∀ r H', 0 ≤ r → r < m → Bg p H H' → Bag H' p (n + 1) → Q (.int r) H') : spDrawG ([.ref p, .int m] ++ []) H Q E :=
  ⟨p, m, n, rfl, rfl, h0, hm, hn, hb, k⟩
end GS
/-! x == y, x of a built-in kind, y an instance with an own __eq__. -/
namespace GS
open PySem PySem.Spec PyProof.Rows L2 TL
section
variable {prog : Program} {w : World} {A : Around} {E : Value → Shared → Prop} {s : Shared} {p C dx : Addr} {Q : Value → Shared → Prop}
theorem dec_int {i : Int} {t : Tok} (h : s.heap.get? p = some (PySem.W.instObj C dx)) (q : Q .notImplemented s) : wpAny (model prog w) A (call (.builtin "int.__eq__") [.int i t, .ref p]) Q E s := by
  refine GQ.call_here F.slot_int_eq (typeIs_int s i t) F.entry_int_eq (F.args_int_eq_2 _ _) ?_
  obtain ⟨hp, g, d, tk, os⟩ := s
  wp_walk using AutoSeq1.wpAny_loadPart' h
  exact q
theorem dec_str {i : Str} {t : Tok} (h : s.heap.get? p = some (PySem.W.instObj C dx)) (q : Q .notImplemented s) : wpAny (model prog w) A (call (.builtin "str.__eq__") [.str i t, .ref p]) Q E s := by
  refine GQ.call_here F.slot_str_eq (typeIs_str s i t) F.entry_str_eq (F.args_str_eq_2 _ _) ?_
  obtain ⟨hp, g, d, tk, os⟩ := s
  wp_walk using AutoSeq1.wpAny_loadPart' h
  exact q
theorem dec_none (q : Q .notImplemented s) : wpAny (model prog w) A (call (.builtin "NoneType.__eq__") [.none, .ref p]) Q E s := by
  refine GQ.call_here F.slot_NoneType_eq (show s.TypeIs .none "NoneType" from rfl) F.entry_NoneType_eq (F.args_NoneType_eq_2 _ _) ?_
  obtain ⟨hp, g, d, tk, os⟩ := s
  wp_walk
  exact q
theorem dec_list {l : Addr} (h : s.heap.get? p = some (PySem.W.instObj C dx)) (hl : ∃ o, s.heap.get? l = some o ∧ o.cls = .type "list") (hs : PySem.W.Looks (model prog w) s.heap (isSubtype (.ref C) (.type "list")) false) (q : Q .notImplemented s) : wpAny (model prog w) A (call (.builtin "list.__eq__") [.ref l, .ref p]) Q E s := by
  refine GQ.call_here F.slot_list_eq hl F.entry_list_eq (F.args_list_eq_2 _ _) ?_
  obtain ⟨hp, g, d, tk, os⟩ := s
  have sub : ∀ {A' : Around} {E' : Value → Shared → Prop} {Q' : Bool → Shared → Prop}, Q' false ⟨hp, g, d, tk, os⟩ → wpAny (model prog w) A' (isSubtype (.ref C) (.type "list")) Q' E' ⟨hp, g, d, tk, os⟩ := fun q => hs.here q
  wp_walk using AutoSeq1.wpAny_loadPart' h, sub
  exact q
theorem dec_tuple {l : Addr} (h : s.heap.get? p = some (PySem.W.instObj C dx)) (hl : ∃ o, s.heap.get? l = some o ∧ o.cls = .type "tuple") (hs : PySem.W.Looks (model prog w) s.heap (isSubtype (.ref C) (.type "tuple")) false) (q : Q .notImplemented s) : wpAny (model prog w) A (call (.builtin "tuple.__eq__") [.ref l, .ref p]) Q E s := by
  refine GQ.call_here F.slot_tuple_eq hl F.entry_tuple_eq (F.args_tuple_eq_2 _ _) ?_
  obtain ⟨hp, g, d, tk, os⟩ := s
  have sub : ∀ {A' : Around} {E' : Value → Shared → Prop} {Q' : Bool → Shared → Prop}, Q' false ⟨hp, g, d, tk, os⟩ → wpAny (model prog w) A' (isSubtype (.ref C) (.type "tuple")) Q' E' ⟨hp, g, d, tk, os⟩ := fun q => hs.here q
  wp_walk using AutoSeq1.wpAny_loadPart' h, sub
  exact q
/-- the left side declines, the right one has an own __eq__ -/
theorem cmp_refl {K : PySem.W.Frag} {h₀ : Heap} {L f : Addr} {m : Str → Option Value} {od : Option Obj} {ox : Obj} {a : Value} {Ta id : String} (hu : A.units < cLine) (F : Fr h₀ L s.heap m) (X₀ : K.In h₀) (I : PySem.W.InstAt s.heap p ox C od)
    (ha : s.TypeIs a Ta) (slot : Slot Ta (cmpInfo .Eq).2.1 id) (hsub : PySem.W.Looks (model prog w) s.heap (isSubtype (.ref C) (.type Ta)) false) (hs : PySem.W.findIn K (.ref C) (cmpInfo .Eq).2.2 = some (some (.ref f))) (hf : PySem.W.isFn K (.ref f) = true)
    (dec : wpAny (model prog w) A (call (.builtin id) [a, .ref p]) (fun v s' => v = .notImplemented ∧ s' = s) E s)
    (h : wpAny (model prog w) A (call (.ref f) [.ref p, a]) (PySem.W.CmpBack Q) E s) : wpAny (model prog w) A (richCompare .Eq a (.ref p)) Q E s := by
  have X := X₀.keeps F.keep
  have one : wpAny (model prog w) A (tryCompare (.ref p) (cmpInfo .Eq).2.2 a) (fun r s' => ∃ v, r = some v ∧ Q v s') E s := by
    unfold tryCompare
    refine wpAny_bind (PySem.W.ifBound_K X I hs hf (wpAny_mono h (fun v s' hv => ?_) fun _ _ e => e))
    cases v <;> first | exact hv.elim | exact wpAny_pure ⟨_, rfl, hv⟩
  unfold richCompare
  simp only [ha.oneThing_none]
  refine wpAny_holding (wpAny_bind (wpAny_cRoomFor hu ?_))
  refine wpAny_bind (wpAny_typeOf ha (wpAny_bind (I.type.here ?_)))
  rw [if_pos (show (Value.type Ta != Value.ref C) = true from rfl)]
  refine wpAny_bind (hsub.here ?_)
  simp only [Bool.false_eq_true, if_false, Bool.not_false, if_true]
  refine wpAny_bind (m := tryCompare a _ (.ref p)) (wpAny_tryCompare_declines ha slot (wpAny_mono dec (fun v s' z => ?_) fun _ _ e => e))
  obtain ⟨rfl, rfl⟩ := z
  refine ⟨rfl, ?_⟩
  refine wpAny_bind (wpAny_mono one (fun r s' z => ?_) fun _ _ e => e)
  obtain ⟨v, rfl, hq⟩ := z
  exact wpAny_pure hq
end
/-- a value of a built-in kind that declines -/
inductive LeftV (H : Hp) : V → Prop
  | non : LeftV H .non
  | int (i : Int) : LeftV H (.int i)
  | str (z : Str) : LeftV H (.str z)
  | lst {a : Addr} {xs : List V} (h : H a = some (.lst xs)) : LeftV H (.ref a)
  | tup {a : Addr} {xs : List V} (h : H a = some (.tup xs)) : LeftV H (.ref a)
section
variable {X : Cx}
def rEqR (C : Addr) (sp : Sp) (E : XK) : R2 := fun x y H Q => ∃ a dx fs, y = .ref a ∧ H a = some (.ins C dx fs) ∧ LeftV H x ∧ sp [y, x] H Q E
theorem op_eqR {CX : CXT} {k : Nat} {C f : Addr} {fd : FuncData} {ps : List Str} {sp : Sp} {E : XK} (Fn : FnOk X.prog X.w X.K X.mg X.base CX k f fd ps sp) (hr : Room k X.A)
    (no : ∀ T ∈ ["int", "str", "NoneType", "list", "tuple"], PySem.W.kitOne X.K (.ref C) (.type T) = some false)
    (hs : PySem.W.findIn X.K (.ref C) "__eq__" = some (some (.ref f))) (hf : PySem.W.isFn X.K (.ref f) = true) (hb : Binds X.K fd ps []) (hx : Passes CX X E) : OpR X (compareOp .Eq) (rEqR C sp E) := by
  intro pins s σ H x y v u Q I rx ry hq
  obtain ⟨a, dx, fs, rfl, ha, lv, hsp⟩ := hq
  cases ry
  obtain ⟨mA, O, _⟩ := ins_get I.hok ha
  obtain ⟨od, J, _⟩ := O.look
  obtain ⟨m, hF⟩ := I.fr
  show wpAny (model X.prog X.w) X.A (richCompare .Eq v (.ref a)) (EP X pins σ Q) X.xe s
  have sub : ∀ T ∈ ["int", "str", "NoneType", "list", "tuple"], PySem.W.Looks (model X.prog X.w) s.heap (isSubtype (.ref C) (.type T)) false := fun T hT => by
    have e := no T hT
    unfold PySem.W.kitOne at e
    have ne : (Value.ref C == Value.type T) = false := by rfl
    rw [ne, if_neg Bool.false_ne_true] at e
    exact (PySem.W.kit_cls I.kIn e).2.2
  have fin : wpAny (model X.prog X.w) X.A (call (.ref f) [.ref a, v]) (PySem.W.CmpBack (EP X pins σ Q)) X.xe s := by
    refine wpAny_mono (run_at Fn hr rfl hb hx I (.cons (show L2.RelV (V.ref a) (Value.ref a) from rfl) (.cons rx .nil)) hsp) (fun v s' hv => ?_) fun _ _ z => z
    cases v <;> first | exact hv | (obtain ⟨w, _, _, z, _⟩ := hv; exact (notImpl_no z).elim)
  have O' : s.heap.get? a = some (PySem.W.instObj C dx) := O.1
  cases lv with
  | non =>
    cases (show v = Value.none from rx)
    exact cmp_refl hr.units0 hF I.ok.mod.kin J (show s.TypeIs .none "NoneType" from rfl) F.slot_NoneType_eq (sub _ (by decide)) hs hf (dec_none ⟨rfl, rfl⟩) fin
  | int i =>
    obtain ⟨t, e⟩ := (show ∃ t, v = Value.int i t from rx)
    subst e
    exact cmp_refl hr.units0 hF I.ok.mod.kin J (typeIs_int s i t) F.slot_int_eq (sub _ (by decide)) hs hf (dec_int O' ⟨rfl, rfl⟩) fin
  | str i =>
    obtain ⟨t, e⟩ := (show ∃ t, v = Value.str i t from rx)
    subst e
    exact cmp_refl hr.units0 hF I.ok.mod.kin J (typeIs_str s i t) F.slot_str_eq (sub _ (by decide)) hs hf (dec_str O' ⟨rfl, rfl⟩) fin
  | @lst b xs h =>
    cases (show v = Value.ref b from rx)
    obtain ⟨its, r, hl, _⟩ := I.list (show SqL X.K H b xs from SqL.of h)
    obtain ⟨o, ho, hc, _⟩ := hl.isList
    have tl : ∃ o, s.heap.get? b = some o ∧ o.cls = .type "list" := ⟨_, ho, hc⟩
    exact cmp_refl hr.units0 hF I.ok.mod.kin J tl F.slot_list_eq (sub _ (by decide)) hs hf (dec_list O' tl (sub _ (by decide)) ⟨rfl, rfl⟩) fin
  | @tup b xs h =>
    cases (show v = Value.ref b from rx)
    obtain ⟨its, r, hl, _⟩ := I.tuple (show SqT X.K H b xs from SqT.of h)
    obtain ⟨o, ho, hc, _⟩ := hl
    have tl : ∃ o, s.heap.get? b = some o ∧ o.cls = .type "tuple" := ⟨_, ho, hc⟩
    exact cmp_refl hr.units0 hF I.ok.mod.kin J tl F.slot_tuple_eq (sub _ (by decide)) hs hf (dec_tuple O' tl (sub _ (by decide)) ⟨rfl, rfl⟩) fin
theorem op_or {op : Value → Value → Sem Value} {r1 r2 : R2} (h1 : OpR X op r1) (h2 : OpR X op r2) : OpR X op fun x y H Q => r1 x y H Q ∨ r2 x y H Q := fun pins s σ H x y v u Q I rx ry h => h.elim (h1 pins s σ H x y v u Q I rx ry) (h2 pins s σ H x y v u Q I rx ry)
theorem kx_eqOwn {K : PySem.W.Frag} (h : X.K = K) {CX : CXT} {k : Nat} {C f : Addr} {fd : FuncData} {ps : List Str} {sp : Sp} {E : XK} (F : FnOk X.prog X.w X.K X.mg X.base CX k f fd ps sp) (hr : Room k X.A)
    (hs : PySem.W.findIn X.K (.ref C) "__eq__" = some (some (.ref f))) (hf : PySem.W.isFn X.K (.ref f) = true) (hb : Binds X.K fd ps []) (hx : Passes CX X E) : OpR X (compareOp .Eq) (rEqOwn K C sp E) := by
  subst h
  exact op_eqOwn F hr hs hf hb hx
theorem kx_catT {K : PySem.W.Frag} (h : X.K = K) : OpR X (binaryOp .Add) (rCatT K) := by subst h; exact op_catT
end
end GS
/-! Texts of data where nothing is being shown (the guards are told); whole roots. -/
namespace GS
open PySem PySem.Spec PyProof.Rows L2
/-! ### whole roots -/
def rRoot : List V → Hp → VK → Prop := fun vs H Q => ∃ i : Int, vs = [.int i] ∧ 0 ≤ i ∧ i.toNat.log2 < 13000 ∧ ∀ r : Nat, r * r ≤ i.toNat → i.toNat < (r + 1) * (r + 1) → Q (.int (r : Int)) H
theorem cr_root {X : Cx} : CallR X (.builtin "math.isqrt") rRoot := by
  intro pins s σ H vs us Q I r h
  obtain ⟨i, rfl, h0, hz, q⟩ := h
  obtain ⟨u, rfl, t, rfl⟩ := vals1 r
  have sp := Float64.isqrt_spec i.toNat
  exact call_function_meets PySem.W.MGF.kind_isqrt PySem.W.MGF.plain_isqrt PySem.W.MGF.entry_isqrt (PySem.W.MGF.args_isqrt _) (PySem.W.mg_run_isqrt i t (by omega) (by omega) (by omega)).meets ⟨.int _, H, I.tok _, ⟨_, rfl⟩, q _ sp.1 sp.2⟩
/-! ### data -/
mutual
inductive Dat (K : PySem.W.Frag) (H : Hp) : V → PyData → Prop
  | non : Dat K H .non .none
  | bl (b : Bool) : Dat K H (.bl b) (.bool b)
  | int (i : Int) : Dat K H (.int i) (.int i)
  | str (x : Str) : Dat K H (.str x) (.str x)
  | lst {a : Addr} {xs : List V} {ds : List PyData} : SqL K H a xs → Dats K H xs ds → Dat K H (.ref a) (.list ds)
  | tup {a : Addr} {xs : List V} {ds : List PyData} : SqT K H a xs → Dats K H xs ds → Dat K H (.ref a) (.tuple ds)
inductive Dats (K : PySem.W.Frag) (H : Hp) : List V → List PyData → Prop
  | nil : Dats K H [] []
  | cons {x : V} {xs : List V} {d : PyData} {ds : List PyData} : Dat K H x d → Dats K H xs ds → Dats K H (x :: xs) (d :: ds)
end
section
variable {X : Cx} {pins : List (Addr × Obj)} {σ : L2.St} {H : Hp} {s : Shared}
mutual
theorem Dat.reads (I : Inv X pins σ H s) : ∀ {x : V} {d : PyData}, Dat X.K H x d → ∀ {v : Value}, RelV x v → ∃ as, Reads s.heap v d as
  | _, _, .non, v, r => ⟨[], by cases (show v = Value.none from r); exact .none⟩
  | _, _, .bl b, v, r => ⟨[], by cases (show v = Value.bool b from r); exact .bool b⟩
  | _, _, .int i, v, r => ⟨[], by obtain ⟨t, e⟩ := (show ∃ t, v = Value.int i t from r); cases e; exact .int i t⟩
  | _, _, .str x, v, r => ⟨[], by obtain ⟨t, e⟩ := (show ∃ t, v = Value.str x t from r); cases e; exact .str x t⟩
  | _, _, .lst (a := a) hs hd, v, r => by
    cases (show v = Value.ref a from r)
    obtain ⟨its, rv, ⟨o, n, e, hc, _, ho⟩, _⟩ := I.list hs
    obtain ⟨as, ra⟩ := Dats.reads I hd rv
    exact ⟨_, .list e hc ho ra⟩
  | _, _, .tup (a := a) hs hd, v, r => by
    cases (show v = Value.ref a from r)
    obtain ⟨its, rv, ⟨o, e, hc, n, ho⟩, _⟩ := I.tuple hs
    obtain ⟨as, ra⟩ := Dats.reads I hd rv
    exact ⟨_, .tuple e hc ho ra⟩
theorem Dats.reads (I : Inv X pins σ H s) : ∀ {xs : List V} {ds : List PyData}, Dats X.K H xs ds → ∀ {us : List Value}, Vals xs us → ∃ as, ReadsAll s.heap us ds as
  | _, _, .nil, us, r => by cases r; exact ⟨_, .nil⟩
  | _, _, .cons hx ht, us, r => by
    cases r with
    | cons r1 r2 =>
      obtain ⟨a1, k1⟩ := Dat.reads I hx r1
      obtain ⟨a2, k2⟩ := Dats.reads I ht r2
      exact ⟨_, .cons k1 k2⟩
end
end
theorem Dats.ints {K : PySem.W.Frag} {H : Hp} : ∀ ns : List Int, Dats K H (ns.map V.int) (ns.map PyData.int)
  | [] => .nil
  | n :: ns => .cons (.int n) (Dats.ints ns)
theorem Dats.bools {K : PySem.W.Frag} {H : Hp} : ∀ ns : List Bool, Dats K H (ns.map V.bl) (ns.map PyData.bool)
  | [] => .nil
  | n :: ns => .cons (.bl n) (Dats.bools ns)
/-- repr(x), x any list or tuple of data -/
def rShow (K : PySem.W.Frag) : List V → Hp → VK → Prop := fun vs H Q => ∃ (a : Addr) (d : PyData), vs = [.ref a] ∧ Dat K H (.ref a) d ∧ d.showable = true ∧ d.hasDict = false ∧ d.shown.length ≤ sizeLine ∧ d.depth ≤ 60 ∧ Q (.str d.shown) H
theorem cr_show {X : Cx} (hg : X.A.guards = some []) (hu : X.A.units + 64 < cLine) : CallR X (.builtin "repr") (rShow X.K) := by
  intro pins s σ H vs us Q I r h
  obtain ⟨a, d, rfl, hd, h1, h2, h3, h4, q⟩ := h
  obtain ⟨u, rfl, rv⟩ := vals1 r
  cases (show u = Value.ref a from rv)
  obtain ⟨as, rd⟩ := hd.reads I (v := .ref a) rfl
  exact repr_of_reads' rd h1 (fun z => by rw [h2] at z; cases z) hg (by omega) (fun _ _ e => e) (fun h' u tk k => ⟨.str d.shown, H, I.kept k, ⟨u, rfl⟩, q⟩) h3
/-- two texts of data are alike where the data are -/
theorem show_eq {d e : PyData} (h : d = e) : d.shown = e.shown := by rw [h]
end GS
/-! Defs that are called where nothing is being shown. -/
namespace GS
open PySem PySem.Spec PyProof.Rows L2
/-- what a def keeps to, where nothing is being shown -/
structure FnG (P : Program) (w : World) (K : PySem.W.Frag) (mg : PySem.Str → Option Value) (base : Heap) (CX : CXT) (k : Nat) (f : Addr) (fd : FuncData) (ps : List PySem.Str) (sp : Sp) : Prop where
  wide : ∀ vs H Q E, sp vs H Q E → vs.length = ps.length
  goes : ∀ (A : Around), A.guards = some [] → Room k A → ∀ (outer : List Env) (s : Shared) (H : Hp) (args : Args) (us : List Value) (vs : List V) (Q : VK) (E : XK),
    Env0 P w K mg base A outer s H → BindsTo s fd args (ps.zip us) → Vals vs us → sp vs H Q E → codeAny (model P w) A (.call (.ref f) args) (CR CX outer P w H s Q E) s
section
variable {P : Program} {w : World} {K : PySem.W.Frag} {mg : PySem.Str → Option Value} {base : Heap} {CX : CXT} {k : Nat} {f : Addr} {fd : FuncData} {ps : List PySem.Str} {sp : Sp}
theorem FnG.of (F : FnOk P w K mg base CX k f fd ps sp) : FnG P w K mg base CX k f fd ps sp :=
  ⟨F.len, fun A _ room outer s H args us vs Q E e b v q => F.run A outer s H args us vs Q E room e b v q⟩
theorem guards_deeper {A : Around} {env : Env} (h : A.guards = some []) : (A.deeper env).guards = some [] := h
theorem end_of {A : Around} {outer : List Env} {s : Shared} {H : Hp} {E : XK} {cx : Cx} {Q : VK} (e1 : cx.s_0 = s) (e2 : cx.H_0 = H) (e3 : cx.prog = P) (e4 : cx.w = w) (e5 : cx.fs = frs outer) (e6 : cx.ex = []) {σ' : L2.St} {H' : Hp} {s' : Shared} {v : V} {u : Value}
    (J : Inv cx [] σ' H' s') (rv : RelV v u) (q : Q v H') : CE outer P w H s Q u s' := by
  subst e1 e2 e3 e4
  refine ⟨v, H', J.os, J.bare, ?_, J.hok, rv, q⟩
  have b := J.base
  rw [e5, e6] at b
  exact b
theorem okG {x qual : PySem.Str} {params : Arguments} {body : List Stmt} {scope : Scope} {dvs : List V} {kws : List (PySem.Str × V)} {N : List PySem.Str} (F : FunD K x qual params body scope dvs kws f fd) (S : FnScope N ps scope) (wide : ∀ vs H Q E, sp vs H Q E → vs.length = ps.length)
    (text : ∀ (cdv : Value) (A : Around) (outer : List Env) (s : Shared) (H : Hp) (vs : List V) (Q : VK) (E : XK), A.guards = some [] → Room k (A.deeper (envOfC qual scope s.heap.objs.size f cdv)) → sp vs H Q E →
      ∃ t, PSs (cxOf CX P w K mg base N qual scope f cdv A outer s H E) body t ∧ t { nx := fun _ H' => Q .non H', rt := Q } (start N vs) H) : FnG P w K mg base CX (k + 1) f fd ps sp := by
  obtain ⟨oc, od, dV, kV, doc, pm, an, cdv, ct, osl, rfl, known, code, -, -⟩ := F.ex
  refine ⟨wide, fun A quiet room outer s H args us vs Q E e bind same want => ?_⟩
  have stays : ∀ b o, base.get? b = some o → s.heap.get? b = some o := fun b o z => (e.bs b o z).1
  have inK : K.In s.heap := e.mod.kin.keeps stays
  have free : s.heap.NoLimit := e.mod.nolimit.keeps stays
  refine codeAny_call_function room.depth (inK _ _ known) rfl S.co S.gen rfl (PySem.W.codeRec_of inK code) (bind _ _ _ _ ?_)
  refine wpAny_newFunctionEnv_cells S.kind ?slots fun env made s1 laid => ?run
  case slots =>
    intro y hy
    obtain ⟨n, v⟩ := y
    have hn := (List.of_mem_zip hy).1
    cases S.par n hn with
    | inl z => exact .inl z
    | inr z => exact .inr ⟨z, PySem.W.cellsFrom_some _ _ _ (.inl z)⟩
  case run =>
    subst made
    refine ⟨free.keeps laid.toInCall.keep, codeAny_func ?_⟩
    obtain ⟨t, reads, goal⟩ := text cdv A outer s H vs Q E quiet (room.deeper _) want
    have begun := inv_start (CX := CX) (E := E) S room.hd e (wide _ _ _ _ want) same laid
    refine wpAny_mono (reads.run [] s1 (start N vs) H _ begun goal) (fun way s' z => ?_) fun err s' z => z
    match way, z with
    | .ret u, ⟨v, σ', H', J, rv, q⟩ => exact end_of (A := A) (E := E) rfl rfl rfl rfl rfl rfl J rv q
    | .next, ⟨σ', H', J, q⟩ => exact end_of (A := A) (E := E) (v := V.non) (u := Value.none) rfl rfl rfl rfl rfl rfl J rfl q
    | .brk, ⟨_, _, _, q⟩ => exact False.elim q
    | .cont, ⟨_, _, _, q⟩ => exact False.elim q
end
section
variable {X : Cx} {CX : CXT} {k : Nat} {f : Addr} {fd : FuncData} {ps : List PySem.Str} {sp : Sp} {dvs : List V} {ds : List Value} {E : XK} {x : PySem.Str} {p pos : Pos} {e : Expr} {es : List Expr} {t : TA}
theorem goes_fn {pins : List (Addr × Obj)} {σ : L2.St} {H : Hp} {s : Shared} {Q : VK} {us : List Value} {vs : List V} (F : FnG X.prog X.w X.K X.mg X.base CX k f fd ps sp) (quiet : X.A.guards = some []) (room : Room k X.A) (hb : Binds X.K fd ps ds) (hd : Vals dvs ds) (out : Passes CX X E)
    (I : Inv X pins σ H s) (r : Vals vs us) (want : sp (vs ++ dvs) H Q E) : wpAny (model X.prog X.w) X.A (call (.ref f) us) (EP X pins σ Q) X.xe s := by
  have all := r.append hd
  have many : (us ++ ds).length = ps.length := all.length ▸ F.wide _ _ _ _ want
  refine wpAny_call (codeAny_mono (F.goes X.A quiet room X.stack s H ⟨us, []⟩ (us ++ ds) (vs ++ dvs) Q E I.env0 (hb s us I.kIn many) all want) fun res s' z => ?_)
  match res, z with
  | .error err, z => exact out pins σ H s err s' I z
  | .ok (.ret u), z => exact I.after z
  | .ok .next, z => exact False.elim z
  | .ok .brk, z => exact False.elim z
  | .ok .cont, z => exact False.elim z
theorem pe_callG (F : FnG X.prog X.w X.K X.mg X.base CX k f fd ps sp) (quiet : X.A.guards = some []) (room : Room k X.A) (hg : Gl X x) (hm : X.mg x = some (.ref f)) (hk : PySem.W.keepIn X.K (.ref f) = true) (hb : Binds X.K fd ps ds) (hd : Vals dvs ds) (out : Passes CX X E)
    (ha : PA X (e :: es) t) (hdb : (x == ("__debug__" : PySem.Str)) = false := by decide) (he : starEach (e :: es) X.env = (false, eval e X.env) :: starEach es X.env := by rfl) (hpl : (backTo pos (starEach es X.env)).any (·.1) = false := by rfl) :
    PE X (.Call (.Name x p) (e :: es) [] pos) (tCall sp dvs E t) :=
  ⟨fun pins s σ H Q I h => wpAny_Call_Name_kw (ld_glob I hg hm (PySem.W.callWith_K (h₀ := X.base) I.ok.mod.kin hk (thn (ha.run pos pins s σ H _ I h) fun us s1 ⟨vs, H1, I1, r, q⟩ => ⟨I1.kIn, goes_fn F quiet room hb hd out I1 r q⟩) he hpl) hdb)⟩
theorem pe_callG0 (F : FnG X.prog X.w X.K X.mg X.base CX k f fd ps sp) (quiet : X.A.guards = some []) (room : Room k X.A) (hg : Gl X x) (hm : X.mg x = some (.ref f)) (hk : PySem.W.keepIn X.K (.ref f) = true) (hb : Binds X.K fd ps ds) (hd : Vals dvs ds) (out : Passes CX X E)
    (hdb : (x == ("__debug__" : PySem.Str)) = false := by decide) : PE X (.Call (.Name x p) [] [] pos) (tCall sp dvs E tNil) :=
  ⟨fun pins s σ H Q I h => wpAny_Call_Name_kw (ld_glob I hg hm (PySem.W.callWith_K0 I.kIn hk (goes_fn (us := []) F quiet room hb hd out I .nil h)) hdb)⟩
end
end GS
/-! The law's own call, where nothing is being shown; tables of code objects. -/
namespace GS
open PySem PySem.Spec PyProof.Rows L2 LamX
open Classical in
/-- what is tracked ahead of the law: the tables, the script -/
noncomputable def Ahead (K : PySem.W.Frag) (a : Addr) (L : Obj) (cs : List (Addr × Addr)) (ns : List Int) : Hp := fun b =>
  if b ∈ cs.map (·.2) then some (.tbl #[]) else if b = a ∧ K.lookup a = none then some (.frz L (.lst (ns.map V.int))) else none
section
variable {P : Program} {w : World} {K : PySem.W.Frag} {mg mb : PySem.Str → Option Value} {a : Addr} {cs : List (Addr × Addr)} {s₁ : Shared} {vs : List Value} {ns : List Int}
theorem ahead_tab {L : Obj} {b : Addr} (h : b ∈ cs.map (·.2)) : Ahead K a L cs ns b = some (.tbl #[]) := by unfold Ahead; rw [if_pos h]
theorem ahead_is {L : Obj} (b : Addr) : Ahead K a L cs ns b = none ∨ (b ∈ cs.map (·.2) ∧ Ahead K a L cs ns b = some (.tbl #[])) ∨ (b = a ∧ K.lookup a = none ∧ Ahead K a L cs ns b = some (.frz L (.lst (ns.map V.int)))) := by
  unfold Ahead
  split
  · rename_i h; exact .inr (.inl ⟨h, rfl⟩)
  · split
    · rename_i h; exact .inr (.inr ⟨h.1, h.2, rfl⟩)
    · exact .inl rfl
theorem scene (KX : K.In s₁.heap) (hns : s₁.heap.Ns mainGlobals mg) (hb : s₁.heap.Ns builtinsNs mb) (hbb : ∀ x : PySem.Str, x ≠ "__name__" → mb x = bootBuiltins x) (lim : s₁.heap.NoLimit) (calm : s₁.gens = #[])
    (tabs : ∀ p ∈ cs, s₁.heap.get? p.2 = some { cls := .none, data := .fields #[] }) (notK : ∀ p ∈ cs, K.lookup p.2 = none) (codes : ∀ p ∈ cs, PySem.W.CodeHd s₁.heap p.1 p.2)
    (blt : cs ≠ [] → ∃ (bm : Addr) (ob : Obj), mg "__builtins__" = some (.ref bm) ∧ bm ≠ builtinsNs ∧ s₁.heap.get? bm = some ob ∧ ob.cls = .type "module" ∧ ob.dict = some builtinsNs ∧ ob.data = .plain)
    (isL : s₁.heap.get? a = some { cls := .type "list", data := .seq vs.toArray }) (isI : IntsAre vs ns) (short : ns.length ≤ sizeLine) :
    ∃ (H : Hp) (base : Heap), (∀ p ∈ cs, H p.2 = some (.tbl #[])) ∧ SqL K H a (ns.map V.int) ∧ K.In base ∧ base.Ns mainGlobals mg ∧ (∀ p ∈ cs, TabB base mg p.1 p.2) ∧ Env0 P w K mg base callerA [] s₁ H ∧
      ∀ u s', CE [] P w H s₁ (fun v _ => v = .bl true) u s' → u = Value.bool true ∧ OldK s₁.heap s'.heap ∧ s'.os = s₁.os ∧ AllBare s'.gens := by
  have same := vals_ints isI
  have long := isI.length
  have tabAt : ∀ b, b ∈ cs.map (·.2) → s₁.heap.get? b = some { cls := .none, data := .fields #[] } := by
    intro b z
    obtain ⟨p, m, rfl⟩ := List.mem_map.mp z
    exact tabs p m
  have aNot : a ∉ cs.map (·.2) := by
    intro z
    have e := tabAt a z
    rw [isL] at e
    injection e with e
    injection e with _ _ e
    cases e
  let H := Ahead K a { cls := .type "list", data := .seq vs.toArray } cs ns
  have free : ∀ (b : Addr) (o : Obj), s₁.heap.get? b = some o → (∀ l n, o.data ≠ .seq l n) → o.data ≠ .fields #[] → H b = none := by
    intro b o e n1 n2
    rcases ahead_is (K := K) (a := a) (cs := cs) (ns := ns) (L := { cls := .type "list", data := .seq vs.toArray }) b with z | ⟨z, -⟩ | ⟨rfl, -, -⟩
    · exact z
    · rw [tabAt b z] at e
      injection e with e
      exact absurd (congrArg Obj.data e).symm n2
    · rw [isL] at e
      injection e with e
      exact absurd (congrArg Obj.data e).symm (n1 _ _)
  have hide : ∀ (b : Addr) (o : Obj), s₁.heap.get? b = some o → (∀ l n, o.data ≠ .seq l n) → o.data ≠ .fields #[] → (hidT s₁.heap H).get? b = some o := fun b o e n1 n2 => hidT_get e (free b o e n1 n2)
  have names : ∀ (b : Addr) (m : PySem.Str → Option Value), s₁.heap.Ns b m → (hidT s₁.heap H).Ns b m := by
    intro b m ⟨o, es, ep, e, d, r⟩
    exact ⟨o, es, ep, hide b o e (fun l n z => by rw [d] at z; cases z) (fun z => by rw [d] at z; cases z), d, r⟩
  have inK : K.In (hidT s₁.heap H) := by
    intro b o e
    refine hidT_get (KX b o e) ?_
    rcases ahead_is (K := K) (a := a) (cs := cs) (ns := ns) (L := { cls := .type "list", data := .seq vs.toArray }) b with z | ⟨z, -⟩ | ⟨rfl, z, -⟩
    · exact z
    · obtain ⟨p, m, rfl⟩ := List.mem_map.mp z
      rw [notK p m] at e
      cases e
    · rw [z] at e
      cases e
  have hok : HOk P w H s₁.heap := by
    intro b o e
    rcases ahead_is (K := K) (a := a) (cs := cs) (ns := ns) (L := { cls := .type "list", data := .seq vs.toArray }) b with z | ⟨z, q⟩ | ⟨rfl, -, q⟩
    · have e' := z.symm.trans e
      cases e'
    · have e' := q.symm.trans e
      cases e'
      exact tabAt b z
    · have e' := q.symm.trans e
      cases e'
      exact ⟨isL, by simpa using short, vs, _, same, isL⟩
  refine ⟨H, hidT s₁.heap H, fun p m => ahead_tab (List.mem_map.mpr ⟨p, m, rfl⟩), ?_, inK, names _ _ hns, ?_, ?_, ?_⟩
  · cases z : K.lookup a with
    | some o =>
      have e := KX a o z
      rw [isL] at e
      cases e
      exact .inr ⟨_, vs.toArray, _, z, rfl, rfl, rfl, by rw [List.size_toArray, long]; exact short, by simpa using same⟩
    | none => exact .inl (.inr ⟨_, by show Ahead _ _ _ _ _ a = _; unfold Ahead; rw [if_neg aNot, if_pos ⟨rfl, z⟩]⟩)
  · intro p m
    have here := tabs p m
    obtain ⟨bm, ob, b1, b2, b3, b4, b5, b6⟩ := blt (List.ne_nil_of_mem m)
    obtain ⟨og, es, ep, eg, dg, -⟩ := hns
    refine ⟨?_, ⟨bm, ob, b1, b2, ?_, ?_, hide bm ob b3 (fun l n z => by rw [b6] at z; cases z) (fun z => by rw [b6] at z; cases z), b4, b5, b6⟩, ?_⟩
    · obtain ⟨o, us, file, tf, flags, tg, inF, text, tt, e1, r1, r2, r3, r4⟩ := codes p m
      refine ⟨o, us, file, tf, flags, tg, inF, text, tt, hide p.1 o e1 (fun l n z => by rw [r2] at z; cases z) (fun z => ?_), r1, r2, r3, r4⟩
      rw [r2] at z
      cases z
      simp at r3
    · intro z
      rw [z, eg] at b3
      cases b3
      rw [dg] at b6
      cases b6
    · intro z
      rw [z, here] at b3
      cases b3
      cases b6
    · intro z
      rw [z, here] at eg
      cases eg
      cases dg
  · exact ⟨rfl, ⟨inK, names _ _ hns, ⟨mb, names _ _ hb, hbb⟩, let ⟨mc, l1, l2⟩ := lim; ⟨mc, names _ _ l1, l2⟩⟩, fun b o e => of_hidT e, Nat.le_of_eq (hidT_size _ _), trivial, fun b z => absurd z (by simp [frs]), hok, .of_eq calm⟩
  · intro u s' ⟨v, H', os, bare, un, hok', rv, q⟩
    have q' : v = .bl true := q
    subst q'
    have ru : u = Value.bool true := rv
    have kept : ∀ b o, b ∉ cs.map (·.2) → s₁.heap.get? b = some o → s'.heap.get? b = some o := by
      intro b o nb e
      rcases ahead_is (K := K) (a := a) (cs := cs) (ns := ns) (L := { cls := .type "list", data := .seq vs.toArray }) b with z | ⟨z, -⟩ | ⟨rfl, -, z⟩
      · exact un.keep b o e z (by simp [frs]) (by simp)
      · exact absurd z nb
      · have e2 := (hok' b _ (un.frzs b _ _ z)).1
        rw [isL] at e
        cases e
        exact e2
    have more : ∀ p ∈ cs, ∃ l : Array Value, s'.heap.get? p.2 = some { cls := .none, data := .fields l } := by
      intro p m
      obtain ⟨l, z⟩ := un.tbls p.2 #[] (ahead_tab (List.mem_map.mpr ⟨p, m, rfl⟩))
      exact ⟨_, hok' p.2 _ z⟩
    refine ⟨ru, ⟨fun b o e => ?_, fun b o e => ?_⟩, os, bare⟩
    · by_cases z : b ∈ cs.map (·.2)
      · obtain ⟨p, m, rfl⟩ := List.mem_map.mp z
        obtain ⟨l, g⟩ := more p m
        rw [tabs p m] at e
        cases e
        exact .inr (.inl ⟨((codes p m).tab (tabs p m)).isCodeTable, rfl, #[], l, rfl, by rw [Array.empty_append]; exact g⟩)
      · exact .inl (kept b o z e)
    · by_cases z : b ∈ cs.map (·.2)
      · obtain ⟨p, m, rfl⟩ := List.mem_map.mp z
        obtain ⟨l, g⟩ := more p m
        exact ⟨_, g⟩
      · exact ⟨o, kept b o z e⟩
end
end GS
/-! The end of a law's row whose def is proved where nothing is being shown. -/
namespace GS
open PySem PySem.Spec PyProof.Rows L2 LamX
theorem none_out {P : Program} {w : World} {H : Hp} {s s' : Shared} {e : Value} (c : L2.CX P w [] H s (fun _ _ _ => False) e s') : False := by
  obtain ⟨a, B, H', cls, d, -, -, -, -, -, -, -, z⟩ := c
  exact z
/-- the end: the script's bits are told, no guard stands, cs are the code objects with a table (none where the law makes no lambda) -/
theorem end_show {l : PySem.W.OpenLaw} {k n : Nat} {q : Program} {loose : List PySem.Str} {XP : (PySem.Str → Option Value) → Heap → Prop} {YP : World → Heap → Prop} {d : DefRec} {x : PySem.Str} (most : l.most = some n) (line : n ≤ sizeLine) (plain : d.params.defaults = []) (room : Room k callerA)
    (F : ∀ (w : World) (mg : PySem.Str → Option Value) (fa : Addr) (h : Heap), YP w h → h.Ns mainGlobals mg → mg d.name = some (.ref fa) → ∃ (K : PySem.W.Frag) (fd : FuncData) (cs : List (Addr × Addr)) (sp : Sp), K.In h ∧
      (∀ p ∈ cs, h.get? p.2 = some { cls := .none, data := .fields #[] }) ∧ (∀ p ∈ cs, K.lookup p.2 = none) ∧ (∀ p ∈ cs, PySem.W.CodeHd h p.1 p.2) ∧ (∀ (s : Shared) (u : Value), BindsTo s fd ⟨[u], []⟩ [(x, u)]) ∧
      (∀ (H : Hp) (a : Addr) (ns : List Int), ns.length ≤ n → (∀ z ∈ ns, Builtin.Int.intBits z ≤ 1048576) → (∀ p ∈ cs, H p.2 = some (.tbl #[])) → SqL K H a (ns.map V.int) → sp [.ref a] H (fun v _ => v = .bl true) fun _ _ _ => False) ∧
      ∀ base : Heap, K.In base → base.Ns mainGlobals mg → (∀ p ∈ cs, TabB base mg p.1 p.2) → FnG l.prog w K mg base (L2.CX l.prog w) k fa fd [x] sp) :
    PySem.W.WalkO q loose XP YP l.row.toRowW d [] (fun f vs => PySem.call f vs) := by
  refine Att.attach_callB most plain fun w s₀ s₁ mg mb fa o pm cd doc a vs ns Gr Yp _ _ _ named there numb short bits gens => ?_
  obtain ⟨K, fd, cs, sp, KX, tabs, notK, codes, binds, goes, ok⟩ := F w mg fa _ Yp Gr.T.g named
  obtain ⟨H, base, ht, hs, inK, ns', tb, e0, ends⟩ := scene (P := l.prog) (w := w) KX Gr.T.g Gr.T.b Gr.T.builtins Gr.T.nolimit gens tabs notK codes (fun _ => Gr.T.bmain) there numb (Nat.le_trans short line)
  refine codeAny_mono ((ok base inK ns' tb).goes callerA rfl room [] s₁ H ⟨[.ref a], []⟩ [.ref a] [.ref a] _ _ e0 (binds s₁ (.ref a)) (.cons rfl .nil) (goes H a ns short bits ht hs)) fun r s' z => ?_
  match r, z with
  | .error e, z => exact (none_out z).elim
  | .ok (.ret u), z =>
    obtain ⟨ru, r2⟩ := ends u s' z
    exact ⟨by rw [ru], r2⟩
  | .ok .next, z => exact False.elim z
  | .ok .brk, z => exact False.elim z
  | .ok .cont, z => exact False.elim z
end GS
/-! A text times an integer; sorted(..), tuple(..) within a comprehension. -/
namespace GS
open PySem PySem.Spec PyProof.Rows L2
def rMulS : V → V → Hp → VK → Prop := fun x y H Q => ∃ (z : PySem.Str) (n : Int), x = .str z ∧ y = .int n ∧ MulOk z n ∧ Q (.str (Txt.mul z n)) H
theorem op_mulS {X : Cx} : OpR X (binaryOp .Mult) rMulS := by
  intro pins s σ H x y v u Q I rx ry h
  obtain ⟨z, n, rfl, rfl, ok, q⟩ := h
  obtain ⟨t, rfl⟩ := rx
  obtain ⟨t', rfl⟩ := ry
  exact SB.mul ok fun t' k => ⟨.str _, H, I.tok _, ⟨_, rfl⟩, q⟩
theorem mulOk_small {z : PySem.Str} {n : Int} (h0 : 1 ≤ n) (h1 : n ≤ 100000) (h2 : z.length ≤ 100) : MulOk z n := by
  refine ⟨?_, fun _ _ => ?_, fun _ _ => ?_⟩
  · rw [decide_eq_false (by omega), decide_eq_false (by omega)]; rfl
  · have : (100 : Int) ≤ (2 ^ 63 - 1) / n := by
      rw [Int.le_ediv_iff_mul_le (by omega)]
      omega
    omega
  · have e : n.toNat ≤ 100000 := by omega
    have : z.length * n.toNat ≤ 100 * 100000 := Nat.mul_le_mul h2 e
    unfold Builtin.Str.tooLong
    simp
    have : (100 * 100000 : Nat) ≤ sizeLine := by decide
    omega
theorem kx_tupOf {X : Cx} {K : PySem.W.Frag} (h : X.K = K) : CallR X (.type "tuple") (fun xs H Q => ∃ p ys, xs = [.ref p] ∧ ((SqL K H p ys ∧ ∀ l, H l = none → Q (.ref l) (upd H l (.tup ys))) ∨ (SqT K H p ys ∧ Q (.ref p) H))) := by subst h; exact call_tuple_of
theorem kx_sortI {X : Cx} {K : PySem.W.Frag} (h : X.K = K) : CallR X (.builtin "sorted") (rSortedI K) := by subst h; exact cr_sortedI
end GS
/-! sum, factorial, comb; xs[k::-1]; two ways of a call. -/
namespace GS
open PySem PySem.Spec PyProof.Rows L2
theorem kx_sum {X : Cx} {K : PySem.W.Frag} (h : X.K = K) (hc : X.calm = true) : CallR X (.builtin "sum") (rSum K) := by subst h; exact cr_sum hc
theorem kx_max {X : Cx} {K : PySem.W.Frag} (h : X.K = K) (hc : X.calm = true) : CallR X (.builtin "max") (rMax K) := by subst h; exact cr_max hc
theorem kx_piseq {X : Cx} {K : PySem.W.Frag} (h : X.K = K) {tg l : Expr} {tl : TE} (hl : PE X l tl) : PI X tg l (iSeq K tl) := by subst h; exact pi_seq hl
theorem kx_pilist {X : Cx} {K : PySem.W.Frag} (h : X.K = K) {tg l : Expr} {tl : TE} (hl : PE X l tl) : PI X tg l (iList K tl) := by subst h; exact pi_list hl
theorem kx_pitup {X : Cx} {K : PySem.W.Frag} (h : X.K = K) {tg l : Expr} {tl : TE} (hl : PE X l tl) : PI X tg l (iTup K tl) := by subst h; exact pi_tup hl
def rFac : List V → Hp → VK → Prop := fun vs H Q => ∃ n : Nat, vs = [.int n] ∧ n ≤ 20000 ∧ Q (.int (Builtin.Math.factorialNat n : Nat)) H
theorem cr_fac {X : Cx} : CallR X (.builtin "math.factorial") rFac := by
  intro pins s σ H vs us Q I r h
  obtain ⟨n, rfl, hn, q⟩ := h
  obtain ⟨t, rfl⟩ : ∃ t, us = [.int (n : Int) t] := by
    cases r with
    | cons a b => cases b; obtain ⟨t, rfl⟩ := a; exact ⟨t, rfl⟩
  refine PySem.W.mc_factorial (by omega) (by omega) fun _ => ⟨.int _, H, I.tok _, ⟨_, rfl⟩, ?_⟩
  rw [Int.toNat_natCast]
  exact q
def rComb : List V → Hp → VK → Prop := fun vs H Q => ∃ a b : Int, vs = [.int a, .int b] ∧ 0 ≤ a ∧ 0 ≤ b ∧ a ≤ 18000 ∧ Q (.int (PySem.W.mcComb a b)) H
theorem cr_comb {X : Cx} : CallR X (.builtin "math.comb") rComb := by
  intro pins s σ H vs us Q I r h
  obtain ⟨a, b, rfl, h1, h2, h3, q⟩ := h
  obtain ⟨t, u, rfl⟩ := Vals.int2 r
  exact PySem.W.mc_comb h1 h2 (by omega) (.inr h3) fun _ => ⟨.int _, H, I.tok _, ⟨_, rfl⟩, q⟩
/-- a call that goes one of two ways -/
theorem cr_two {X : Cx} {f : Value} {r1 r2 : List V → Hp → VK → Prop} (h1 : CallR X f r1) (h2 : CallR X f r2) : CallR X f (fun xs H Q => r1 xs H Q ∨ r2 xs H Q) := by
  intro pins s σ H vs us Q I r h
  rcases h with h | h
  · exact h1 pins s σ H vs us Q I r h
  · exact h2 pins s σ H vs us Q I r h
theorem rev_bounds (n m : Nat) : sliceBounds (some (n : Int)) none (some (-1)) m = (((min (n + 1) m : Nat) : Int) - 1, -1, -1) := by
  unfold sliceBounds
  simp
  omega
theorem rev_pick (items : Array Value) (n : Nat) : slicePick items (some (n : Int)) none (some (-1)) = (items.toList.take (n + 1)).reverse.toArray := by
  unfold slicePick
  rw [rev_bounds]
  show ((sliceRange (((min (n + 1) items.size : Nat) : Int) - 1) (-1) (-1)).filterMap (items[·]?)).toArray = _
  rw [PySem.W.krv_sliceRange, PySem.W.krv_range, List.filterMap_reverse]
  congr 2
  have h := PySem.W.krv_all ((items.toList.take (n + 1)).toArray)
  simp only [List.size_toArray, List.length_take, Array.length_toList] at h
  rw [show items.size = items.toList.length from rfl] at h ⊢
  rw [← h]
  have key : ∀ (l : List Nat), (∀ i ∈ l, i < min (n + 1) items.toList.length) → l.filterMap (items[·]?) = l.filterMap ((items.toList.take (n + 1)).toArray[·]?) := by
    intro l
    induction l with
    | nil => intro _; rfl
    | cons i l ih =>
      intro hl
      have hi := hl i (by simp)
      have e : items[i]? = (items.toList.take (n + 1)).toArray[i]? := by
        have hn : i < n + 1 := by omega
        simp [List.getElem?_take, hn]
      rw [List.filterMap_cons, List.filterMap_cons, e, ih fun k hk => hl k (by simp [hk])]
  exact key _ fun i hi => List.mem_range.mp hi
def tRevF (K : PySem.W.Frag) (te tl : TE) : TE := fun σ H Q => te σ H fun x H1 => tl σ H1 fun i H2 => ∃ z : Int, i = .int z ∧ ∃ (a : Addr) (xs : List V) (n : Nat), x = .ref a ∧ z = n ∧ SqL K H2 a xs ∧ ∀ p, H2 p = none → Q (.ref p) (upd H2 p (.lst (xs.take (n + 1)).reverse))
theorem r_revF {K : PySem.W.Frag} {te tl : TE} {σ : L2.St} {H : Hp} {Q : VK} (q : te σ H fun x H1 => tl σ H1 fun i H2 => ∃ z : Int, i = .int z ∧ ∃ (a : Addr) (xs : List V) (n : Nat), x = .ref a ∧ z = n ∧ SqL K H2 a xs ∧ ∀ p, H2 p = none → Q (.ref p) (upd H2 p (.lst (xs.take (n + 1)).reverse))) : tRevF K te tl σ H Q := q
theorem pe_revF {X : Cx} {K : PySem.W.Frag} (hK : X.K = K) {e lo : Expr} {te tl : TE} {k : Nat} {p1 p2 p3 pos : Pos} (he : PE X e te) (hl : PE X lo tl) : PE X (.Subscript e (.Slice (some lo) none (some (.UnaryOp .USub (.Constant (.int 1) k p1) p2)) p3) pos) (tRevF K te tl) := by
  subst hK
  refine ⟨fun pins s σ H Q I h => ?_⟩
  refine Subscript_ (thn (he.run pins s σ H _ I h) fun v s1 ⟨x, H1, I1, r1, q1⟩ => ?_)
  have hst : PO X (some (.UnaryOp .USub (.Constant (.int 1) k p1) p2)) (tPart (tUn (rU fun i => .int (-i)) (tC (.int 1)))) := po_some (pe_un un_neg pe_int)
  have hlo := po_some hl
  refine wpAny_Slice (thn (hlo.run pins s1 σ H1 (fun o H2 => ∃ (a : Addr) (xs : List V) (n : Nat), x = .ref a ∧ o = some (n : Int) ∧ SqL X.K H2 a xs ∧ ∀ p, H2 p = none → Q (.ref p) (upd H2 p (.lst (xs.take (n + 1)).reverse))) I1 ?_) fun vl s2 ⟨l, H2, I2, pl, el⟩ => ?_)
  · have e : (fun (i : V) (H2 : Hp) => ∃ z : Int, i = .int z ∧ ∃ (a : Addr) (xs : List V) (n : Nat), x = .ref a ∧ z = n ∧ SqL X.K H2 a xs ∧ ∀ p, H2 p = none → Q (.ref p) (upd H2 p (.lst (xs.take (n + 1)).reverse)))
        = fun (i : V) (H2 : Hp) => ∃ z : Int, i = .int z ∧ ∃ (a : Addr) (xs : List V) (n : Nat), x = .ref a ∧ some z = some (n : Int) ∧ SqL X.K H2 a xs ∧ ∀ p, H2 p = none → Q (.ref p) (upd H2 p (.lst (xs.take (n + 1)).reverse)) := by
      simp only [Option.some.injEq]
    show tl σ H1 _
    rw [← e]
    exact q1
  obtain ⟨a, xs, n, ex, eo, hx, q⟩ := el
  subst ex eo
  cases r1
  refine thn (po_none.run pins s2 σ H2 (fun o H3 => o = none ∧ H3 = H2) I2 ⟨rfl, rfl⟩) fun vu s3 ⟨u, H3, I3, pu, eu, e3⟩ => ?_
  subst eu e3
  refine thn (hst.run pins s3 σ H3 (fun o H4 => o = some (-1) ∧ H4 = H3) I3 ⟨1, rfl, -1, rfl, rfl, rfl⟩) fun vs s4 ⟨o, H4, I4, ps, eo, e4⟩ => ?_
  subst eo e4
  have I5 : Inv X pins σ H4 { s4 with heap := s4.heap.push { cls := .type "slice", data := .fields #[vl, vu, vs] } } := I4.kept (t' := s4.toks) fun b ob q => Heap.get?_push_of_some _ q
  obtain ⟨its, r, ht, hz⟩ := I5.list hx
  have hlen := r.length
  show wpAny (model X.prog X.w) X.A (subscriptTail e (.Slice (some lo) none (some (.UnaryOp .USub (.Constant (.int 1) k p1) p2)) p3) (.ref a) (.ref s4.heap.objs.size)) (EP X pins σ Q) X.xe { s4 with heap := s4.heap.push { cls := .type "slice", data := .fields #[vl, vu, vs] } }
  refine tail_any (ops := [.ref a, .ref s4.heap.objs.size]) ht.isList.typeIs (PySem.slot_list_getitem.lookup) ?_ (by with_unfolding_all rfl)
  refine wpAny_getItem_list_slice ht.isList (Heap.IsSliceOf.new _ vl vu vs) pl pu ps (by decide) ?_ (by rw [List.size_toArray]; omega)
  rw [rev_pick]
  refine ⟨.ref _, _, I5.laid (t' := s4.toks) (o := .lst (xs.take (n + 1)).reverse) (fun b ob q => Heap.get?_push_of_some _ q) (Nat.le_refl _) ?_, rfl, q _ (I5.hok.fresh (Nat.le_refl _))⟩
  exact ⟨by rw [List.length_reverse, List.length_take]; omega, _, 0, (r.take (n + 1)).reverse, Heap.get?_push_size _ rfl⟩
end GS
/-! An error kept behind its suite; isinstance and fields of it. -/
namespace GS
open PySem PySem.Spec PySem.Calls PyProof.Rows L2 TL
/-- an error that was caught and kept: its class, its dict -/
def ErrO (a : Addr) (cls : Value) (d : Option Addr) : HO := .ext fun h => ∃ oe, h.get? a = some oe ∧ Zc cls d oe ∧ ∃ vs, oe.data = .fields vs
theorem errO_ok {P : Program} {w : World} {H : Hp} {h : Heap} {a : Addr} {cls : Value} {d : Option Addr} {oe : Obj} {vs : Array Value} (e : h.get? a = some oe) (z : Zc cls d oe) (f : oe.data = .fields vs) : ObjOk P w H h a (ErrO a cls d) :=
  ⟨⟨oe, e, z, vs, f⟩, ⟨oe, e⟩, fun _ _ ⟨o, q, r⟩ k => ⟨o, k o q, r⟩⟩
section
variable {X : Cx} {pins : List (Addr × Obj)} {σ : L2.St} {H : Hp} {s sI : Shared} {a : Addr} {B : Heap} {cls : Value} {d : Option Addr} {D : Ends} {Wout : WX}
/-- an object that lay outside is tracked from now on -/
theorem Inv.track {φ : Heap → Prop} (I : Inv X pins σ H s) (n0 : X.s_0.heap.get? a = none) (na : H a = none) (nL : a ≠ X.env.locals) (nC : ∀ x c, X.env.cells.lookup x = some c → c ≠ a) (nP : ∀ p ∈ X.pn ++ pins, p.1 ≠ a) (new : ObjOk X.prog X.w (upd H a (.ext φ)) s.heap a (.ext φ)) :
    Inv X pins σ (upd H a (.ext φ)) s := by
  refine ⟨I.ok, I.os, I.bare, ⟨I.base.keep, I.base.slot, fun b o e n hx => ?_, I.base.there, fun b xs e => ?_, fun b o u e => ?_, fun b ps e => ?_⟩, I.loc, I.cell, ?_, fun x c e => ?_, fun p hp => ?_, fun b u e => ?_, I.len⟩
  · rw [upd_ne (fun z => by rw [z, n0] at e; cases e)]
    exact I.base.free b o e n hx
  · have q := I.base.tups b xs e
    rw [upd_ne (ne_of_none q na)]
    exact q
  · have q := I.base.frzs b o u e
    rw [upd_ne (ne_of_none q na)]
    exact q
  · obtain ⟨m, q⟩ := I.base.tbls b ps e
    exact ⟨m, by rw [upd_ne (ne_of_none q na)]; exact q⟩
  · rw [upd_ne (Ne.symm nL)]
    exact I.free
  · rw [upd_ne (nC x c e)]
    exact I.freeC x c e
  · obtain ⟨h1, h2, h3⟩ := I.pin p hp
    exact ⟨h1, by rw [upd_ne (nP p hp)]; exact h2, h3⟩
  · by_cases hb : b = a
    · subst hb
      rw [upd_same] at e
      cases e
      exact new
    · rw [upd_ne hb] at e
      exact (I.hok b u e).stay (fun c v _ q => q) (fun c q => by rw [upd_ne (ne_of_none q na)]; exact q) fun c xs q => by rw [upd_ne (ne_of_none q na)]; exact q
theorem Caught.off2 (c : Caught X pins σ H a B cls d sI s) (hst : X.stack = X.env :: X.outer) : ∀ b ∈ frs X.stack, b ≠ a := fun b hb z => by
  obtain ⟨oe, vs, e1, _, e3⟩ := c.fl.there
  rw [hst] at hb
  obtain ⟨_, o, ho, hnf⟩ := c.fl.2.2.1.mem hb
  rw [z, e1] at ho
  exact hnf vs (by rw [← Option.some.inj ho]; exact e3)
theorem Caught.out (c : Caught X pins σ H a B cls d sI s) (hst : X.stack = X.env :: X.outer) (hx : X.ex = []) : X.s_0.heap.get? a = none := by
  have nb : B.get? a = none := c.fl.2.1
  cases e : X.s_0.heap.get? a with
  | none => rfl
  | some o =>
    obtain ⟨o', q⟩ := c.inv.base.there a o e (by rw [hx]; exact fun z => nomatch z)
    have z := c.nb a o' q (fun h => c.off2 hst a h rfl)
    rw [nb] at z
    cases z
theorem Caught.pins_ne (c : Caught X pins σ H a B cls d sI s) (hst : X.stack = X.env :: X.outer) : ∀ p ∈ X.pn ++ pins, p.1 ≠ a := fun p hp z => by
  obtain ⟨h1, h2, h3, h4, h5⟩ := c.inv.pin p hp
  have nb : B.get? a = none := c.fl.2.1
  have q := c.nb p.1 p.2 h1 (fun h => c.off2 hst _ h z)
  rw [z, nb] at q
  cases q
/-- the ends of a suite whose error is kept: its name i goes -/
def asEndsK (i : Nat) (a : Addr) (cls : Value) (d : Option Addr) (D : Ends) : Ends := { nx := fun σ' H' => H' a = none → D.nx (σ'.set i none) (upd H' a (ErrO a cls d)), rt := D.rt, bk := fun σ' H' => D.bk (σ'.set i none) H', ct := fun σ' H' => D.ct (σ'.set i none) H' }
def wKeep (K : PySem.W.Frag) (Wout : WX) (D : Ends) (cs : List Value) (i : Nat) (ts : Addr → Value → Option Addr → TS) : WX := fun cls d σ H => ∃ b, PySem.W.exmAny K cls cs = some b ∧ (b = true → ∀ a, H a = none → ts a cls d (asEndsK i a cls d D) (σ.set i (some (.ref a))) H) ∧ (b = false → Wout cls d σ H)
theorem keep_clause {t : Expr} {n : Str} {cs : List Value} {ts : Addr → Value → Option Addr → TS} {st : Stmt} {sts : List Stmt} {pos' : Pos} {i : Nat} (hc : MTest X t cs) (hN : X.N.Nodup) (hi : X.N[i]? = some n) (hln : X.env.kindOf n = some .local)
    (su : ∀ (a : Addr) (oe : Obj) (cls : Value) (d : Option Addr) (pn : List (Addr × Obj)), Zc cls d oe → (∃ vs, oe.data = .fields vs) → PSs (X.suite a ((a, oe) :: pn)) (st :: sts) (ts a cls d))
    (hst : X.stack = X.env :: X.outer) (hf : X.env.frame = some X.env.locals) (hx : X.ex = []) (tk : Takes X Wout)
    {s : Shared} (c : Caught X pins σ H a B cls d sI s) (w : wKeep X.K Wout D cs i ts cls d σ H) : wpAny (model X.prog X.w) X.A (handleBy (.ref a) X.env [.ExceptHandler (some t) (some n) (st :: sts) pos']) (SP X pins D) X.xe s := by
  obtain ⟨b, hb1, hyes, hno⟩ := w
  refine wpAny_handleBy_cons (codeAny_handlers_test ?_) (by intro q; cases q)
  refine mtest c hf hc hb1 fun s c => ?_
  cases b with
  | false => exact mclauses .nil hst hf tk c (hno rfl)
  | true =>
    refine codeAny_handlers_suite_as (c.again fun s4 c4 => ?_)
    obtain ⟨oe, z1, z2, S⟩ := c4.suite (M := model X.prog X.w) hf
    have ok := c4.here.ok
    have n0 := c4.out hst hx
    have nP := c4.pins_ne hst
    refine store_ok (X := X.suite a ((a, oe) :: (X.pn ++ pins))) (v := .ref a) S hN hi (.inl hln) rfl (fun s5 S5 => ?_) (.inr hln)
    have fin : ∀ {σ6 : L2.St} {H6 : Hp} {s6 : Shared}, Inv (X.suite a ((a, oe) :: (X.pn ++ pins))) [] σ6 H6 s6 → H6 a = none ∧ Inv X pins σ6 (upd H6 a (ErrO a cls d)) s6 := fun {σ6 H6 s6} S6 => by
      obtain ⟨h1, h2, h3, h4, h5⟩ := S6.pin (a, oe) (List.mem_append_left _ List.mem_cons_self)
      have J := S6.unsuite ok
      obtain ⟨vs, hv⟩ := z2
      refine ⟨h2, Inv.track J n0 h2 h3 (fun x c e q => ?_) nP (errO_ok h1 z1 hv)⟩
      obtain ⟨v, oc, ho, hd⟩ := J.cell x c e
      rw [q, h1] at ho
      cases ho
      exact h5 v hd
    refine wpAny_mono ((su a oe cls d (X.pn ++ pins) z1 z2).run [] s5 _ H (asEndsK i a cls d D) S5 (hyes rfl a c.na)) (fun f s6 hsp => ?_) (fun _ _ z => False.elim z)
    cases f with
    | next => exact let ⟨σ6, H6, S6, q6⟩ := hsp; gone_ok (fin S6).2 hN hi hln fun s7 J7 => ⟨_, _, J7, q6 (fin S6).1⟩
    | brk => exact let ⟨σ6, H6, S6, q6⟩ := hsp; gone_ok (S6.unsuite ok) hN hi hln fun s7 J7 => ⟨_, _, J7, q6⟩
    | cont => exact let ⟨σ6, H6, S6, q6⟩ := hsp; gone_ok (S6.unsuite ok) hN hi hln fun s7 J7 => ⟨_, _, J7, q6⟩
    | ret u => exact let ⟨v6, σ6, H6, S6, r6, q6⟩ := hsp; gone_ok (S6.unsuite ok) hN hi hln fun s7 J7 => ⟨_, _, _, J7, r6, q6⟩
/-- THE RULE: try: .. except A as x: .., x kept -/
theorem ps_try_keep {body : List Stmt} {t : Expr} {n : Str} {cs : List Value} {ts : Addr → Value → Option Addr → TS} {st : Stmt} {sts : List Stmt} {pos' pos : Pos} {i : Nat} {tb : WX → TS} (hst : X.stack = X.env :: X.outer) (hf : X.env.frame = some X.env.locals) (hx : X.ex = []) (tk : Takes X Wout)
    (hb : ∀ (W : WX) (pn : List (Addr × Obj)) (xe : Value → Shared → Prop), Takes (X.tr pn xe) W → PassesOwn (model X.prog X.w) X.A X.env xe → PSs (X.tr pn xe) body (tb W)) (hc : MTest X t cs) (hN : X.N.Nodup) (hi : X.N[i]? = some n) (hln : X.env.kindOf n = some .local)
    (su : ∀ (a : Addr) (oe : Obj) (cls : Value) (d : Option Addr) (pn : List (Addr × Obj)), Zc cls d oe → (∃ vs, oe.data = .fields vs) → PSs (X.suite a ((a, oe) :: pn)) (st :: sts) (ts a cls d)) :
    PS X (.Try body [.ExceptHandler (some t) (some n) (st :: sts) pos'] [] [] pos) (fun D σ H => tb (wKeep X.K Wout D cs i ts) D σ H) := by
  refine ⟨fun pins s σ H D I h => wpAny_Try_except ?_⟩
  have ok := I.ok
  have fr : X.A.frames = some (X.env :: X.outer) := by rw [ok.frames, hst]
  have B0 := hb (wKeep X.K Wout D cs i ts) (X.pn ++ pins) (fun e s₁ => wpAny (model X.prog X.w) X.A (noteFrame e X.env) (fun _ s₂ => wpAny (model X.prog X.w) X.A (setFlight e none) (fun _ s₃ => wpAny (model X.prog X.w) X.A (handleBy e X.env [.ExceptHandler (some t) (some n) (st :: sts) pos']) (SP X pins D) X.xe s₃) X.xe s₂) X.xe s₁)
    (fun u s' xx => by
      obtain ⟨a, B, sI, pins', σ', H', cls, d, rfl, J', nb, up, sky, na, os, ag, w⟩ := xx
      refine Sky.land Zc.steady fr hf (show Sky B (X.env :: X.outer) a (Zc cls d) X.env.locals s'.heap by rw [← hst]; exact sky) fun h3 fl3 up3 => ?_
      exact keep_clause hc hN hi hln su hst hf hx tk ⟨J'.ofTry ok, nb, up.trans up3, na, os, ag, fl3⟩ w) PassesOwn.looking
  refine wpAny_mono (B0.run [] s σ H D (I.toTry _) h) (fun f s1 hsp => ?_) (fun _ _ z => z)
  cases f with
  | next => exact let ⟨σ', H', J', q⟩ := hsp; wpAny_execs_nil ⟨σ', H', J'.ofTry ok, q⟩
  | brk => exact let ⟨σ', H', J', q⟩ := hsp; ⟨σ', H', J'.ofTry ok, q⟩
  | cont => exact let ⟨σ', H', J', q⟩ := hsp; ⟨σ', H', J'.ofTry ok, q⟩
  | ret u => exact let ⟨v, σ', H', J', r, q⟩ := hsp; ⟨v, σ', H', J'.ofTry ok, r, q⟩
end
/-! isinstance and fields of an error that is kept -/
section
variable {X : Cx} {pins : List (Addr × Obj)} {σ : L2.St} {H : Hp} {s : Shared} {a : Addr}
theorem inst_kept {C dd : Addr} {fs : List (Str × V)} (I : Inv X pins σ H s) (he : H a = some (ErrO a (.ref C) (some dd))) (there : H dd = some (.xd fs)) :
    ∃ oe od, PySem.W.InstAt s.heap a oe C (some od) ∧ ∀ n v, fs.lookup n = some v → ∃ u, RelV v u ∧ PySem.W.lookIn n od = some (some u) := by
  obtain ⟨mA, hns, hr⟩ := (show ObjOk X.prog X.w H s.heap dd (.xd fs) from I.hok dd _ there)
  obtain ⟨od, ho, hl⟩ := lookIn_ns hns
  obtain ⟨⟨oe, ha, hz, vs, hd⟩, _, _⟩ := (show ObjOk X.prog X.w H s.heap a (ErrO a (.ref C) (some dd)) from I.hok a _ he)
  have plain : PySem.W.notCls oe := by
    unfold PySem.W.notCls
    rw [hd]
  refine ⟨oe, od, ⟨ha, hz.1, plain, by rw [hz.2]; exact ho⟩, fun n v hv => ?_⟩
  obtain ⟨u, hu, ru⟩ := RelO.some_of (v := v) (o := mA n) (by rw [← hv]; exact hr n)
  exact ⟨u, ru, by rw [hl, hu]⟩
def rIsO (K : PySem.W.Frag) : List V → Hp → VK → Prop := fun xs H Q => ∃ (a : Addr) (c : V) (cv : Value) (b : Bool) (C dd : Addr) (fs : List (Str × V)), xs = [.ref a, c] ∧ (∀ u, RelV c u → u = cv) ∧ H a = some (ErrO a (.ref C) (some dd)) ∧ ExcC K C ∧ PySem.W.kitOne K (.ref C) cv = some b ∧ H dd = some (.xd fs) ∧ Q (.bl b) H
theorem cr_isO {K : PySem.W.Frag} (hk : X.K = K) : CallR X (.builtin "isinstance") (rIsO K) := by
  subst hk
  intro pins s σ H xs us Q I r got
  obtain ⟨a, c, cv, b, C, dd, fs, rfl, only, he, ec, e, there, q⟩ := got
  obtain ⟨u1, u2, rfl, r1, r2⟩ := vals2 r
  cases r1
  rw [only _ r2]
  obtain ⟨oe, od, i, _⟩ := inst_kept I he there
  exact PySem.W.kia_one (kit_err ec) I.kIn i e (fun z => nomatch z) fun tk => ⟨.bl b, H, I.kept (t' := tk) fun _ _ z => z, rfl, q⟩
def rIsOT (K : PySem.W.Frag) : List V → Hp → VK → Prop := fun xs H Q => ∃ (a tp : Addr) (cs : List V) (us : List Value) (b : Bool) (C dd : Addr) (fs : List (Str × V)), xs = [.ref a, .ref tp] ∧ H tp = some (.tup cs) ∧ Paired ClsV cs us ∧ H a = some (ErrO a (.ref C) (some dd)) ∧ ExcC K C ∧ PySem.W.kitAny K (.ref C) us = some b ∧ H dd = some (.xd fs) ∧ Q (.bl b) H
theorem cr_isOT {K : PySem.W.Frag} (hk : X.K = K) : CallR X (.builtin "isinstance") (rIsOT K) := by
  subst hk
  intro pins s σ H xs us Q I r got
  obtain ⟨a, tp, cs, ws, b, C, dd, fs, rfl, hT, k, he, ec, e, there, q⟩ := got
  obtain ⟨u1, u2, rfl, r1, r2⟩ := vals2 r
  cases r1
  cases (show u2 = Value.ref tp from r2)
  obtain ⟨oe, od, i, _⟩ := inst_kept I he there
  obtain ⟨_, its, rv, o, h1, h2, n, h3⟩ := (show ObjOk X.prog X.w H s.heap tp (.tup cs) from I.hok tp _ hT)
  have e3 := ClsV.all k rv
  subst e3
  obtain ⟨oc, od', dt, sl⟩ := o
  simp only at h2 h3
  subst h2 h3
  exact PySem.W.kia_tup (kit_err ec) I.kIn i h1 e (fun z => nomatch z) fun tk => ⟨.bl b, H, I.tok tk, rfl, q⟩
def tXO (K : PySem.W.Frag) (n : Str) (te : TE) : TE := fun σ H Q => te σ H fun x H1 => ∃ (a C dd : Addr) (fs : List (Str × V)) (v : V), x = .ref a ∧ H1 a = some (ErrO a (.ref C) (some dd)) ∧ XfC K C ∧ PySem.W.findIn K (.ref C) n = some none ∧ H1 dd = some (.xd fs) ∧ fs.lookup n = some v ∧ Q v H1
theorem pe_xO {K : PySem.W.Frag} {e : Expr} {te : TE} {pos : Pos} {n : Str} (hk : X.K = K) (he : PE X e te) (plain : attributeBase e n X.env (eval e X.env) = eval e X.env := by rfl) : PE X (.Attribute e n pos) (tXO K n te) := by
  subst hk
  refine ⟨fun pins s σ H Q I h => attr_of plain (thn (he.run pins s σ H _ I h) fun u s1 got => ?_)⟩
  obtain ⟨x, H1, I1, rx, a, C, dd, fs, v, rfl, hea, T, no_, there, l, q⟩ := got
  obtain rfl : u = Value.ref a := rx
  obtain ⟨oe, od, i, fields⟩ := inst_kept I1 hea there
  obtain ⟨u, ru, hu⟩ := fields n v l
  exact PySem.HandSPX.exc_get I1.kIn i T.ga T.gg T.exC (PySem.W.findObj_own T.hdC no_ rfl hu) (handed_of ru) ⟨v, H1, I1.tok _, ru, q⟩
end
end GS
/-! The head's facts with tables of code objects; defs that make lambdas; a def that calls what it got. -/
namespace GS
open PySem PySem.W PySem.Calls PyProof.Rows He
/-- what the head tells, the tables of the defs tf left out of the written part: empty -/
structure SaysL (fa : List He.Fa) (ex : List Chk) (fn : List He5.DefA) (tf : List Defn) (h : Heap) (K : PySem.W.Frag) : Prop where
  m : SaysM fa ex fn K
  hd : ∀ p ∈ tf, PySem.W.codeHdIn K (cT K p).1 (cT K p).2 = true
  out : ∀ p ∈ tf, K.lookup (cT K p).2 = none
  empty : ∀ p ∈ tf, h.get? (cT K p).2 = some { cls := .none, data := .fields #[] }
def obsLG (n : Nat) (fa : List He.Fa) (ex : List Chk) (fn : List He5.DefA) (tf : List Defn) (g : Addr → Option Obj) : He.AlD × Bool := (obsM fa ex fn (frT g (He5.asA g n)), tabsB g tf (frT g (He5.asA g n)))
theorem saysL_of {n : Nat} {fa : List He.Fa} {ex : List Chk} {fn : List He5.DefA} {tf : List Defn} {h : Heap} (e : obsLG n fa ex fn tf h.get? = (He5.valA fn, true)) : SaysL fa ex fn tf h (frT h.get? (He5.asA h.get? n)) := by
  have e1 : obsM fa ex fn (frT h.get? (He5.asA h.get? n)) = He5.valA fn := congrArg (fun z : He.AlD × Bool => z.1) e
  have h2 : tabsB h.get? tf (frT h.get? (He5.asA h.get? n)) = true := congrArg (fun z : He.AlD × Bool => z.2) e
  have key : ∀ p ∈ tf, PySem.W.codeHdIn (frT h.get? (He5.asA h.get? n)) (cT (frT h.get? (He5.asA h.get? n)) p).1 (cT (frT h.get? (He5.asA h.get? n)) p).2 = true ∧ ∃ o, h.get? (cT (frT h.get? (He5.asA h.get? n)) p).2 = some o ∧ emptyTab o = true := fun p hp => by
    obtain ⟨h3, h4⟩ := ba (List.all_eq_true.mp h2 p hp)
    refine ⟨h3, ?_⟩
    cases q : h.get? (cT (frT h.get? (He5.asA h.get? n)) p).2 with
    | none =>
      rw [q] at h4
      cases h4
    | some o =>
      rw [q] at h4
      exact ⟨o, rfl, h4⟩
  exact ⟨e1, fun p hp => (key p hp).1, fun p hp => by
    obtain ⟨_, o, q, z⟩ := key p hp
    exact frT_none q z, fun p hp => by
    obtain ⟨_, o, q, z⟩ := key p hp
    rw [q, emptyTab_eq z]⟩
def hookL (n : Nat) (fa : List He.Fa) (ex : List Chk) (fn : List He5.DefA) (tf : List Defn) : PySem.W.Hook where
  α := He.AlD × Bool
  obs s := obsLG n fa ex fn tf s.heap.get?
  val _ := (He5.valA fn, true)
  says _ h := ∃ K : PySem.W.Frag, K.In h ∧ SaysL fa ex fn tf h K
  of _ _ e := ⟨_, frT_in, saysL_of e⟩
  keeps := fun _ _ _ ⟨K, i, c⟩ k => ⟨K, Frag.In.keeps i k, ⟨c.m, c.hd, c.out, fun p hp => k _ _ (c.empty p hp)⟩⟩
theorem obsLG_eq {n : Nat} {fa : List He.Fa} {ex : List Chk} {fn : List He5.DefA} {tf : List Defn} {g : Addr → Option Obj} {s : Shared} (h : ∀ a, g a = s.heap.get? a) : obsLG n fa ex fn tf g = (hookL n fa ex fn tf).obs s := by
  obtain rfl : g = s.heap.get? := funext h
  rfl
theorem SaysL.code {fa : List He.Fa} {ex : List Chk} {fn : List He5.DefA} {tf : List Defn} {h : Heap} {K : PySem.W.Frag} (X : K.In h) (c : SaysL fa ex fn tf h K) : ∀ p ∈ tf, PySem.W.CodeHd h (cT K p).1 (cT K p).2 := fun p hp => codeHd_of_K X (c.hd p hp)
end GS
namespace GS
open PySem PySem.Spec PyProof.Rows L2 LamX
/-- a def whose code object is told -/
theorem okL {P : Program} {w : World} {K : PySem.W.Frag} {mg : PySem.Str → Option Value} {base : Heap} {CX : CXT} {k : Nat} {f : Addr} {fd : FuncData} {ps : List PySem.Str} {sp : Sp}
    {x qual : PySem.Str} {params : Arguments} {body : List Stmt} {scope : Scope} {dvs : List V} {kws : List (PySem.Str × V)} {N : List PySem.Str} {p : He.Defn} (hf : He.fAd K p = f) (F : FunD K x qual params body scope dvs kws f fd) (S : FnScope N ps scope) (wide : ∀ vs H Q E, sp vs H Q E → vs.length = ps.length)
    (text : ∀ (cdv : Value) (A : Around) (outer : List Env) (s : Shared) (H : Hp) (vs : List V) (Q : VK) (E : XK), cdv = .ref (He.cT K p).1 → A.guards = some [] → Room k (A.deeper (envOfC qual scope s.heap.objs.size f cdv)) → sp vs H Q E →
      ∃ t, PSs (cxOf CX P w K mg base N qual scope f cdv A outer s H E) body t ∧ t { nx := fun _ H' => Q .non H', rt := Q } (start N vs) H) : FnG P w K mg base CX (k + 1) f fd ps sp := by
  obtain ⟨oc, od, dV, kV, doc, pm, an, cdv, ct, osl, rfl, known, code, -, -⟩ := F.ex
  refine ⟨wide, fun A quiet room outer s H args us vs Q E e bind same want => ?_⟩
  have stays : ∀ b o, base.get? b = some o → s.heap.get? b = some o := fun b o z => (e.bs b o z).1
  have inK : K.In s.heap := e.mod.kin.keeps stays
  have free : s.heap.NoLimit := e.mod.nolimit.keeps stays
  have cd : cdv = .ref (He.cT K p).1 := by
    obtain ⟨c, hc⟩ := He.codeIn_ref code
    have lk := known
    rw [← hf] at lk
    have := He.codeOf_eq (c := c) lk hc
    rw [hc]
    show Value.ref c = Value.ref (He.codeOf K p)
    rw [this]
  refine codeAny_call_function room.depth (inK _ _ known) rfl S.co S.gen rfl (PySem.W.codeRec_of inK code) (bind _ _ _ _ ?_)
  refine wpAny_newFunctionEnv_cells S.kind ?slots fun env made s1 laid => ?run
  case slots =>
    intro y hy
    obtain ⟨n, v⟩ := y
    have hn := (List.of_mem_zip hy).1
    cases S.par n hn with
    | inl z => exact .inl z
    | inr z => exact .inr ⟨z, PySem.W.cellsFrom_some _ _ _ (.inl z)⟩
  case run =>
    subst made
    refine ⟨free.keeps laid.toInCall.keep, codeAny_func ?_⟩
    obtain ⟨t, reads, goal⟩ := text cdv A outer s H vs Q E cd quiet (room.deeper _) want
    have begun := inv_start (CX := CX) (E := E) S room.hd e (wide _ _ _ _ want) same laid
    refine wpAny_mono (reads.run [] s1 (start N vs) H _ begun goal) (fun way s' z => ?_) fun err s' z => z
    match way, z with
    | .ret u, ⟨v, σ', H', J, rv, q⟩ => exact end_of (A := A) (E := E) rfl rfl rfl rfl rfl rfl J rv q
    | .next, ⟨σ', H', J, q⟩ => exact end_of (A := A) (E := E) (v := V.non) (u := Value.none) rfl rfl rfl rfl rfl rfl J rfl q
    | .brk, ⟨_, _, _, q⟩ => exact False.elim q
    | .cont, ⟨_, _, _, q⟩ => exact False.elim q
end GS
namespace GS
open PySem PySem.Spec PyProof.Rows L2 LamX
def kiB (x y : Str) (b : Bool) : Chk := fun K => decide (PySem.W.kitOne K (.ref (He.ga K x)) (.ref (He.ga K y)) = some b)
theorem kiB_ok {K : PySem.W.Frag} {x y : Str} {b : Bool} (h : kiB x y b K = true) : PySem.W.kitOne K (.ref (He.ga K x)) (.ref (He.ga K y)) = some b := of_decide_eq_true h
theorem pe_two {X : Cx} {e : Expr} {t1 t2 : TE} (h1 : PE X e t1) (h2 : PE X e t2) : PE X e (fun σ H Q => t1 σ H Q ∨ t2 σ H Q) := ⟨fun pins s σ H Q I h => by
  rcases h with h | h
  · exact h1.run pins s σ H Q I h
  · exact h2.run pins s σ H Q I h⟩
end GS
/-! zip of a list and a tuple, in any mix. -/
namespace GS
open PySem PySem.Spec PyProof.Rows L2 TL
def SqX (K : PySem.W.Frag) (H : Hp) : Bool → Addr → List V → Prop
  | true, a, xs => SqT K H a xs
  | false, a, xs => SqL K H a xs
def itAt (h : Heap) : Bool → Addr → Addr → Nat → Prop
  | true, it, a, i => h.IsTupleIter it a i
  | false, it, a, i => h.IsListIter it a i
def isAt (h : Heap) : Bool → Addr → Array Value → Prop
  | true, a, its => h.IsTuple a its
  | false, a, its => h.IsList a its
def itObj : Bool → Addr → Obj
  | true, a => { cls := .type "tuple_iterator", data := .fields #[.ref a, .int 0 0] }
  | false, a => { cls := .type "list_iterator", data := .fields #[.ref a, .int 0 0] }
theorem dr_at {prog : Program} {w : World} {A : Around} (hh : A.handled = none) (t : Bool) (it a : Addr) (hne : a ≠ it) (items : Array Value) :
    Draws prog w A it [it, a] items.size (fun i v => items[i]? = some v) (fun i h => itAt h t it a i ∧ isAt h t a items) := by
  cases t with
  | true => exact Draws.tuple hh it a hne items
  | false => exact Draws.list hh it a hne items
theorem itAt_obj {h : Heap} {t : Bool} {it a : Addr} {i : Nat} (x : itAt h t it a i) : ∃ o, h.get? it = some o ∧ ∀ v, o.data ≠ .cell v := by
  cases t with
  | true => exact let ⟨o, e, _, d⟩ := x; ⟨o, e, fun v q => by rw [d] at q; cases q⟩
  | false => exact let ⟨o, e, _, d⟩ := x; ⟨o, e, fun v q => by rw [d] at q; cases q⟩
theorem itAt_keep {h h' : Heap} {t : Bool} {it a : Addr} {i : Nat} (x : itAt h t it a i) (k : ∀ o, h.get? it = some o → h'.get? it = some o) : itAt h' t it a i := by
  cases t with
  | true => exact Heap.IsTupleIter.at x k
  | false => exact Heap.IsListIter.at x k
theorem isAt_keep {h h' : Heap} {t : Bool} {a : Addr} {its : Array Value} (x : isAt h t a its) (k : ∀ o, h.get? a = some o → h'.get? a = some o) : isAt h' t a its := by
  cases t with
  | true => exact Heap.IsTuple.at x k
  | false => exact Heap.IsList.at x k
theorem isAt_lt {h : Heap} {t : Bool} {a : Addr} {its : Array Value} (x : isAt h t a its) : a < h.objs.size := by
  cases t with
  | true => exact let ⟨o, e, _⟩ := x; Heap.lt_size e
  | false => exact let ⟨o, e, _⟩ := x; Heap.lt_size e
theorem beg_at (t : Bool) (a : Addr) (items : Array Value) : Begins (.ref a) (itObj t a) fun h => isAt h t a items := by
  cases t with
  | true => exact begins_tuple a items
  | false => exact begins_list a items
theorem itAt_new {h : Heap} {t : Bool} {it a : Addr} (e : h.get? it = some (itObj t a)) : itAt h t it a 0 := by
  cases t with
  | true => exact ⟨_, e, rfl, rfl⟩
  | false => exact ⟨_, e, rfl, rfl⟩
section
variable {X : Cx} {pins : List (Addr × Obj)} {σ : L2.St} {H : Hp} {s : Shared} {t : Bool} {a : Addr} {xs : List V}
theorem sqX_get (I : Inv X pins σ H s) (h : SqX X.K H t a xs) : ∃ its, Vals xs its ∧ isAt s.heap t a its.toArray := by
  cases t with
  | true => obtain ⟨its, rv, p, _⟩ := I.tuple h; exact ⟨its, rv, p⟩
  | false => obtain ⟨its, rv, p, _⟩ := I.list h; exact ⟨its, rv, p.isList⟩
theorem sqX_inj (I : Inv X pins σ H s) {ys : List V} (h : SqX X.K H t a xs) (g : SqX X.K H t a ys) : xs = ys := by
  cases t with
  | true => exact I.tuple_inj h g
  | false => exact I.list_inj h g
end
def ItzX (K : PySem.W.Frag) (t1 t2 : Bool) (a b : Addr) : It :=
  ⟨fun i H => ∃ (xs ys : List V) (x y : V), SqX K H t1 a xs ∧ SqX K H t2 b ys ∧ xs[i]? = some x ∧ ys[i]? = some y,
    fun i H v H' => ∃ T x y, v = .ref T ∧ H T = none ∧ H' = upd H T (.tup [x, y]) ∧ (∀ xs, SqX K H t1 a xs → xs[i]? = some x) ∧ ∀ ys, SqX K H t2 b ys → ys[i]? = some y,
    fun i H => ∃ xs ys : List V, SqX K H t1 a xs ∧ SqX K H t2 b ys ∧ i ≤ xs.length ∧ i ≤ ys.length ∧ (i = xs.length ∨ i = ys.length)⟩
theorem turn_zipX {P : Program} {w : World} {K : PySem.W.Frag} {elts : List Expr} {kk : Nat} {tpos : Pos} {t1 t2 : Bool} {a b z TI TO i1 i2 : Addr} (D : ZipSep2 z TI TO i1 i2 [i1, a] [i2, b]) :
    Turn P w K (.Tuple elts kk tpos) (ItzX K t1 t2 a b) [z, TI, TO, i1, i2] z (fun i h => IsZip h z TI TO .none ∧ IsTupOf2 h TI (.ref i1) (.ref i2) ∧ (∃ x y, IsTupOf2 h TO x y) ∧ itAt h t1 i1 a i ∧ itAt h t2 i2 b i) where
  mem := by simp
  obj := fun i h st c hc => by
    obtain ⟨hz, hTI, ⟨x, y, hTO⟩, h1, h2⟩ := st
    have e' : c = z ∨ c = TI ∨ c = TO ∨ c = i1 ∨ c = i2 := by simpa using hc
    rcases e' with q | q | q | q | q
    · rw [q]; exact ⟨_, hz, fun v q => nomatch q⟩
    · rw [q]; exact ⟨_, hTI, fun v q => nomatch q⟩
    · rw [q]; exact ⟨_, hTO, fun v q => nomatch q⟩
    · rw [q]; exact itAt_obj h1
    · rw [q]; exact itAt_obj h2
  keep := fun i h h' st k => by
    obtain ⟨hz, hTI, ⟨x, y, hTO⟩, h1, h2⟩ := st
    exact ⟨k z (by simp) _ hz, k TI (by simp) _ hTI, ⟨x, y, k TO (by simp) _ hTO⟩, itAt_keep h1 fun o q => k i1 (by simp) o q, itAt_keep h2 fun o q => k i2 (by simp) o q⟩
  item := by
    intro X hP hw hK hc i pins s σ H E I hf st hg
    subst hP hw hK
    obtain ⟨hz, hTI, ⟨x0, y0, hTO⟩, h1, h2⟩ := st
    obtain ⟨xs, ys, x, y, hqx, hqy, hx, hy⟩ := hg
    obtain ⟨its, rv, p⟩ := sqX_get I hqx
    obtain ⟨its2, rv2, p2⟩ := sqX_get I hqy
    obtain ⟨u, hu, ru⟩ := rv.get hx
    obtain ⟨u2, hu2, ru2⟩ := rv2.get hy
    have hzl : z < s.heap.objs.size := Heap.lt_size hz
    have n1 : a ≠ i1 := fun e => by
      have := (hf i1 (by simp)).1
      have hh := itAt_obj h1
      rw [← e] at hh this
      obtain ⟨o, q, _⟩ := hh
      cases t1 with
      | true =>
        obtain ⟨o2, e2, c2, _⟩ := (show s.heap.IsTuple a its.toArray from p)
        obtain ⟨o3, e3, c3, _⟩ := (show s.heap.IsTupleIter i1 a i from h1)
        rw [← e, e2] at e3
        cases e3
        rw [c2] at c3
        exact absurd c3 (by decide)
      | false =>
        obtain ⟨o2, e2, c2, _⟩ := (show s.heap.IsList a its.toArray from p)
        obtain ⟨o3, e3, c3, _⟩ := (show s.heap.IsListIter i1 a i from h1)
        rw [← e, e2] at e3
        cases e3
        rw [c2] at c3
        exact absurd c3 (by decide)
    have n2 : b ≠ i2 := fun e => by
      cases t2 with
      | true =>
        obtain ⟨o2, e2, c2, _⟩ := (show s.heap.IsTuple b its2.toArray from p2)
        obtain ⟨o3, e3, c3, _⟩ := (show s.heap.IsTupleIter i2 b i from h2)
        rw [← e, e2] at e3
        cases e3
        rw [c2] at c3
        exact absurd c3 (by decide)
      | false =>
        obtain ⟨o2, e2, c2, _⟩ := (show s.heap.IsList b its2.toArray from p2)
        obtain ⟨o3, e3, c3, _⟩ := (show s.heap.IsListIter i2 b i from h2)
        rw [← e, e2] at e3
        cases e3
        rw [c2] at c3
        exact absurd c3 (by decide)
    have k1 : i < its.toArray.size := by have := (List.getElem?_eq_some_iff.mp hu).1; simpa using this
    have k2 : i < its2.toArray.size := by have := (List.getElem?_eq_some_iff.mp hu2).1; simpa using this
    refine wpAny_pyNext_zipD2_item D (dr_at (prog := X.prog) (w := X.w) (A := X.A.in1) (I.ok.hd hc) t1 i1 a n1 its.toArray) (dr_at (prog := X.prog) (w := X.w) (A := X.A.in1) (I.ok.hd hc) t2 i2 b n2 its2.toArray) hz hTI hTO ⟨h1, p⟩ ⟨h2, p2⟩ k1 k2 fun x1 x2 h' tk y1 y2 z' TO' st1' st2' hT hsz hk => ?_
    have e1 : x1 = u := by have : its[i]? = some x1 := by simpa using y1
                           rw [hu] at this; exact (Option.some.inj this).symm
    have e2 : x2 = u2 := by have : its2[i]? = some x2 := by simpa using y2
                            rw [hu2] at this; exact (Option.some.inj this).symm
    subst e1 e2
    refine ⟨_, rfl, wpAny_letOwnedTupleGo_zip (s := { s with heap := h', toks := tk }) z' fun h'' z'' sb => ?_⟩
    have hT2 : h''.get? s.heap.objs.size = some { cls := .type "tuple", data := .seq #[x1, x2] } := (sb.2 _ (Nat.ne_of_gt hzl)).trans hT
    have new : ObjOk X.prog X.w (upd H s.heap.objs.size (.tup [x, y])) h'' s.heap.objs.size (.tup [x, y]) :=
      ⟨by show 2 ≤ sizeLine; decide, [x1, x2], .cons ru (.cons ru2 .nil), ⟨_, hT2, rfl, _, rfl⟩⟩
    have I1 : Inv X pins σ (upd H s.heap.objs.size (.tup [x, y])) { s with heap := h'', toks := tk } :=
      I.turnedNew (t' := tk) (ch := [z, TI, TO, i1, i2]) (fun c o hb q => (sb.2 c (fun q' => hb (by simp [q']))).trans (hk c o (fun q' => hb (by simp [q'])) (fun q' => hb (by simp [q'])) (fun q' => hb (by simp [q'])) (fun q' => hb (by simp [q'])) q)) hf (Nat.le_refl _) new
    have TOi2 : TO ≠ i2 := D.Ti2
    refine ⟨.ref s.heap.objs.size, _, I1, rfl, ⟨_, x, y, rfl, I.hok.fresh (Nat.le_refl _), rfl, fun l hl => by rw [sqX_inj I hl hqx]; exact hx, fun l hl => by rw [sqX_inj I hl hqy]; exact hy⟩, ⟨z'', ?_, ⟨x1, x2, ?_⟩, ?_, ?_⟩, fun c hcm => ?_⟩
    · exact (sb.2 _ D.TIz).trans (hk _ _ D.TIz D.TITO D.TIi1 D.TIi2 hTI)
    · exact (sb.2 _ D.TOz).trans TO'
    · exact itAt_keep st1'.1 fun o q => (sb.2 _ (Ne.symm D.zi1)).trans q
    · exact itAt_keep st2'.1 fun o q => (sb.2 _ (Ne.symm D.zi2)).trans q
    · have hlt : c < s.heap.objs.size := by
        have e' : c = z ∨ c = TI ∨ c = TO ∨ c = i1 ∨ c = i2 := by simpa using hcm
        rcases e' with q | q | q | q | q
        · rw [q]; exact hzl
        · rw [q]; exact Heap.lt_size hTI
        · rw [q]; exact Heap.lt_size hTO
        · rw [q]; obtain ⟨_, e1, _⟩ := itAt_obj h1; exact Heap.lt_size e1
        · rw [q]; obtain ⟨_, e2, _⟩ := itAt_obj h2; exact Heap.lt_size e2
      rw [upd_ne (Nat.ne_of_lt hlt)]
      exact (hf c hcm).1
  done := by
    intro X hP hw hK hc i pins s σ H E I hf st hg
    subst hP hw hK
    obtain ⟨hz, hTI, ⟨x0, y0, hTO⟩, h1, h2⟩ := st
    obtain ⟨xs, ys, hqx, hqy, l1, l2, hend⟩ := hg
    obtain ⟨its, rv, p⟩ := sqX_get I hqx
    obtain ⟨its2, rv2, p2⟩ := sqX_get I hqy
    have m1 := rv.length
    have m2 := rv2.length
    have n1 : a ≠ i1 := fun e => by
      cases t1 with
      | true =>
        obtain ⟨o2, e2, c2, _⟩ := (show s.heap.IsTuple a its.toArray from p)
        obtain ⟨o3, e3, c3, _⟩ := (show s.heap.IsTupleIter i1 a i from h1)
        rw [← e, e2] at e3
        cases e3
        rw [c2] at c3
        exact absurd c3 (by decide)
      | false =>
        obtain ⟨o2, e2, c2, _⟩ := (show s.heap.IsList a its.toArray from p)
        obtain ⟨o3, e3, c3, _⟩ := (show s.heap.IsListIter i1 a i from h1)
        rw [← e, e2] at e3
        cases e3
        rw [c2] at c3
        exact absurd c3 (by decide)
    have n2 : b ≠ i2 := fun e => by
      cases t2 with
      | true =>
        obtain ⟨o2, e2, c2, _⟩ := (show s.heap.IsTuple b its2.toArray from p2)
        obtain ⟨o3, e3, c3, _⟩ := (show s.heap.IsTupleIter i2 b i from h2)
        rw [← e, e2] at e3
        cases e3
        rw [c2] at c3
        exact absurd c3 (by decide)
      | false =>
        obtain ⟨o2, e2, c2, _⟩ := (show s.heap.IsList b its2.toArray from p2)
        obtain ⟨o3, e3, c3, _⟩ := (show s.heap.IsListIter i2 b i from h2)
        rw [← e, e2] at e3
        cases e3
        rw [c2] at c3
        exact absurd c3 (by decide)
    refine wpAny_pyNext_zipD2_end D (dr_at (prog := X.prog) (w := X.w) (A := X.A.in1) (I.ok.hd hc) t1 i1 a n1 its.toArray) (dr_at (prog := X.prog) (w := X.w) (A := X.A.in1) (I.ok.hd hc) t2 i2 b n2 its2.toArray) hz hTI hTO ⟨h1, p⟩ ⟨h2, p2⟩ (by rw [List.size_toArray]; omega) (by rw [List.size_toArray]; omega) (by rw [List.size_toArray, List.size_toArray]; omega) fun h' tk hk => ⟨rfl, ?_⟩
    exact I.turnedL (t' := tk) (ch := [z, TI, TO, i1, i2]) (fun c o hb q => hk c o (fun q' => hb (by simp [q'])) (fun q' => hb (by simp [q'])) (fun q' => hb (by simp [q'])) (fun q' => hb (by simp [q'])) q) hf
  self := fun A i s Q E st h => wpAny_pyIter_zip st.1 h
def iZipX (K : PySem.W.Frag) (ta : TA) : TI := fun σ H R => ta σ H fun vs H1 => ∃ t1 t2 a b xs ys, vs = [.ref a, .ref b] ∧ SqX K H1 t1 a xs ∧ SqX K H1 t2 b ys ∧ R (ItzX K t1 t2 a b) H1
theorem pi_zipX {X : Cx} {e e2 : Expr} {ta : TA} {p pos tpos : Pos} {elts : List Expr} {kk : Nat} (hg : Gl X "zip") (hm : X.mg "zip" = none) (ha : PA X [e, e2] ta)
    (hs : starEach [e, e2] X.env = (false, eval e X.env) :: starEach [e2] X.env := by rfl) (hpl : (backTo pos (starEach [e2] X.env)).any (·.1) = false := by rfl) :
    PI X (.Tuple elts kk tpos) (.Call (.Name "zip" p) [e, e2] [] pos) (iZipX X.K ta) := by
  refine ⟨fun pins s σ H R I h => ?_⟩
  refine Call_ (ld_blt I hg hm PyProof.Rows.boot_zip (PyProof.Rows.callWith_type1 (thn (ha.run pos pins s σ H _ I h) fun us s1 ⟨vs, H1, I1, r1, q1⟩ => ?_) hs hpl))
  obtain ⟨t1, t2, a, b, xs, ys, ex, hqx, hqy, q⟩ := q1
  subst ex
  cases r1 with
  | cons r rr =>
    cases rr with
    | cons r' rr =>
      cases rr
      cases r
      cases r'
      have fresh5 : ∀ c, c ∈ [s1.heap.objs.size + 4, s1.heap.objs.size + 2, s1.heap.objs.size + 3, s1.heap.objs.size, s1.heap.objs.size + 1] → FpOk X pins H1 c := fun c hcm => by
        have e' : c = s1.heap.objs.size + 4 ∨ c = s1.heap.objs.size + 2 ∨ c = s1.heap.objs.size + 3 ∨ c = s1.heap.objs.size ∨ c = s1.heap.objs.size + 1 := by simpa using hcm
        have hle : s1.heap.objs.size ≤ c := by
          rcases e' with z | z | z | z | z
          · rw [z]; exact Nat.le_add_right _ _
          · rw [z]; exact Nat.le_add_right _ _
          · rw [z]; exact Nat.le_add_right _ _
          · rw [z]; exact Nat.le_refl _
          · rw [z]; exact Nat.le_add_right _ _
        exact I1.fpOk hle (I1.hok.fresh hle)
      obtain ⟨its, rv, p1⟩ := sqX_get I1 hqx
      obtain ⟨its2, rv2, p2⟩ := sqX_get I1 hqy
      refine zip_begins2 (beg_at t1 a its.toArray) (beg_at t2 b its2.toArray) p1 p2 fun h' hz hTI hTO h1 h2 hsz hk => wpAny_pyIter_zip hz ?_
      have I2 : Inv X pins σ H1 { s1 with heap := h' } := I1.kept (t' := s1.toks) hk
      have sep : ZipSep2 (s1.heap.objs.size + 4) (s1.heap.objs.size + 2) (s1.heap.objs.size + 3) s1.heap.objs.size (s1.heap.objs.size + 1) [s1.heap.objs.size, a] [s1.heap.objs.size + 1, b] :=
        zip_sep2 (fun c hc => by rw [List.mem_singleton.mp hc]; exact isAt_lt p1) (fun c hc => by rw [List.mem_singleton.mp hc]; exact isAt_lt p2)
      exact ⟨s1.heap.objs.size + 4, [s1.heap.objs.size + 4, s1.heap.objs.size + 2, s1.heap.objs.size + 3, s1.heap.objs.size, s1.heap.objs.size + 1], _, _, H1, rfl, I2, turn_zipX sep, ⟨hz, hTI, ⟨_, _, hTO⟩, itAt_new h1, itAt_new h2⟩, fresh5, q⟩
theorem sqX_ex {K : PySem.W.Frag} {H H' : Hp} {t : Bool} {a : Addr} {xs : List V} (e : Ex H H') (h : SqX K H t a xs) : SqX K H' t a xs := by
  cases t with
  | true => exact e.sqt h
  | false => exact e.sql h
theorem walk_zipX {K : PySem.W.Frag} {t1 t2 : Bool} {a b : Addr} {xs ys : List V} {n : Nat} (hn : n = min xs.length ys.length) : Walk (ItzX K t1 t2 a b) n (fun H => SqX K H t1 a xs ∧ SqX K H t2 b ys) (YPair (fun i => xs[i]?) (fun i => ys[i]?)) := by
  subst hn
  refine ⟨fun i _ hi q => ?_, fun _ q => ⟨xs, ys, q.1, q.2, by omega, by omega, by omega⟩, fun i H v H' _ q y => ?_⟩
  · have h1 : i < xs.length := by omega
    have h2 : i < ys.length := by omega
    exact ⟨xs, ys, xs[i], ys[i], q.1, q.2, by simp [h1], by simp [h2]⟩
  · obtain ⟨T, x, z, h1, h2, h3, h4, h5⟩ := y
    exact ⟨T, x, z, h1, h2, h3, h4 xs q.1, h5 ys q.2⟩
theorem r_zipX {K : PySem.W.Frag} {ta : TA} {σ : L2.St} {H : Hp} {R : It → Hp → Prop} (q : ta σ H fun vs H1 => ∃ t1 t2 a b xs ys, vs = [.ref a, .ref b] ∧ SqX K H1 t1 a xs ∧ SqX K H1 t2 b ys ∧ R (ItzX K t1 t2 a b) H1) : iZipX K ta σ H R := q
end GS
/-! A lambda handed to a def that calls it in a try: what is raised is wished for at the slots of that def. -/
namespace GS
open PySem PySem.Spec PyProof.Rows L2 LamX
section
variable {X : Cx} {pins : List (Addr × Obj)} {σ : L2.St} {H : Hp} {s : Shared}
theorem act_at {CXg : CXT} {Eg : XK} {Ng : List Str} {qg : Str} {sg : Scope} {g f c' : Addr} {cdg pm ctv : Value} {params : Arguments} {body : Expr} {scope : Scope} {k i : Nat} {a : Str} {pn : List (Addr × Obj)} {xe : Value → Shared → Prop} {W : WX} {E : L2.St → XK} {t : XK → TE} {p1 p2 : Pos}
    (I : Inv X pins σ H s) (L : LamS X.env.scope scope) (hf : s.heap.get? f = some (PySem.W.kla_obj "<lambda>" (X.env.qual ++ "<lambda>") params body scope (cloFrom X.env.cells scope.names []) pm c' ctv)) (hfn : H f = none) (hfr : f ∉ frs X.stack)
    (hbind : bindArgs (PySem.W.kla_fn "<lambda>" (X.env.qual ++ "<lambda>") params body scope (cloFrom X.env.cells scope.names []) pm (.ref c') ctv) ⟨[], []⟩ = pure [])
    (tk : Takes ((cxOf CXg X.prog X.w X.K X.mg X.base Ng qg sg g cdg X.A X.stack s H Eg).tr pn xe) W) (hW : ∀ σ' cls d H', E σ' cls d H' → W cls d σ' H') (hr : Room (k + 1) (X.A.deeper (envOfC qg sg s.heap.objs.size g cdg)))
    (hbody : ∀ (A : Around) (outer : List Env) (s : Shared) (H : Hp) (E : XK), Room k (A.deeper (lamEnv X scope s.heap.objs.size f c')) → PE (lamCx X A outer s H E scope f c') body (t E))
    (hN : Ng[i]? = some a) (hv : Vis sg a) (hd : (a == ("__debug__" : Str)) = false) (hcd : (a == ("__classdict__" : Str)) = false) :
    PE ((cxOf CXg X.prog X.w X.K X.mg X.base Ng qg sg g cdg X.A X.stack s H Eg).tr pn xe) (.Call (.Name a p1) [] [] p2)
      (fun σZ HZ Q => σZ[i]? = some (some (.ref f)) ∧ HZ c' = some (CodeO c' (X.env.qual ++ "<lambda>")) ∧ t (E σZ) σ HZ Q) := by
  refine ⟨fun pinsZ sZ σZ HZ Q IZ want => ?_⟩
  obtain ⟨slot, code, goal⟩ := want
  refine wpAny_Call_Name_kw (thn ((pe_var (pos := p1) (i := i) hN hv hd hcd).run pinsZ sZ σZ HZ (fun v H1 => v = .ref f ∧ H1 = HZ) IZ ⟨.ref f, slot, rfl, rfl⟩) fun u s1 ⟨v, H1, I1, r1, q1⟩ => ?_)
  obtain ⟨ev, eH⟩ := q1
  subst ev
  rw [eH] at I1
  obtain rfl : u = Value.ref f := r1
  have here : s1.heap.get? f = some (PySem.W.kla_obj "<lambda>" (X.env.qual ++ "<lambda>") params body scope (cloFrom X.env.cells scope.names []) pm c' ctv) := I1.base.keep f _ hf hfn hfr (fun z => nomatch (show f ∈ ([] : List Addr) from z))
  refine PySem.W.callWith_F0 ⟨_, _, _, _, here⟩ ?_
  have un : Un (frs X.stack) [] H HZ s.heap s1.heap := I1.base
  obtain ⟨⟨oc, vs, tk1, hoc, hdc, hvc⟩, _, _⟩ := I1.hok c' _ code
  have ran : codeAny (model X.prog X.w) (X.A.deeper (envOfC qg sg s.heap.objs.size g cdg)) (.call (.ref f) ⟨[], []⟩) (CR (L2.CX X.prog X.w) (envOfC qg sg s.heap.objs.size g cdg :: X.stack) X.prog X.w HZ s1 Q (E σZ)) s1 := by
    refine PySem.W.kla_callFunE hr.depth here rfl L.co L.gen rfl ⟨c', oc, vs, tk1, rfl, hoc, hdc, hvc⟩ ?_
    rw [hbind]
    refine wpAny_pure (wpAny_newFunctionEnv (fun y hy => (L.own y hy).2) (fun y hy => absurd hy (by simp)) (fun h₁ hns hsb => ⟨I1.nolimit.fresh _ hsb, ?_⟩) L.kind)
    show codeAny _ _ (.expr body (lamEnv X scope s1.heap.objs.size f c')) _ _
    have kp : ∀ b o, s1.heap.get? b = some o → h₁.get? b = some o := fun b o e => hsb.extBut b o (Nat.ne_of_lt (Heap.lt_size e)) (Heap.get?_push_of_some _ e)
    have J := lam_start2 (E := E σZ) (f := f) (c' := c') (tk := s1.toks + ([] : List (Str × Value)).length) I L I1.env0 hr.hd un hns kp
    refine PySem.W.kla_codeExpr (wpAny_mono ((hbody _ _ s1 HZ (E σZ) (hr.deeper _)).run [] _ _ HZ Q J goal) (fun v s' hq => ?_) fun e s' hq => hq)
    obtain ⟨w', H', J', rv, q⟩ := hq
    exact ⟨w', H', J'.os, J'.bare, J'.base, J'.hok, rv, q⟩
  refine wpAny_call (codeAny_mono ran fun r s' hq => ?_)
  match r, hq with
  | .error e, hq => exact tk e s' (XE.of_call I1 (fun cls d H' h => hW σZ cls d H' h) hq)
  | .ok (.ret u), hq => exact I1.after hq
  | .ok .next, hq => exact False.elim hq
  | .ok .brk, hq => exact False.elim hq
  | .ok .cont, hq => exact False.elim hq
end
/-- the def that calls what it got, in a try -/
def GivesS (X : Cx) (Ng : List Str) (x : Str) (sg : Scope) (g : Addr) (cdg : Value) (bg : List Stmt) (a : Str) (q : Str) (TT : (XK → Hp → VK → Prop) → Hp → VK → Prop) : Prop :=
  ∀ (f c' : Addr) (s : Shared) (H : Hp) (Q : VK) (tl : XK → Hp → VK → Prop),
    (∀ (W : WX) (pn : List (Addr × Obj)) (xe : Value → Shared → Prop) (E : L2.St → XK) (p1 p2 : Pos), Takes ((cxOf C8.CX0 X.prog X.w X.K X.mg X.base Ng x sg g cdg X.A X.stack s H C8.E0).tr pn xe) W → (∀ σ' cls d H', E σ' cls d H' → W cls d σ' H') →
      PE ((cxOf C8.CX0 X.prog X.w X.K X.mg X.base Ng x sg g cdg X.A X.stack s H C8.E0).tr pn xe) (.Call (.Name a p1) [] [] p2) (fun σZ HZ Q => σZ[0]? = some (some (.ref f)) ∧ HZ c' = some (CodeO c' q) ∧ tl (E σZ) HZ Q)) →
    H c' = some (CodeO c' q) → TT tl H Q →
    ∃ t, PSs (cxOf C8.CX0 X.prog X.w X.K X.mg X.base Ng x sg g cdg X.A X.stack s H C8.E0).nox bg t ∧ t { nx := fun _ H' => Q .non H', rt := Q } (L2.start Ng [.ref f]) H
theorem pe_lam {X : Cx} {TT : (XK → Hp → VK → Prop) → Hp → VK → Prop} {x a : Str} {g c P : Addr} {k : Nat} {pg : Arguments} {bg : List Stmt} {sg : Scope} {fd : FuncData} {Ng : List Str}
    {params : Arguments} {body : Expr} {scope : Scope} {t : XK → TE} {p lpos pos : Pos} (hg : Gl X x) (hm : X.mg x = some (.ref g)) (hk : PySem.W.keepIn X.K (.ref g) = true)
    (F : FunD X.K x x pg bg sg [] [] g fd) (hb : L2.Binds X.K fd [a] []) (Sg : FnScope Ng [a] sg) (hNg : Ng[0]? = some a) (hva : Vis sg a)
    (hG : ∀ cdg, GivesS X Ng x sg g cdg bg a (X.env.qual ++ "<lambda>") TT)
    (TB : TabB X.base X.mg c P) (hcode : X.env.code = .ref c) (hr : Room (k + 2) X.A) (L : LamS X.env.scope scope) (hdef : defaultsOf params X.env = ([], []))
    (hbind : ∀ (q : Str) (cl : List (Str × Addr)) (pm cv ctv : Value), bindArgs (PySem.W.kla_fn "<lambda>" q params body scope cl pm cv ctv) ⟨[], []⟩ = pure [])
    (hbody : ∀ (A : Around) (outer : List Env) (s : Shared) (H : Hp) (E : XK) (f c' : Addr), Room k (A.deeper (lamEnv X scope s.heap.objs.size f c')) → PE (lamCx X A outer s H E scope f c') body (t E))
    (hdb : (x == ("__debug__" : Str)) = false := by decide) (hd : (a == ("__debug__" : Str)) = false := by decide) (hcd : (a == ("__classdict__" : Str)) = false := by decide) :
    PE X (.Call (.Name x p) [.Lambda params body scope lpos] [] pos) (tLam [(P, X.env.qual ++ "<lambda>")] TT t) := by
  obtain ⟨oc, od, dV, kV, doc, pm, an, cdv, ct, osl, rfl, known, hcg, -, -⟩ := F.ex
  refine ⟨fun pins s σ H Q I want => ?_⟩
  obtain ⟨tabs, goal⟩ := want
  refine wpAny_Call_Name_kw (ld_glob I hg hm ?_ hdb)
  refine PySem.W.callWith_K (h₀ := X.base) I.ok.mod.kin hk ?_ (by rfl) (by rfl)
  show wpAny _ _ (spliced ((false, eval (.Lambda params body scope lpos) X.env) :: backTo pos (starEach [] X.env))) _ _ s
  refine Calls.spliced_cons (lam_make2 I TB hcode List.mem_cons_self (fun p hp _ => by rw [List.mem_singleton.mp hp]) tabs hdef (L.has I.ok) fun f c' pm' ctv H1 s' I1 eN T1 hf hfn hfr hco => ?_)
  refine Calls.spliced_nil ⟨I1.kIn, ?_⟩
  have ran : codeAny (model X.prog X.w) X.A (.call (.ref g) ⟨[.ref f], []⟩) (CR C8.CX0 X.stack X.prog X.w H1 s' Q C8.E0) s' := by
    refine run_ofS (N := Ng) (ps := [a]) (us := [.ref f]) (vs := [.ref f]) known hcg Sg hr I1.env0 (hb s' [.ref f] I1.kIn rfl) (.cons rfl .nil) rfl fun hr' => ?_
    obtain ⟨t', reads, wants⟩ := hG cdv f c' s' H1 Q (fun E H' Q' => t E σ H' Q') (fun W pn xe E p1 p2 tk hW => act_at (i := 0) I1 L hf hfn hfr (hbind _ _ _ _ _) tk hW hr' (fun A outer s H E hr2 => hbody A outer s H E f c' hr2) hNg hva hd hcd) hco (goal H1 eN T1)
    exact ⟨t', reads.nox, wants⟩
  refine wpAny_call (codeAny_mono ran fun r s2 hq => ?_)
  match r, hq with
  | .error e, hq => exact (show False from hq).elim
  | .ok (.ret u), hq => exact I1.after hq
  | .ok .next, hq => exact False.elim hq
  | .ok .brk, hq => exact False.elim hq
  | .ok .cont, hq => exact False.elim hq
/-- a() within try, a what was got -/
def tAsk (f c' : Addr) (q : Str) (tl : XK → Hp → VK → Prop) (W : WX) : TS := fun D σ H => ∃ E : XK, (∀ cls d H', E cls d H' → W cls d σ H') ∧ σ[0]? = some (some (.ref f)) ∧ H c' = some (CodeO c' q) ∧ tl E H (fun _ H' => D.nx σ H')
theorem ps_ask {Y : Cx} {W : WX} {a : Str} {f c' : Addr} {q : Str} {tl : XK → Hp → VK → Prop} {p1 p2 p3 : Pos}
    (act : ∀ (E : L2.St → XK) (p1 p2 : Pos), Takes Y W → (∀ σ' cls d H', E σ' cls d H' → W cls d σ' H') → PE Y (.Call (.Name a p1) [] [] p2) (fun σZ HZ Q => σZ[0]? = some (some (.ref f)) ∧ HZ c' = some (CodeO c' q) ∧ tl (E σZ) HZ Q)) (tk : Takes Y W) :
    PS Y (.Expr (.Call (.Name a p1) [] [] p2) p3) (tAsk f c' q tl W) := by
  refine ⟨fun pins s σ H D I h => ?_⟩
  obtain ⟨E, hW, h1, h2, h3⟩ := h
  have e : (fun cls d H' => σ = σ ∧ E cls d H') = E := by
    funext cls d H'
    exact propext ⟨fun z => z.2, fun z => ⟨rfl, z⟩⟩
  refine (ps_expr (pos := p3) (act (fun σ' cls d H' => σ' = σ ∧ E cls d H') p1 p2 tk (fun σ' cls d H' z => by rw [z.1]; exact hW cls d H' z.2))).run pins s σ H D I ⟨h1, h2, ?_⟩
  show tl (fun cls d H' => σ = σ ∧ E cls d H') H _
  rw [e]
  exact h3
/-! a field's reading -/
def fldK (K : PySem.W.Frag) (f : Str) (Q : VK) : VK := fun x H1 => ∃ a C dx fs v, x = .ref a ∧ H1 a = some (.ins C dx fs) ∧ Cls K C ∧ NoAttr K C f ∧ fs.lookup f = some v ∧ Q v H1
theorem r_F {K : PySem.W.Frag} {f : Str} {te : TE} {σ : L2.St} {H : Hp} {Q : VK} (q : te σ H (fldK K f Q)) : tFld K te f σ H Q := q
theorem r_gUnl {K : PySem.W.Frag} {n : Nat} {gs : TGs} {p : Addr} {xs : List V} {σ : L2.St} {H : Hp} {N : L2.St → Hp → Prop} (h : H p = some (.lst xs)) (l : xs.length = n) (q : gs xs σ H N) : gUnl K n gs (.ref p) σ H N := ⟨p, xs, rfl, SqL.of h, l, q⟩
end GS
/-! A list comprehension whose element may raise, out of a call. -/
namespace GS
open PySem PySem.Spec PySem.Calls PyProof.Rows L2
/-- frames over a smaller ground -/
theorem ff_less {h B B' : Heap} (n : ∀ b, B.get? b = none → B'.get? b = none) : ∀ {l : List Env}, h.FunFrames B l → h.FunFrames B' l
  | [], _ => trivial
  | _ :: _, ⟨k, ⟨L, o, f, b, r⟩, t⟩ => ⟨k, ⟨L, o, f, n L b, r⟩, ff_less n t⟩
theorem hid_none {h : Heap} {C b : Addr} (e : h.get? b = none) : (PySem.W.hideAll h [C]).get? b = none := by
  cases q : (PySem.W.hideAll h [C]).get? b with
  | none => rfl
  | some o =>
    have z := PySem.W.of_hideAll _ q
    rw [e] at z
    cases z
theorem hid_ne {h : Heap} {C b : Addr} {o : Obj} (e : (PySem.W.hideAll h [C]).get? b = some o) : b ≠ C := by
  rintro rfl
  rw [PySem.W.hideAll_none [b] (List.mem_singleton.mpr rfl)] at e
  cases e
theorem held_hid {B h1 h2 : Heap} {l : List Env} {a C L : Addr} {Z : Obj → Prop} {m1 m2 : Str → Option Value} (n1 : h1.Ns C m1) (n2 : h2.Ns C m2) (sb : Heap.SameBut C h1 h2) (hh : HandSPX.HeldZ B l a Z L h1) : HandSPX.HeldZ (PySem.W.hideAll B [C]) l a Z L h2 := by
  obtain ⟨st, an, ff, oe, vs, T, oT, ts, e1, e2, e3, e4, e5, e6, e7, e8, e9⟩ := hh
  have noF : ∀ b o vs, h1.get? b = some o → o.data = .fields vs → b ≠ C := fun b o vs e z q => by
    obtain ⟨oc, _, _, hc, hd, _⟩ := n1
    rw [q, hc] at e
    cases e
    rw [hd] at z
    cases z
  refine ⟨fun b o e => ?_, hid_none an, ff_less (fun b e => hid_none e) (Heap.FunFrames.sameBut sb n2 ff), oe, vs, T, oT, ts, ?_, e2, e3, e4, hid_none e5, e6, ?_, e8, e9⟩
  · rw [sb.2 b (hid_ne e)]
    exact st b o (PySem.W.of_hideAll _ e)
  · rw [sb.2 a (noF _ _ _ e1 e3)]
    exact e1
  · rw [sb.2 T (noF _ _ _ e7 e8)]
    exact e7
section
variable {X : Cx} {pins : List (Addr × Obj)} {σ : L2.St} {H : Hp} {s : Shared}
theorem comp_fails {s3 : Shared} (I3 : Inv X pins σ H s3) {W : WX} {E : XK} (tk : Takes X W) (hW : ∀ cls d σ H, E cls d H → W cls d σ H) (hst : X.stack = X.env :: X.outer) (hf : X.env.frame = some X.env.locals) {scope : Scope} {ce : Env} {fp : List Addr}
    (cL : ce.locals = s3.heap.objs.size) (cF : ce.frame = X.env.frame) (f3 : ∀ b ∈ fp, FpOk X pins H b) {pn pins' : List (Addr × Obj)} {xe : Value → Shared → Prop} {σ' : L2.St} {H' : Hp} {s s' : Shared} {e : Value}
    (J : Inv ((X.blk s3 H scope ce fp).tr pn xe) pins' σ' H' s) (c : L2.CX X.prog X.w X.stack H' s E e s') : notedBy (model X.prog X.w) X.A ce (CompFails (model X.prog X.w) X.A X.xe ce) e s' := by
  obtain ⟨a, B, sI, pins1, σ1, H1, cls, d, rfl, J1, nb, up, sky, na, os, ag, w⟩ := XE.of_call (W := fun cls d _ H => E cls d H) J (fun _ _ _ h => h) c
  have fl : HandSPX.FlyingZ B X.stack a (Zc cls d) s'.heap := by
    obtain ⟨a', B', H'', cls', d', ea, fl', _⟩ := c
    cases ea
    obtain ⟨_, _, _, oe', vs', T', oT', ts', g1, g2, g3, g4, g5, g6, g7, g8, g9⟩ := fl'
    rcases sky with ⟨_, _, _, oe, vs, k1, k2, k3, k4⟩ | f | ⟨_, _, _, oe, vs, T, oT, ts, k1, k2, k3, k4, k5, k6, k7, k8, k9⟩
    · exfalso
      rw [g1] at k1
      cases k1
      rw [g3] at k3
      cases k3
      rw [g4] at k4
      cases k4
    · exact f
    · exfalso
      rw [g1] at k1
      cases k1
      rw [g3] at k3
      cases k3
      rw [g4] at k4
      cases k4
      rw [g7] at k7
      cases k7
      rw [g8] at k8
      cases k8
      rw [g9] at k9
      exact absurd (Option.some.inj k9) (by simp [rawInt])
  have IX : Inv X pins σ H1 sI := I3.call' (ch := fp) J1.os J1.base J1.hok J1.bare fun b hb => ⟨(f3 b hb).2.2.2.1, (f3 b hb).2.1, (f3 b hb).2.2.2.2.1, (f3 b hb).2.2.2.2.2⟩
  have nC : H1 ce.locals = none := J1.free
  have fC : FpOk X pins H1 ce.locals := by
    have z := nC
    rw [cL] at z ⊢
    exact I3.fpOk (Nat.le_refl _) z
  have IX2 : Inv X pins σ H1 { sI with heap := PySem.W.hideAll sI.heap [ce.locals], toks := sI.toks } := IX.turned (fun b o n e => PySem.W.hideAll_get _ e (by simpa using n)) fC.1 fC.2.1 fC.2.2.2.1 fC.2.2.2.2.1 fC.2.2.2.2.2
  have hfr : X.A.frames = some (X.env :: X.outer) := by rw [I3.ok.frames, hst]
  show wpAny (model X.prog X.w) X.A (noteFrame (.ref a) ce) _ _ s'
  rw [noteFrame_env _ cF]
  refine HandSPX.looks_onZ Zc.steady hfr hf (by rw [← hst]; exact fl) fun h1 hh1 up1 => ?_
  obtain ⟨m, hn, _⟩ := J1.loc
  have hn1 := Heap.UpToSlots.ns up1 (Heap.UpToSlots.ns up hn)
  refine ⟨m, hn1, fun h2 m2 hn2 hs2 => ?_⟩
  have hh2 := held_hid hn1 hn2 hs2 hh1
  obtain ⟨_, _, _, oe, vs, T, _, _, t1, _, t3, t4, _⟩ := id hh2
  unfold PySem.passOn
  refine wpAny_bind (wpAny_field t1 t3 t4 ?_)
  rw [if_neg (show ¬ ((Value.ref T == Value.none) = true) from by simp)]
  have fin : wpAny (model X.prog X.w) X.A (setFlight (.ref a) ce.frame) (fun _ s4 => wpAny (model X.prog X.w) X.A (throw (.ref a) : Sem Value) (fun _ _ => False) X.xe s4) X.xe { s' with heap := h2 } := by
    rw [cF, hf]
    refine HandSPX.setFlight_onZ hh2 fun h3 hh3 up3 => wpAny_throw (tk _ _ ?_)
    refine ⟨a, PySem.W.hideAll B [ce.locals], _, pins, σ, H1, cls, d, rfl, IX2, fun b o z hb => PySem.W.hideAll_get [ce.locals] (nb b o (PySem.W.of_hideAll _ z) hb) (by simpa using hid_ne z), fun b o z nf => ?_, .inr (.inr (by rw [hst]; exact hh3)), na, os, ag, hW _ _ _ _ w⟩
    obtain ⟨l1, q1⟩ := up b o (PySem.W.of_hideAll _ z) nf
    obtain ⟨l2, q2⟩ := up1 b _ q1 nf
    have q3 : h2.get? b = _ := (hs2.2 b (hid_ne z)).trans q2
    obtain ⟨l3, q4⟩ := up3 b _ q3 nf
    exact ⟨l3, q4⟩
  first
    | exact wpAny_bind (wpAny_pure (wpAny_bind fin))
    | exact wpAny_bind fin
/-- THE RULE: [elt for tg in iter if ..], elt may let out what a call in it lets out -/
theorem pe_lcE {W : WX} {E : XK} {elt tg iter : Expr} {ifs : List Expr} {scope : Scope} {own : List (Str × Nat)} {pos : Pos} {wi : TI} {g : TG} {tt : TT} {te : TE} (tk : Takes X W) (hW : ∀ cls d σ H, E cls d H → W cls d σ H) (hst : X.stack = X.env :: X.outer) (hf : X.env.frame = some X.env.locals)
    (hc : X.calm = true) (hN : X.N.Nodup) (hi : PI X tg iter wi) (ok : BlkOk X.N X.env.scope scope own) (hg : ∀ (s : Shared) (H : Hp) (C : Addr) (cl : List (Str × Addr)) (fp : List Addr), PG (X.blk s H scope (compEnvC scope cl C X.env) fp) tg g)
    (ht : ∀ (s : Shared) (H : Hp) (C : Addr) (cl : List (Str × Addr)) (fp : List Addr), PTs (X.blk s H scope (compEnvC scope cl C X.env) fp) ifs tt)
    (he : ∀ (s : Shared) (H : Hp) (C : Addr) (cl : List (Str × Addr)) (fp : List Addr) (pn : List (Addr × Obj)) (xe : Value → Shared → Prop), Passes (L2.CX X.prog X.w) ((X.blk s H scope (compEnvC scope cl C X.env) fp).tr pn xe) E → PE ((X.blk s H scope (compEnvC scope cl C X.env) fp).tr pn xe) elt te)
    (hs : ∀ x, foldedSetIterable iter X.env x = pure x := by intro _; rfl) : PE X (.ListComp elt [⟨tg, iter, ifs, 0⟩] scope pos) (tLc wi g tt te (own.map (·.2))) := by
  refine ⟨fun pins s σ H Q I h => ?_⟩
  rw [eval_ListComp]
  have free : ∀ y ∈ scope.names, y.2 = .free → ∃ c, X.env.cells.lookup y.1 = some c := fun y hy e => (ok.free y hy e).elim (fun k => I.ok.has _ (.inl k)) fun k => I.ok.has _ (.inr k)
  refine comprehension_at (use := none) rfl hs (closure_ok free) ok.kind (fun y hy e => by rw [ok.uniq y hy, e]) (thn (hi.run pins s σ H _ I h) fun _ _ hx => thn hx fun _ s2 h2 => ?_)
  obtain ⟨it, fp, tn, J, H2, rfl, I2, T, st2, f2, q⟩ := h2
  refine wpAny_newObj_type (newEnv_comp ?_) (by show 0 ≤ sizeLine; decide)
  generalize hL : s2.heap.objs.size = L
  have nL : H2 L = none := I2.hok.fresh (Nat.le_of_eq hL)
  obtain ⟨V, ⟨m0, v0⟩, turn⟩ := q L nL
  generalize hs3 : ({ s2 with heap := s2.heap.push { cls := .type "list", data := .seq ([] : List Value).toArray } } : Shared) = s3
  have h3 : s3.heap = s2.heap.push { cls := .type "list", data := .seq ([] : List Value).toArray } := by rw [← hs3]
  have grow : ∀ b o, s2.heap.get? b = some o → s3.heap.get? b = some o := fun b o e => by rw [h3]; exact Heap.get?_push_of_some _ e
  have I3 : Inv X pins σ (upd H2 L (.lst [])) s3 := by
    rw [← hs3]
    refine I2.laid (t' := s2.toks) (fun b o e => Heap.get?_push_of_some _ e) (Nat.le_of_eq hL) ⟨Nat.zero_le _, [], 0, .nil, ?_⟩
    rw [← hL]; exact Heap.get?_push_size _ rfl
  have lt2 : ∀ b ∈ fp, b < s2.heap.objs.size := fun b hb => let ⟨_, e, _⟩ := T.obj _ _ st2 b hb; Heap.lt_size e
  have f3 : ∀ b ∈ fp, FpOk X pins (upd H2 L (.lst [])) b ∧ b < s3.heap.objs.size := fun b hb => by
    refine ⟨⟨?_, (f2 b hb).2⟩, by rw [h3, Heap.size_push]; exact Nat.lt_succ_of_lt (lt2 b hb)⟩
    rw [upd_ne (by rw [← hL]; exact Nat.ne_of_lt (lt2 b hb))]; exact (f2 b hb).1
  have st3 : tn 0 s3.heap := T.keep _ _ _ st2 fun b _ o e => grow b o e
  have I4 := block_start I3 ok hN f3
  have pg := hg s3 (upd H2 L (.lst [])) s3.heap.objs.size (cellsFrom (s3.heap.objs.size + 1) scope.names (cloFrom X.env.cells scope.names [])) fp
  have pt := ht s3 (upd H2 L (.lst [])) s3.heap.objs.size (cellsFrom (s3.heap.objs.size + 1) scope.names (cloFrom X.env.cells scope.names [])) fp
  have pe := he s3 (upd H2 L (.lst [])) s3.heap.objs.size (cellsFrom (s3.heap.objs.size + 1) scope.names (cloFrom X.env.cells scope.names [])) fp
  show codeAny _ _ (.compStart (.ListComp elt [⟨tg, iter, ifs, 0⟩] scope pos) 0 (.ref it) (.ref L) (compEnvC scope (cellsFrom (s3.heap.objs.size + 1) scope.names (cloFrom X.env.cells scope.names [])) s3.heap.objs.size X.env)) (compEnds (model X.prog X.w) X.A X.xe none (EP X pins σ Q) (.ref L) (compEnvC scope (cellsFrom (s3.heap.objs.size + 1) scope.names (cloFrom X.env.cells scope.names [])) s3.heap.objs.size X.env)) { s3 with heap := pushCells (s3.heap.push { cls := .type "dict", data := .dict #[] }) scope.names }
  generalize hce : compEnvC scope (cellsFrom (s3.heap.objs.size + 1) scope.names (cloFrom X.env.cells scope.names [])) s3.heap.objs.size X.env = ce at I4 pg pt pe ⊢
  have cL : ce.locals = s3.heap.objs.size := by subst hce; rfl
  have cF : ce.frame = X.env.frame := by subst hce; rfl
  have no0 : ∀ b ∈ fp, (upd H2 L (.lst [])) b = none := fun b hb => (f3 b hb).1.1
  generalize hH3 : upd H2 L (.lst []) = H3 at I3 I4 pg pt pe v0 no0 f3
  generalize hs4 : ({ s3 with heap := pushCells (s3.heap.push { cls := .type "dict", data := .dict #[] }) scope.names } : Shared) = s4 at I4 ⊢
  have st4 : tn 0 s4.heap := T.keep _ _ _ st3 fun b _ o e => by rw [← hs4]; exact pushCells_keeps _ _ _ _ (Heap.get?_push_of_some _ e)
  have quiet : ∀ {σ' : L2.St} {H' : Hp} {s' : Shared}, Inv (X.blk s3 H3 scope ce fp) [] σ' H' s' → (∀ b ∈ fp, H' b = none) → ∀ b ∈ fp, FpOk (X.blk s3 H3 scope ce fp) [] H' b := fun {σ' H' s'} I' n b hb =>
    ⟨n b hb, (I'.ok.exf b hb).1, I'.ok.exfs b hb, .inl hb, fun x c e => (I'.ok.exf b hb).2 x c e, fun p hp => nomatch hp⟩
  have loop : codeAny (model X.prog X.w) X.A (.compLoop (.ListComp elt [⟨tg, iter, ifs, 0⟩] scope pos) 0 (.ref it) (.ref L) ce) (compEnds (model X.prog X.w) X.A X.xe none (EP X pins σ Q) (.ref L) ce) s4 := by
    refine compLoop_any (fun n s' => ∃ i H', Inv (X.blk s3 H3 scope ce fp) [] (wipe σ (own.map (·.2))) H' s' ∧ tn i s'.heap ∧ (∀ b ∈ fp, H' b = none) ∧ V i n H') ?_ m0 ⟨0, H3, I4, st4, no0, v0⟩
    rintro n s5 ⟨i, H5, I5, st5, n5, v5⟩
    rcases turn i n H5 v5 with ⟨stop, done⟩ | ⟨go, Nx, hNx, step⟩
    · refine thnF (T.done (X.blk s3 H3 scope ce fp) rfl rfl rfl hc i [] s5 _ H5 (fun _ _ => False) I5 (quiet I5 n5) st5 stop) fun r s6 ⟨hr, I6⟩ => ?_
      subst hr
      have I7 : Inv X pins σ H5 s6 := I3.call' (ch := fp) I6.os I6.base I6.hok I6.bare fun b hb => let z := (f3 b hb).1; ⟨z.2.2.2.1, z.2.1, z.2.2.2.2.1, z.2.2.2.2.2⟩
      have z : H5 ce.locals = none := I6.free
      obtain ⟨m, hn, _⟩ := I6.loc
      refine ⟨m, hn, fun h'' sb => ?_⟩
      rw [cL] at z sb
      obtain ⟨k0, k1, k2, k3, k4, k5⟩ := I3.fpOk (Nat.le_refl _) z
      exact ⟨.ref L, H5, I7.turned (t' := s6.toks) (fun b o hb e => (sb.2 b hb).trans e) k0 k1 k3 k4 k5, rfl, done⟩
    · refine thnF (T.item (X.blk s3 H3 scope ce fp) rfl rfl rfl hc i [] s5 _ H5 (fun _ _ => False) I5 (quiet I5 n5) st5 go) fun r s6 ⟨u, hr, h6⟩ => ?_
      subst hr
      refine thnF h6 fun _ s7 ⟨x, H7, I7, r7, y7, st7, n7⟩ => ?_
      have I7p := I7.pinned (quiet I7 n7) (T.obj _ _ st7)
      refine thnF (pg.run _ s7 _ H7 x u _ I7p r7 (step x H7 y7)) fun _ s8 ⟨σ8, H8, I8, w8, q8⟩ => ?_
      refine thnF (pt.run _ s8 σ8 H8 _ I8 q8) fun b s9 ⟨H9, I9, q9⟩ => ?_
      have fin : ∀ {s' : Shared} {H' : Hp}, Inv (X.blk s3 H3 scope ce fp) ([] ++ pinsAt fp s7.heap) σ8 H' s' → Nx H' → ∃ m, m < n ∧ ∃ i H', Inv (X.blk s3 H3 scope ce fp) [] (wipe σ (own.map (·.2))) H' s' ∧ tn i s'.heap ∧ (∀ b ∈ fp, H' b = none) ∧ V i m H' := fun {s' H'} I' nx => by
        obtain ⟨m', hm, v'⟩ := hNx H' nx
        have at_ : ∀ b ∈ fp, ∀ o, s7.heap.get? b = some o → s'.heap.get? b = some o ∧ H' b = none := fun b hb o e => let z := I'.pin (b, o) (List.mem_append_right _ (List.mem_append_right _ (mem_pinsAt hb e))); ⟨z.1, z.2.1⟩
        refine ⟨m', hm, i + 1, H', (I'.unpinned (pins := [])).weak (by rw [← w8, wipe_length]) (fun j v e => ?_), T.keep _ _ _ st7 fun b hb o e => (at_ b hb o e).1, fun b hb => ?_, v'⟩
        · rw [← w8] at e; exact (wipe_some e).1
        · obtain ⟨o, e, _⟩ := T.obj _ _ st7 b hb
          exact (at_ b hb o e).2
      cases b with
      | false => simp only [Bool.false_eq_true, if_false] at q9 ⊢; exact fin I9 q9
      | true =>
        simp only [if_true] at q9 ⊢
        have okB := I9.ok
        have pass : Passes (L2.CX X.prog X.w) ((X.blk s3 H3 scope ce fp).tr ((X.blk s3 H3 scope ce fp).pn ++ ([] ++ pinsAt fp s7.heap)) (fun e s' => notedBy (model X.prog X.w) X.A ce (CompFails (model X.prog X.w) X.A X.xe ce) e s')) E := fun _ _ _ _ _ _ Jb c => comp_fails I3 tk hW hst hf cL cF (fun b hb => (f3 b hb).1) Jb c
        refine wpAny_mono ((pe _ _ pass).run [] s9 σ8 H9 _ (I9.toTry _) q9) (fun z s10 ⟨yv, H10, I10, r10, acc, hD10, hz10, nx⟩ => ?_) fun _ _ f => f
        have I10' := I10.ofTry okB
        exact app_ok (X := X.blk s3 H3 scope ce fp) I10' hD10 hz10 r10 fun s11 I11 => fin I11 nx
  exact codeAny_compStart_list loop (T.self X.A 0 _ _ _ st4 loop)
end
end GS
/-! Rules whose K is told by an equation, for comprehensions. -/
namespace GS
open PySem PySem.Spec PyProof.Rows L2
theorem kx_ixs {X : Cx} {K : PySem.W.Frag} (h : X.K = K) : IxR X (rIx K) := by
  subst h
  exact ix_seq
theorem kx_sll {X : Cx} {K : PySem.W.Frag} (h : X.K = K) : SlR X (rSlL K) := by
  subst h
  exact sl_list
theorem kx_listOf {X : Cx} {K : PySem.W.Frag} (h : X.K = K) : CallR X (.type "list") (fun xs H Q => ∃ p ys, xs = [V.ref p] ∧ (SqL K H p ys ∨ SqT K H p ys) ∧ ∀ l, H l = none → Q (.ref l) (upd H l (.lst ys))) := by
  subst h
  exact call_list_of
theorem kx_slt {X : Cx} {K : PySem.W.Frag} (h : X.K = K) : SlR X (rSlT K) := by
  subst h
  exact sl_tup
end GS
namespace GS
open PySem PySem.Spec PyProof.Rows L2
section
variable {X : Cx}
/-- C.m(k = v, ..), m a staticmethod -/
def tSMethN (C : Addr) (nk : Nat) (sp : Sp) (gV : List V → List V → List V) (E : XK) (ta : TE) (tk : TA) : TE := fun σ H Q => ta σ H fun x H1 => x = .ref C ∧ tk σ H1 fun zs H2 => zs.length = nk ∧ sp (gV [] zs) H2 Q E
theorem pe_smethK0 {CX : CXT} {k : Nat} {C p g : Addr} {mc : Value} {fd : FuncData} {ps ks : List PySem.Str} {sp : Sp} {E : XK} {o : Expr} {m : PySem.Str} {pos apos : Pos} {ta : TE} {tk : TA} {kws : List Keyword} {gg : List Value → List Value → List Value} {gV : List V → List V → List V} {pl : Sem Bool}
    (he : PE X o ta) (r : ClX.CRead X.K C mc) (c : SMet X.K C mc m p g) (F : FnOk X.prog X.w X.K X.mg X.base CX k g fd ps sp) (hk : PySem.W.keepIn X.K (.ref g) = true) (hr : Room k X.A) (kb : KBn X.K fd ps 0 ks gg gV) (hx : Passes CX X E) (hw : PK X kws tk)
    (named : (backToKw pos (keywordEach kws X.env)).all (·.1.isSome) = true := by rfl) (names : (backToKw pos (keywordEach kws X.env)).filterMap (·.1) = ks := by rfl)
    (plain : ((backTo pos (starEach [] X.env)).any (·.1) || (backToKw pos (keywordEach kws X.env)).any (·.1.isNone)) = false := by rfl)
    (ht : eval (.Call (.Attribute o m apos) [] kws pos) X.env = (do let ov ← eval o X.env; standAt apos.atName; let (f, first) ← holding [ov] (getMethod ov m pl); callWith pos f first (backTo pos (starEach [] X.env)) (backToKw pos (keywordEach kws X.env))) := by rfl) :
    PE X (.Call (.Attribute o m apos) [] kws pos) (tSMethN C ks.length sp gV E ta tk) := by
  refine ⟨fun pins s σ H Q I h => PySem.W.methodCall_KW (pl := pl) (thn (he.run pins s σ H _ I h) fun u s1 ⟨x, H1, I1, rx, ex, q⟩ => ?_) ht⟩
  subst ex
  obtain rfl : u = Value.ref C := rx
  obtain ⟨rest, hp⟩ := c.rc
  refine PySem.W.method_cls I1.kIn r.ga (PySem.W.cls_bind I1.kIn r.rd c.at_ (wpAny_call (PySem.W.sm_get (s := { s1 with toks := s1.toks + 1 }) I1.kIn hp (PySem.W.handed_on rfl ?_))))
  have I2 := I1.tok (s1.toks + 1)
  refine PySem.W.callWith_KW0 (h₀ := X.base) I2.ok.mod.kin hk named (thn (hw.run pos pins _ σ H1 _ I2 q) fun ws s3 ⟨zs, H2, I3, rz, m2, q2⟩ => ⟨I3.kIn, ?_⟩) plain
  rw [names]
  exact run_fnN (us := []) (vs := []) F hr kb hx I3 .nil rz rfl m2 q2
/-- C.m(e, ..), m a staticmethod, inside try -/
def tSMethS (C : Addr) (sp : Sp) (E : L2.St → XK) (ta : TE) (t : TA) : TE := fun σ H Q => ta σ H fun x H1 => x = .ref C ∧ t σ H1 fun vs H2 => sp vs H2 Q (E σ)
theorem pe_smethS {CX : CXT} {k : Nat} {C p g : Addr} {mc : Value} {fd : FuncData} {ps : List PySem.Str} {sp : Sp} {E : L2.St → XK} {o e : Expr} {es : List Expr} {m : PySem.Str} {pos apos : Pos} {ta : TE} {t : TA} {pl : Sem Bool}
    (he : PE X o ta) (r : ClX.CRead X.K C mc) (c : SMet X.K C mc m p g) (F : FnOk X.prog X.w X.K X.mg X.base CX k g fd ps sp) (hk : PySem.W.keepIn X.K (.ref g) = true) (hr : Room k X.A) (hb : Binds X.K fd ps []) (hx : ∀ σ, PassesAt CX X σ (E σ)) (ha : PA X (e :: es) t)
    (hst : starEach (e :: es) X.env = (false, eval e X.env) :: starEach es X.env := by rfl) (hpl : (backTo pos (starEach es X.env)).any (·.1) = false := by rfl)
    (ht : eval (.Call (.Attribute o m apos) (e :: es) [] pos) X.env = (do let ov ← eval o X.env; standAt apos.atName; let (f, first) ← holding [ov] (getMethod ov m pl); callWith pos f first (backTo pos (starEach (e :: es) X.env)) (backToKw pos (keywordEach [] X.env))) := by rfl) :
    PE X (.Call (.Attribute o m apos) (e :: es) [] pos) (tSMethS C sp E ta t) := by
  refine ⟨fun pins s σ H Q I h => PySem.W.methodCall_KW (pl := pl) (thn (he.run pins s σ H _ I h) fun u s1 ⟨x, H1, I1, rx, ex, q⟩ => ?_) ht⟩
  subst ex
  obtain rfl : u = Value.ref C := rx
  obtain ⟨rest, hp⟩ := c.rc
  refine PySem.W.method_cls I1.kIn r.ga (PySem.W.cls_bind I1.kIn r.rd c.at_ (wpAny_call (PySem.W.sm_get (s := { s1 with toks := s1.toks + 1 }) I1.kIn hp (PySem.W.handed_on rfl ?_))))
  have I2 := I1.tok (s1.toks + 1)
  refine PySem.W.callWith_K (h₀ := X.base) I2.ok.mod.kin hk (thn (ha.run pos pins _ σ H1 _ I2 q) fun us s3 ⟨vs, H2, I3, rv, q2⟩ => ⟨I3.kIn, ?_⟩) hst hpl
  exact run_fnS F hr hb (hx σ) I3 rv q2
end
end GS
namespace GS
open PySem PySem.Spec PyProof.Rows L2
theorem kx_neD {X : Cx} {K : PySem.W.Frag} (h : X.K = K) (hu : X.A.units + 64 < cLine) : OpR X (compareOp .NotEq) (rNeD K) := by
  subst h
  exact op_neD hu
theorem kx_eqD {X : Cx} {K : PySem.W.Frag} (h : X.K = K) (hu : X.A.units + 64 < cLine) : OpR X (compareOp .Eq) (rEqD K) := by
  subst h
  exact op_eqD hu
/-- (a if t else b) as a test -/
def tIfT (t ta tb : TT) : TT := fun σ H Q => t σ H fun c H1 => if c = true then ta σ H1 Q else tb σ H1 Q
theorem pt_ifExp {X : Cx} {c a b : Expr} {pos : Pos} {t ta tb : TT} (hc : PT X c t) (ha : PT X a ta) (hb : PT X b tb) : PT X (.IfExp c a b pos) (tIfT t ta tb) := by
  refine ⟨fun pins s σ H Q I h => ?_⟩
  rw [arm_isTrue_IfExp]
  refine wpAny_bind (thn (hc.run pins s σ H _ I h) fun d s1 ⟨H1, I1, q1⟩ => ?_)
  cases d with
  | true => exact ha.run pins s1 σ H1 Q I1 q1
  | false => exact hb.run pins s1 σ H1 Q I1 q1
end GS
/-! Comprehensions whose elements are new lists. -/
namespace GS
open PySem PySem.Spec PyProof.Rows L2
/-- lists that were just laid, one a turn, none of them another's -/
theorem r_lcLs {J : It} {n : Nat} {G : Hp → Prop} {Y : Nat → Hp → V → Hp → Prop} {k : Nat} {te : TE} {σ : L2.St} {H1 : Hp} {Q : VK} (w : Walk J n G Y) (o : Nat → List V) (hn : n ≤ 50000) (hG : ∀ H' : Hp, Ex H1 H' → G H')
    (hw : ∀ x, wipe ((wipe σ [k]).set k (some x)) [k] = wipe σ [k])
    (he : ∀ i x H H', i < n → Ex H1 H → Y i H x H' → Ex H H' ∧ ∀ R : VK, (∀ t H4, Ex H' H4 → H' t = none → H4 t = some (.lst (o i)) → R (.ref t) H4) → te ((wipe σ [k]).set k (some x)) H' R)
    (q : ∀ p ts H', H1 p = none → Ex H1 H' → H' p = some (.lst (ts.map V.ref)) → ts.length = n → (p :: ts).Nodup → (∀ t ∈ ts, H1 t = none) → (∀ (j : Nat) (t : Addr), ts[j]? = some t → H' t = some (.lst (o j))) → Q (.ref p) H') : lcB J (gName k) tYes te [k] σ Q H1 := by
  refine r_lcP w (fun D i ys H => ∃ ts : List Addr, ys = ts.map V.ref ∧ ts.length = i ∧ (D :: ts).Nodup ∧ (∀ t ∈ ts, H1 t = none) ∧ ∀ (j : Nat) (t : Addr), ts[j]? = some t → H t = some (.lst (o j))) hn hG
    (fun D H e => ⟨[], rfl, rfl, by simp, (fun t h => nomatch h), fun j t h => by simp at h⟩) (fun D i ys H H' ⟨ts, h1, h2, h3, h4, h5⟩ b => ⟨ts, h1, h2, h3, h4, fun j t h => b _ _ (fun z => (List.nodup_cons.mp h3).1 (by rw [← z]; exact List.mem_of_getElem? h)) (h5 j t h)⟩) ?_ ?_
  · rintro D i x ys H H' hi hD e hd ⟨ts, rfl, h2, h3, h4, h5⟩ y N hN
    obtain ⟨e1, go⟩ := he i x H H' hi e y
    refine ⟨hw x, go N fun t H4 e4 ht ho => hN _ H4 (e1.trans e4) ⟨ts ++ [t], by simp, by simp [h2], ?_, fun u hu => ?_, fun j u hu => ?_⟩⟩
    · obtain ⟨n1, n2⟩ := List.nodup_cons.mp h3
      have tD : t ≠ D := fun z => by rw [z, e1 _ _ hd] at ht; cases ht
      have tts : t ∉ ts := fun z => by
        obtain ⟨j, hj⟩ := List.getElem?_of_mem z
        rw [e1 _ _ (h5 j t hj)] at ht
        cases ht
      refine List.nodup_cons.mpr ⟨fun z => ?_, List.nodup_append.mpr ⟨n2, by simp, fun a ha b hb => ?_⟩⟩
      · rcases List.mem_append.mp z with z | z
        · exact n1 z
        · exact tD (List.mem_singleton.mp z).symm
      · rw [List.mem_singleton.mp hb]
        rintro rfl
        exact tts ha
    · rcases List.mem_append.mp hu with z | z
      · exact h4 u z
      · rw [List.mem_singleton.mp z]
        exact (e.trans e1).free ht
    · rcases Nat.lt_or_ge j ts.length with c | c
      · rw [List.getElem?_append_left c] at hu
        exact e4 _ _ (e1 _ _ (h5 j u hu))
      · rw [List.getElem?_append_right c] at hu
        cases z : j - ts.length with
        | zero =>
          rw [z] at hu
          cases hu
          have : j = i := by omega
          rw [this]
          exact ho
        | succ m => rw [z] at hu; simp at hu
  · rintro D ys H' h1 h2 h3 h4 ⟨ts, rfl, g2, g3, g4, g5⟩
    exact q D ts H' h1 h2 h3 g2 g3 g4 g5
end GS
/-! Comprehensions with two for. -/
namespace GS
open PySem PySem.Spec PyProof.Rows L2
def flatV (F : Nat → List V) (i : Nat) : List V := ((List.range i).map F).flatten
theorem flatV_succ (F : Nat → List V) (i : Nat) : flatV F (i + 1) = flatV F i ++ F i := by
  unfold flatV
  rw [List.range_succ, List.map_append, List.flatten_append]
  simp
theorem flatV_len {F : Nat → List V} : ∀ i, (∀ j, j < i → (F j).length ≤ 200) → (flatV F i).length ≤ 200 * i
  | 0, _ => by simp [flatV]
  | i + 1, h => by
    rw [flatV_succ, List.length_append]
    have := flatV_len i fun j hj => h j (by omega)
    have := h i (by omega)
    omega
/-- tLc2 behind its outer walk -/
def lc2B (J : It) (g : TG) (tt : TT) (wi1 : TI) (g1 : TG) (tt1 : TT) (te : TE) (vs vs1 : List Nat) (σ : L2.St) (Q : VK) : Hp → Prop := fun H1 => tLc2 (fun _ H R => R J H) g tt wi1 g1 tt1 te vs vs1 σ H1 Q
theorem r_lc2 {wi wi1 : TI} {g g1 : TG} {tt tt1 : TT} {te : TE} {vs vs1 : List Nat} {σ : L2.St} {H : Hp} {Q : VK} (q : wi σ H fun J H1 => lc2B J g tt wi1 g1 tt1 te vs vs1 σ Q H1) : tLc2 wi g tt wi1 g1 tt1 te vs vs1 σ H Q := q
theorem if_go {A B : Prop} (h : A) : if true = true then A else B := by
  rw [if_pos rfl]
  exact h
/-- what an inner walk is to give -/
def inB2 (H1 : Hp) (f : List V) (k1 : Nat) (te : TE) (σ2 : L2.St) (J1 : It) : Prop := ∃ (G1 : Hp → Prop) (Y1 : Nat → Hp → V → Hp → Prop), Walk J1 f.length G1 Y1 ∧ (∀ H5, Ex H1 H5 → G1 H5) ∧
  ∀ j y H5 H6, j < f.length → Ex H1 H5 → Y1 j H5 y H6 → Ex H5 H6 ∧ ∀ N : VK, (∀ H7, Ex H6 H7 → N (f.getD j .non) H7) → te ((wipe σ2 [k1]).set k1 (some y)) H6 N
theorem r_lc2P {J : It} {n : Nat} {G : Hp → Prop} {Y : Nat → Hp → V → Hp → Prop} {k k1 : Nat} {wi1 : TI} {te : TE} {σ : L2.St} {H1 : Hp} {Q : VK} (w : Walk J n G Y) (F : Nat → List V) (hn : n ≤ 200) (hF : ∀ i, i < n → (F i).length ≤ 200) (hG : ∀ H' : Hp, Ex H1 H' → G H')
    (hw : ∀ x, wipe ((wipe σ [k, k1]).set k (some x)) [k, k1] = wipe σ [k, k1]) (hw1 : ∀ x y, wipe ((wipe ((wipe σ [k, k1]).set k (some x)) [k1]).set k1 (some y)) [k1] = wipe ((wipe σ [k, k1]).set k (some x)) [k1])
    (he : ∀ i x H H', i < n → Ex H1 H → Y i H x H' → Ex H H' ∧ ∀ R : It → Hp → Prop, (∀ J1, inB2 H1 (F i) k1 te ((wipe σ [k, k1]).set k (some x)) J1 → R J1 H') → wi1 ((wipe σ [k, k1]).set k (some x)) H' R)
    (q : ∀ p H', H1 p = none → Ex H1 H' → H' p = some (.lst (flatV F n)) → Q (.ref p) H') : lc2B J (gName k) tYes wi1 (gName k1) tYes te [k, k1] [k1] σ Q H1 := by
  intro D hD
  have mu : ∀ {H : Hp} {o : HO}, Ex H1 H → Ex H1 (upd H D o) := fun e => Ex.mut e hD
  have len : ∀ i, i ≤ n → (flatV F i).length ≤ 200 * i := fun i hi => flatV_len i fun j hj => hF j (by omega)
  refine ⟨fun i m H => i ≤ n ∧ m = n - i ∧ Ex H1 H ∧ H D = some (.lst (flatV F i)), ⟨n, Nat.zero_le _, by simp, mu (Ex.refl _), upd_same⟩, ?_⟩
  rintro i m H ⟨hi, rfl, e, hd⟩
  rcases Nat.lt_or_eq_of_le hi with c | rfl
  · refine .inr ⟨w.goes i H c (hG H e), fun H' => Ex H1 H' ∧ H' D = some (.lst (flatV F (i + 1))), fun H' h => ⟨n - (i + 1), by omega, by omega, rfl, h⟩, fun x H' y => ?_⟩
    obtain ⟨e1, go⟩ := he i x H H' c e (w.yields i H x H' c (hG H e) y)
    refine r_gName ⟨hw x, ?_⟩
    show wi1 _ _ _
    refine go _ fun J1 ⟨G1, Y1, w1, hG1, st⟩ => ?_
    have l1 := hF i c
    have l2 := len i hi
    refine ⟨fun j k H => j ≤ (F i).length ∧ k = (F i).length - j ∧ Ex H1 H ∧ H D = some (.lst (flatV F i ++ (F i).take j)), ⟨(F i).length, Nat.zero_le _, by simp, e.trans e1, by simpa using e1 _ _ hd⟩, ?_⟩
    rintro j kk H5 ⟨hj, rfl, e5, hd5⟩
    rcases Nat.lt_or_eq_of_le hj with cj | rfl
    · refine .inr ⟨w1.goes j H5 cj (hG1 H5 e5), fun H' => Ex H1 H' ∧ H' D = some (.lst (flatV F i ++ (F i).take (j + 1))), fun H' h => ⟨(F i).length - (j + 1), by omega, by omega, rfl, h⟩, fun z H6 y1 => ?_⟩
      obtain ⟨e6, go1⟩ := st j z H5 H6 cj e5 (w1.yields j H5 z H6 cj (hG1 H5 e5) y1)
      refine r_gName ⟨hw1 x z, ?_⟩
      show te _ _ _
      refine go1 _ fun H7 e7 => ⟨_, e7 _ _ (e6 _ _ hd5), ?_, mu ((e5.trans e6).trans e7), ?_⟩
      · refine sz_lt ?_
        rw [List.length_append, List.length_take]
        omega
      · rw [upd_same, List.append_assoc, List.take_add_one, List.getElem?_eq_getElem cj, List.getD_eq_getElem?_getD, List.getElem?_eq_getElem cj]
        rfl
    · refine .inl ⟨w1.stops H5 (hG1 H5 e5), e5, ?_⟩
      rw [hd5, List.take_length, flatV_succ]
  · exact .inl ⟨w.stops H (hG H e), q D H hD e hd⟩
end GS
/-! A field stored: the value is read first. -/
namespace GS
open PySem PySem.Spec PyProof.Rows L2
/-- sFld behind its value -/
def fldS (K : PySem.W.Frag) (ta : TE) (f : PySem.Str) (D : Ends) (σ : L2.St) : VK := fun y H1 => sFld K ta (fun _ H Q => Q y H) f D σ H1
theorem r_fldS {K : PySem.W.Frag} {ta tv : TE} {f : PySem.Str} {D : Ends} {σ : L2.St} {H : Hp} (q : tv σ H (fldS K ta f D σ)) : sFld K ta tv f D σ H := q
end GS
/-! zip, enumerate within comprehensions within comprehensions. -/
namespace GS
open PySem PySem.Spec PyProof.Rows L2
theorem kx_zipX {X : Cx} {K : PySem.W.Frag} (h : X.K = K) {e e2 : Expr} {ta : TA} {p pos tpos : Pos} {elts : List Expr} {kk : Nat} (hg : Gl X "zip") (hm : X.mg "zip" = none) (ha : PA X [e, e2] ta)
    (hs : starEach [e, e2] X.env = (false, eval e X.env) :: starEach [e2] X.env := by rfl) (hpl : (backTo pos (starEach [e2] X.env)).any (·.1) = false := by rfl) :
    PI X (.Tuple elts kk tpos) (.Call (.Name "zip" p) [e, e2] [] pos) (iZipX K ta) := by
  subst h
  exact pi_zipX hg hm ha hs hpl
theorem kx_enum {X : Cx} {K : PySem.W.Frag} (h : X.K = K) {e : Expr} {ta : TA} {p pos tpos : Pos} {elts : List Expr} {kk : Nat} (hg : Gl X "enumerate") (hm : X.mg "enumerate" = none) (ha : PA X [e] ta) (hs : starEach [e] X.env = [(false, eval e X.env)] := by rfl) :
    PI X (.Tuple elts kk tpos) (.Call (.Name "enumerate" p) [e] [] pos) (iEnum K ta) := by
  subst h
  exact pi_enum hg hm ha hs
end GS
/-! zip of three lists or tuples, in any mix. -/
namespace GS
open PySem PySem.Spec PyProof.Rows L2 TL
def ItzY (K : PySem.W.Frag) (t1 t2 t3 : Bool) (a b c : Addr) : It :=
  ⟨fun i H => ∃ (xs ys zs : List V) (x y z : V), SqX K H t1 a xs ∧ SqX K H t2 b ys ∧ SqX K H t3 c zs ∧ xs[i]? = some x ∧ ys[i]? = some y ∧ zs[i]? = some z,
    fun i H v H' => ∃ T x y z, v = .ref T ∧ H T = none ∧ H' = upd H T (.tup [x, y, z]) ∧ (∀ xs, SqX K H t1 a xs → xs[i]? = some x) ∧ (∀ ys, SqX K H t2 b ys → ys[i]? = some y) ∧ ∀ zs, SqX K H t3 c zs → zs[i]? = some z,
    fun i H => ∃ xs ys zs : List V, SqX K H t1 a xs ∧ SqX K H t2 b ys ∧ SqX K H t3 c zs ∧ i ≤ xs.length ∧ i ≤ ys.length ∧ i ≤ zs.length ∧ (i = xs.length ∨ i = ys.length ∨ i = zs.length)⟩
theorem turn_zipY {P : Program} {w : World} {K : PySem.W.Frag} {elts : List Expr} {kk : Nat} {tpos : Pos} {t1 t2 t3 : Bool} {a b c0 z TI TO i1 i2 i3 : Addr} (D : ZipSep3 z TI TO i1 i2 i3 [i1, a] [i2, b] [i3, c0]) :
    Turn P w K (.Tuple elts kk tpos) (ItzY K t1 t2 t3 a b c0) [z, TI, TO, i1, i2, i3] z (fun i h => IsZip h z TI TO .none ∧ IsTupOf3 h TI (.ref i1) (.ref i2) (.ref i3) ∧ (∃ x y u, IsTupOf3 h TO x y u) ∧ itAt h t1 i1 a i ∧ itAt h t2 i2 b i ∧ itAt h t3 i3 c0 i) where
  mem := by simp
  obj := fun i h st c hc => by
    obtain ⟨hz, hTI, ⟨x, y, u, hTO⟩, h1, h2, h3⟩ := st
    have e' : c = z ∨ c = TI ∨ c = TO ∨ c = i1 ∨ c = i2 ∨ c = i3 := by simpa using hc
    rcases e' with q | q | q | q | q | q
    · rw [q]; exact ⟨_, hz, fun v q => nomatch q⟩
    · rw [q]; exact ⟨_, hTI, fun v q => nomatch q⟩
    · rw [q]; exact ⟨_, hTO, fun v q => nomatch q⟩
    · rw [q]; exact itAt_obj h1
    · rw [q]; exact itAt_obj h2
    · rw [q]; exact itAt_obj h3
  keep := fun i h h' st k => by
    obtain ⟨hz, hTI, ⟨x, y, u, hTO⟩, h1, h2, h3⟩ := st
    exact ⟨k z (by simp) _ hz, k TI (by simp) _ hTI, ⟨x, y, u, k TO (by simp) _ hTO⟩, itAt_keep h1 fun o q => k i1 (by simp) o q, itAt_keep h2 fun o q => k i2 (by simp) o q, itAt_keep h3 fun o q => k i3 (by simp) o q⟩
  item := by
    intro X hP hw hK hc i pins s σ H E I hf st hg
    subst hP hw hK
    obtain ⟨hz, hTI, ⟨x0, y0, u0, hTO⟩, h1, h2, h3⟩ := st
    obtain ⟨xs, ys, zs, x, y, zz, hqx, hqy, hqz, hx, hy, hzz⟩ := hg
    obtain ⟨its, rv, p⟩ := sqX_get I hqx
    obtain ⟨its2, rv2, p2⟩ := sqX_get I hqy
    obtain ⟨its3, rv3, p3⟩ := sqX_get I hqz
    obtain ⟨u, hu, ru⟩ := rv.get hx
    obtain ⟨u2, hu2, ru2⟩ := rv2.get hy
    obtain ⟨u3, hu3, ru3⟩ := rv3.get hzz
    have hzl : z < s.heap.objs.size := Heap.lt_size hz
    have n1 : a ≠ i1 := fun e => by
      cases t1 with
      | true =>
        obtain ⟨o2, e2, c2, _⟩ := (show s.heap.IsTuple a its.toArray from p)
        obtain ⟨o3, e3, c3, _⟩ := (show s.heap.IsTupleIter i1 a i from h1)
        rw [← e, e2] at e3
        cases e3
        rw [c2] at c3
        exact absurd c3 (by decide)
      | false =>
        obtain ⟨o2, e2, c2, _⟩ := (show s.heap.IsList a its.toArray from p)
        obtain ⟨o3, e3, c3, _⟩ := (show s.heap.IsListIter i1 a i from h1)
        rw [← e, e2] at e3
        cases e3
        rw [c2] at c3
        exact absurd c3 (by decide)
    have n2 : b ≠ i2 := fun e => by
      cases t2 with
      | true =>
        obtain ⟨o2, e2, c2, _⟩ := (show s.heap.IsTuple b its2.toArray from p2)
        obtain ⟨o3, e3, c3, _⟩ := (show s.heap.IsTupleIter i2 b i from h2)
        rw [← e, e2] at e3
        cases e3
        rw [c2] at c3
        exact absurd c3 (by decide)
      | false =>
        obtain ⟨o2, e2, c2, _⟩ := (show s.heap.IsList b its2.toArray from p2)
        obtain ⟨o3, e3, c3, _⟩ := (show s.heap.IsListIter i2 b i from h2)
        rw [← e, e2] at e3
        cases e3
        rw [c2] at c3
        exact absurd c3 (by decide)
    have n3 : c0 ≠ i3 := fun e => by
      cases t3 with
      | true =>
        obtain ⟨o2, e2, c2, _⟩ := (show s.heap.IsTuple c0 its3.toArray from p3)
        obtain ⟨o3, e3, c3, _⟩ := (show s.heap.IsTupleIter i3 c0 i from h3)
        rw [← e, e2] at e3
        cases e3
        rw [c2] at c3
        exact absurd c3 (by decide)
      | false =>
        obtain ⟨o2, e2, c2, _⟩ := (show s.heap.IsList c0 its3.toArray from p3)
        obtain ⟨o3, e3, c3, _⟩ := (show s.heap.IsListIter i3 c0 i from h3)
        rw [← e, e2] at e3
        cases e3
        rw [c2] at c3
        exact absurd c3 (by decide)
    have k1 : i < its.toArray.size := by have := (List.getElem?_eq_some_iff.mp hu).1; simpa using this
    have k2 : i < its2.toArray.size := by have := (List.getElem?_eq_some_iff.mp hu2).1; simpa using this
    have k3 : i < its3.toArray.size := by have := (List.getElem?_eq_some_iff.mp hu3).1; simpa using this
    refine wpAny_pyNext_zipD3_item D (dr_at (prog := X.prog) (w := X.w) (A := X.A.in1) (I.ok.hd hc) t1 i1 a n1 its.toArray) (dr_at (prog := X.prog) (w := X.w) (A := X.A.in1) (I.ok.hd hc) t2 i2 b n2 its2.toArray) (dr_at (prog := X.prog) (w := X.w) (A := X.A.in1) (I.ok.hd hc) t3 i3 c0 n3 its3.toArray) hz hTI hTO ⟨h1, p⟩ ⟨h2, p2⟩ ⟨h3, p3⟩ k1 k2 k3 fun x1 x2 x3 h' tk y1 y2 y3 z' TO' st1' st2' st3' hT hsz hk => ?_
    have e1 : x1 = u := by have : its[i]? = some x1 := by simpa using y1
                           rw [hu] at this; exact (Option.some.inj this).symm
    have e2 : x2 = u2 := by have : its2[i]? = some x2 := by simpa using y2
                            rw [hu2] at this; exact (Option.some.inj this).symm
    have e3 : x3 = u3 := by have : its3[i]? = some x3 := by simpa using y3
                            rw [hu3] at this; exact (Option.some.inj this).symm
    subst e1 e2 e3
    refine ⟨_, rfl, wpAny_letOwnedTupleGo_zip (s := { s with heap := h', toks := tk }) z' fun h'' z'' sb => ?_⟩
    have hT2 : h''.get? s.heap.objs.size = some { cls := .type "tuple", data := .seq #[x1, x2, x3] } := (sb.2 _ (Nat.ne_of_gt hzl)).trans hT
    have new : ObjOk X.prog X.w (upd H s.heap.objs.size (.tup [x, y, zz])) h'' s.heap.objs.size (.tup [x, y, zz]) :=
      ⟨by show 3 ≤ sizeLine; decide, [x1, x2, x3], .cons ru (.cons ru2 (.cons ru3 .nil)), ⟨_, hT2, rfl, _, rfl⟩⟩
    have I1 : Inv X pins σ (upd H s.heap.objs.size (.tup [x, y, zz])) { s with heap := h'', toks := tk } :=
      I.turnedNew (t' := tk) (ch := [z, TI, TO, i1, i2, i3]) (fun c o hb q => (sb.2 c (fun q' => hb (by simp [q']))).trans (hk c o (fun q' => hb (by simp [q'])) (fun q' => hb (by simp [q'])) (fun q' => hb (by simp [q'])) (fun q' => hb (by simp [q'])) (fun q' => hb (by simp [q'])) q)) hf (Nat.le_refl _) new
    refine ⟨.ref s.heap.objs.size, _, I1, rfl, ⟨_, x, y, zz, rfl, I.hok.fresh (Nat.le_refl _), rfl, (fun l hl => by rw [sqX_inj I hl hqx]; exact hx), (fun l hl => by rw [sqX_inj I hl hqy]; exact hy), fun l hl => by rw [sqX_inj I hl hqz]; exact hzz⟩, ⟨z'', ?_, ⟨x1, x2, x3, ?_⟩, ?_, ?_, ?_⟩, fun c hcm => ?_⟩
    · exact (sb.2 _ D.TIz).trans (hk _ _ D.TIz D.TITO D.TIi1 D.TIi2 D.TIi3 hTI)
    · exact (sb.2 _ D.TOz).trans TO'
    · exact itAt_keep st1'.1 fun o q => (sb.2 _ (Ne.symm D.zi1)).trans q
    · exact itAt_keep st2'.1 fun o q => (sb.2 _ (Ne.symm D.zi2)).trans q
    · exact itAt_keep st3'.1 fun o q => (sb.2 _ (Ne.symm D.zi3)).trans q
    · have hlt : c < s.heap.objs.size := by
        have e' : c = z ∨ c = TI ∨ c = TO ∨ c = i1 ∨ c = i2 ∨ c = i3 := by simpa using hcm
        rcases e' with q | q | q | q | q | q
        · rw [q]; exact hzl
        · rw [q]; exact Heap.lt_size hTI
        · rw [q]; exact Heap.lt_size hTO
        · rw [q]; obtain ⟨_, e1, _⟩ := itAt_obj h1; exact Heap.lt_size e1
        · rw [q]; obtain ⟨_, e2, _⟩ := itAt_obj h2; exact Heap.lt_size e2
        · rw [q]; obtain ⟨_, e3, _⟩ := itAt_obj h3; exact Heap.lt_size e3
      rw [upd_ne (Nat.ne_of_lt hlt)]
      exact (hf c hcm).1
  done := by
    intro X hP hw hK hc i pins s σ H E I hf st hg
    subst hP hw hK
    obtain ⟨hz, hTI, ⟨x0, y0, u0, hTO⟩, h1, h2, h3⟩ := st
    obtain ⟨xs, ys, zs, hqx, hqy, hqz, l1, l2, l3, hend⟩ := hg
    obtain ⟨its, rv, p⟩ := sqX_get I hqx
    obtain ⟨its2, rv2, p2⟩ := sqX_get I hqy
    obtain ⟨its3, rv3, p3⟩ := sqX_get I hqz
    have m1 := rv.length
    have m2 := rv2.length
    have m3 := rv3.length
    have n1 : a ≠ i1 := fun e => by
      cases t1 with
      | true =>
        obtain ⟨o2, e2, c2, _⟩ := (show s.heap.IsTuple a its.toArray from p)
        obtain ⟨o3, e3, c3, _⟩ := (show s.heap.IsTupleIter i1 a i from h1)
        rw [← e, e2] at e3
        cases e3
        rw [c2] at c3
        exact absurd c3 (by decide)
      | false =>
        obtain ⟨o2, e2, c2, _⟩ := (show s.heap.IsList a its.toArray from p)
        obtain ⟨o3, e3, c3, _⟩ := (show s.heap.IsListIter i1 a i from h1)
        rw [← e, e2] at e3
        cases e3
        rw [c2] at c3
        exact absurd c3 (by decide)
    have n2 : b ≠ i2 := fun e => by
      cases t2 with
      | true =>
        obtain ⟨o2, e2, c2, _⟩ := (show s.heap.IsTuple b its2.toArray from p2)
        obtain ⟨o3, e3, c3, _⟩ := (show s.heap.IsTupleIter i2 b i from h2)
        rw [← e, e2] at e3
        cases e3
        rw [c2] at c3
        exact absurd c3 (by decide)
      | false =>
        obtain ⟨o2, e2, c2, _⟩ := (show s.heap.IsList b its2.toArray from p2)
        obtain ⟨o3, e3, c3, _⟩ := (show s.heap.IsListIter i2 b i from h2)
        rw [← e, e2] at e3
        cases e3
        rw [c2] at c3
        exact absurd c3 (by decide)
    have n3 : c0 ≠ i3 := fun e => by
      cases t3 with
      | true =>
        obtain ⟨o2, e2, c2, _⟩ := (show s.heap.IsTuple c0 its3.toArray from p3)
        obtain ⟨o3, e3, c3, _⟩ := (show s.heap.IsTupleIter i3 c0 i from h3)
        rw [← e, e2] at e3
        cases e3
        rw [c2] at c3
        exact absurd c3 (by decide)
      | false =>
        obtain ⟨o2, e2, c2, _⟩ := (show s.heap.IsList c0 its3.toArray from p3)
        obtain ⟨o3, e3, c3, _⟩ := (show s.heap.IsListIter i3 c0 i from h3)
        rw [← e, e2] at e3
        cases e3
        rw [c2] at c3
        exact absurd c3 (by decide)
    refine wpAny_pyNext_zipD3_end D (dr_at (prog := X.prog) (w := X.w) (A := X.A.in1) (I.ok.hd hc) t1 i1 a n1 its.toArray) (dr_at (prog := X.prog) (w := X.w) (A := X.A.in1) (I.ok.hd hc) t2 i2 b n2 its2.toArray) (dr_at (prog := X.prog) (w := X.w) (A := X.A.in1) (I.ok.hd hc) t3 i3 c0 n3 its3.toArray) hz hTI hTO ⟨h1, p⟩ ⟨h2, p2⟩ ⟨h3, p3⟩ (by rw [List.size_toArray]; omega) (by rw [List.size_toArray]; omega) (by rw [List.size_toArray]; omega) (by rw [List.size_toArray, List.size_toArray, List.size_toArray]; omega) fun h' tk hk => ⟨rfl, ?_⟩
    exact I.turnedL (t' := tk) (ch := [z, TI, TO, i1, i2, i3]) (fun c o hb q => hk c o (fun q' => hb (by simp [q'])) (fun q' => hb (by simp [q'])) (fun q' => hb (by simp [q'])) (fun q' => hb (by simp [q'])) (fun q' => hb (by simp [q'])) q) hf
  self := fun A i s Q E st h => wpAny_pyIter_zip st.1 h
def iZipY (K : PySem.W.Frag) (ta : TA) : TI := fun σ H R => ta σ H fun vs H1 => ∃ t1 t2 t3 a b c xs ys zs, vs = [.ref a, .ref b, .ref c] ∧ SqX K H1 t1 a xs ∧ SqX K H1 t2 b ys ∧ SqX K H1 t3 c zs ∧ R (ItzY K t1 t2 t3 a b c) H1
theorem pi_zipY {X : Cx} {e e2 e3 : Expr} {ta : TA} {p pos tpos : Pos} {elts : List Expr} {kk : Nat} (hg : Gl X "zip") (hm : X.mg "zip" = none) (ha : PA X [e, e2, e3] ta)
    (hs : starEach [e, e2, e3] X.env = (false, eval e X.env) :: starEach [e2, e3] X.env := by rfl) (hpl : (backTo pos (starEach [e2, e3] X.env)).any (·.1) = false := by rfl) :
    PI X (.Tuple elts kk tpos) (.Call (.Name "zip" p) [e, e2, e3] [] pos) (iZipY X.K ta) := by
  refine ⟨fun pins s σ H R I h => ?_⟩
  refine Call_ (ld_blt I hg hm PyProof.Rows.boot_zip (PyProof.Rows.callWith_type1 (thn (ha.run pos pins s σ H _ I h) fun us s1 ⟨vs, H1, I1, r1, q1⟩ => ?_) hs hpl))
  obtain ⟨t1, t2, t3, a, b, c0, xs, ys, zs, ex, hqx, hqy, hqz, q⟩ := q1
  subst ex
  cases r1 with
  | cons r rr =>
    cases rr with
    | cons r' rr =>
      cases rr with
      | cons r'' rr =>
        cases rr
        cases r
        cases r'
        cases r''
        have fresh6 : ∀ c, c ∈ [s1.heap.objs.size + 5, s1.heap.objs.size + 3, s1.heap.objs.size + 4, s1.heap.objs.size, s1.heap.objs.size + 1, s1.heap.objs.size + 2] → FpOk X pins H1 c := fun c hcm => by
          have hle : s1.heap.objs.size ≤ c := by
            simp only [List.mem_cons, List.not_mem_nil, or_false] at hcm
            rcases hcm with z | z | z | z | z | z
            · rw [z]; exact Nat.le_add_right _ _
            · rw [z]; exact Nat.le_add_right _ _
            · rw [z]; exact Nat.le_add_right _ _
            · rw [z]; exact Nat.le_refl _
            · rw [z]; exact Nat.le_add_right _ _
            · rw [z]; exact Nat.le_add_right _ _
          exact I1.fpOk hle (I1.hok.fresh hle)
        obtain ⟨its, rv, p1⟩ := sqX_get I1 hqx
        obtain ⟨its2, rv2, p2⟩ := sqX_get I1 hqy
        obtain ⟨its3, rv3, p3⟩ := sqX_get I1 hqz
        refine zip_begins3 (beg_at t1 a its.toArray) (beg_at t2 b its2.toArray) (beg_at t3 c0 its3.toArray) p1 p2 p3 fun h' hz hTI hTO h1 h2 h3 hsz hk => wpAny_pyIter_zip hz ?_
        have I2 : Inv X pins σ H1 { s1 with heap := h' } := I1.kept (t' := s1.toks) hk
        have la := isAt_lt p1
        have lb := isAt_lt p2
        have lc := isAt_lt p3
        have sep : ZipSep3 (s1.heap.objs.size + 5) (s1.heap.objs.size + 3) (s1.heap.objs.size + 4) s1.heap.objs.size (s1.heap.objs.size + 1) (s1.heap.objs.size + 2) [s1.heap.objs.size, a] [s1.heap.objs.size + 1, b] [s1.heap.objs.size + 2, c0] :=
          zip_sep3 (fun c hc => by rw [List.mem_singleton.mp hc]; exact isAt_lt p1) (fun c hc => by rw [List.mem_singleton.mp hc]; exact isAt_lt p2) (fun c hc => by rw [List.mem_singleton.mp hc]; exact isAt_lt p3)
        exact ⟨s1.heap.objs.size + 5, [s1.heap.objs.size + 5, s1.heap.objs.size + 3, s1.heap.objs.size + 4, s1.heap.objs.size, s1.heap.objs.size + 1, s1.heap.objs.size + 2], _, _, H1, rfl, I2, turn_zipY sep, ⟨hz, hTI, ⟨_, _, _, hTO⟩, itAt_new h1, itAt_new h2, itAt_new h3⟩, fresh6, q⟩
theorem kx_zipY {X : Cx} {K : PySem.W.Frag} (h : X.K = K) {e e2 e3 : Expr} {ta : TA} {p pos tpos : Pos} {elts : List Expr} {kk : Nat} (hg : Gl X "zip") (hm : X.mg "zip" = none) (ha : PA X [e, e2, e3] ta)
    (hs : starEach [e, e2, e3] X.env = (false, eval e X.env) :: starEach [e2, e3] X.env := by rfl) (hpl : (backTo pos (starEach [e2, e3] X.env)).any (·.1) = false := by rfl) :
    PI X (.Tuple elts kk tpos) (.Call (.Name "zip" p) [e, e2, e3] [] pos) (iZipY K ta) := by
  subst h
  exact pi_zipY hg hm ha hs hpl
def YTri (f g h : Nat → Option V) (i : Nat) (H : Hp) (v : V) (H' : Hp) : Prop := ∃ T x y z, v = .ref T ∧ H T = none ∧ H' = upd H T (.tup [x, y, z]) ∧ f i = some x ∧ g i = some y ∧ h i = some z
theorem walk_zipY {K : PySem.W.Frag} {t1 t2 t3 : Bool} {a b c : Addr} {xs ys zs : List V} {n : Nat} (hn : n = min (min xs.length ys.length) zs.length) : Walk (ItzY K t1 t2 t3 a b c) n (fun H => SqX K H t1 a xs ∧ SqX K H t2 b ys ∧ SqX K H t3 c zs) (YTri (fun i => xs[i]?) (fun i => ys[i]?) (fun i => zs[i]?)) := by
  subst hn
  refine ⟨fun i _ hi q => ?_, fun _ q => ⟨xs, ys, zs, q.1, q.2.1, q.2.2, by omega, by omega, by omega, by omega⟩, fun i H v H' _ q y => ?_⟩
  · have h1 : i < xs.length := by omega
    have h2 : i < ys.length := by omega
    have h3 : i < zs.length := by omega
    exact ⟨xs, ys, zs, xs[i], ys[i], zs[i], q.1, q.2.1, q.2.2, by simp [h1], by simp [h2], by simp [h3]⟩
  · obtain ⟨T, x, y', z, h1, h2, h3, h4, h5, h6⟩ := y
    exact ⟨T, x, y', z, h1, h2, h3, h4 xs q.1, h5 ys q.2.1, h6 zs q.2.2⟩
theorem r_zipY {K : PySem.W.Frag} {ta : TA} {σ : L2.St} {H : Hp} {R : It → Hp → Prop} (q : ta σ H fun vs H1 => ∃ t1 t2 t3 a b c xs ys zs, vs = [.ref a, .ref b, .ref c] ∧ SqX K H1 t1 a xs ∧ SqX K H1 t2 b ys ∧ SqX K H1 t3 c zs ∧ R (ItzY K t1 t2 t3 a b c) H1) : iZipY K ta σ H R := q
end GS
namespace K36
open PySem PySem.Spec PyProof.Rows L2 GS
def topS (i : Nat) : Stmt := PySem.Challenge.pw_goodsigns_k36_whole_mean_over_signed_ren.main.body.getD i (.Pass ⟨0, 0, 0, 0⟩)
abbrev s__wall : Stmt := topS 1
abbrev s_BadNumber_init : Stmt := inClass (topS 4) 0
abbrev s_BadPoly_init : Stmt := inClass (topS 5) 0
abbrev s_Misfit_init : Stmt := inClass (topS 6) 0
abbrev s_BadText_init : Stmt := inClass (topS 7) 0
abbrev s_is_integer : Stmt := topS 10
abbrev s_is_within : Stmt := topS 11
abbrev s_is_row : Stmt := topS 12
abbrev s_are_integers : Stmt := topS 13
abbrev s_need_integers : Stmt := topS 14
abbrev s_common_divisor : Stmt := topS 15
abbrev s_items_of : Stmt := topS 18
abbrev s_is_integer_text : Stmt := topS 19
abbrev s_integer_at : Stmt := topS 20
abbrev s_need_end : Stmt := topS 21
abbrev s_integer_text : Stmt := topS 22
abbrev s_Poly_init : Stmt := inClass (topS 25) 0
abbrev s_Poly_eq : Stmt := inClass (topS 25) 1
abbrev s_Poly_str : Stmt := inClass (topS 25) 2
abbrev s_Poly_worth : Stmt := inClass (topS 25) 3
abbrev s_Poly_read : Stmt := inClass (topS 25) 4
abbrev s_need_poly : Stmt := topS 26
abbrev s_lessened : Stmt := topS 27
abbrev s_product_sum : Stmt := topS 29
abbrev s_table_times : Stmt := topS 30
abbrev s_need_like_polys : Stmt := topS 32
abbrev s_factorials_down : Stmt := topS 33
abbrev s_weighted_sum : Stmt := topS 34
abbrev s_mean_sum : Stmt := topS 35
abbrev s_is_table : Stmt := topS 38
abbrev s_row_factors : Stmt := topS 39
abbrev s_table_numbers : Stmt := topS 40
abbrev s_table_poly : Stmt := topS 41
abbrev s__law_crate : Stmt := topS 43
abbrev s__law_lift : Stmt := topS 44
abbrev s__law_choose : Stmt := topS 45
abbrev s__law_entry : Stmt := topS 46
abbrev s__law_table : Stmt := topS 47
abbrev s__law_renamings : Stmt := topS 48
abbrev s__law_signs : Stmt := topS 49
abbrev s__law_worth : Stmt := topS 50
abbrev s__law_lots : Stmt := topS 51
abbrev s__law_poly : Stmt := topS 52
abbrev s__law_total : Stmt := topS 53
abbrev s__law_lowest : Stmt := topS 54
abbrev s_law : Stmt := topS 55
theorem sc__wall : FnScope ["k"] ["k"] (defScope s__wall) := ⟨rfl, rfl, rfl, by decide +kernel, rfl, by decide +kernel, by decide +kernel⟩
theorem sc_BadNumber_init : FnScope ["self", "part"] ["self", "part"] (defScope s_BadNumber_init) := ⟨rfl, rfl, rfl, by decide +kernel, rfl, by decide +kernel, by decide +kernel⟩
theorem sc_BadPoly_init : FnScope ["self", "part"] ["self", "part"] (defScope s_BadPoly_init) := ⟨rfl, rfl, rfl, by decide +kernel, rfl, by decide +kernel, by decide +kernel⟩
theorem sc_Misfit_init : FnScope ["self", "part"] ["self", "part"] (defScope s_Misfit_init) := ⟨rfl, rfl, rfl, by decide +kernel, rfl, by decide +kernel, by decide +kernel⟩
theorem sc_BadText_init : FnScope ["self", "line", "item"] ["self", "line", "item"] (defScope s_BadText_init) := ⟨rfl, rfl, rfl, by decide +kernel, rfl, by decide +kernel, by decide +kernel⟩
theorem sc_is_integer : FnScope ["value"] ["value"] (defScope s_is_integer) := ⟨rfl, rfl, rfl, by decide +kernel, rfl, by decide +kernel, by decide +kernel⟩
theorem sc_is_within : FnScope ["value", "least", "most"] ["value", "least", "most"] (defScope s_is_within) := ⟨rfl, rfl, rfl, by decide +kernel, rfl, by decide +kernel, by decide +kernel⟩
theorem sc_is_row : FnScope ["value"] ["value"] (defScope s_is_row) := ⟨rfl, rfl, rfl, by decide +kernel, rfl, by decide +kernel, by decide +kernel⟩
theorem sc_are_integers : FnScope ["value", "each"] ["value"] (defScope s_are_integers) := ⟨rfl, rfl, rfl, by decide +kernel, rfl, by decide +kernel, by decide +kernel⟩
theorem sc_need_integers : FnScope ["value", "part"] ["value", "part"] (defScope s_need_integers) := ⟨rfl, rfl, rfl, by decide +kernel, rfl, by decide +kernel, by decide +kernel⟩
theorem sc_common_divisor : FnScope ["values", "divisor", "value"] ["values"] (defScope s_common_divisor) := ⟨rfl, rfl, rfl, by decide +kernel, rfl, by decide +kernel, by decide +kernel⟩
theorem sc_items_of : FnScope ["text"] ["text"] (defScope s_items_of) := ⟨rfl, rfl, rfl, by decide +kernel, rfl, by decide +kernel, by decide +kernel⟩
theorem sc_is_integer_text : FnScope ["item", "digits", "each"] ["item"] (defScope s_is_integer_text) := ⟨rfl, rfl, rfl, by decide +kernel, rfl, by decide +kernel, by decide +kernel⟩
theorem sc_integer_at : FnScope ["items", "at", "least", "most", "number"] ["items", "at", "least", "most"] (defScope s_integer_at) := ⟨rfl, rfl, rfl, by decide +kernel, rfl, by decide +kernel, by decide +kernel⟩
theorem sc_need_end : FnScope ["items", "many"] ["items", "many"] (defScope s_need_end) := ⟨rfl, rfl, rfl, by decide +kernel, rfl, by decide +kernel, by decide +kernel⟩
theorem sc_integer_text : FnScope ["number", "chunk", "left", "parts", "sign"] ["number"] (defScope s_integer_text) := ⟨rfl, rfl, rfl, by decide +kernel, rfl, by decide +kernel, by decide +kernel⟩
theorem sc_Poly_init : FnScope ["self", "numbers"] ["self", "numbers"] (defScope s_Poly_init) := ⟨rfl, rfl, rfl, by decide +kernel, rfl, by decide +kernel, by decide +kernel⟩
theorem sc_Poly_eq : FnScope ["self", "other"] ["self", "other"] (defScope s_Poly_eq) := ⟨rfl, rfl, rfl, by decide +kernel, rfl, by decide +kernel, by decide +kernel⟩
theorem sc_Poly_str : FnScope ["self", "number"] ["self"] (defScope s_Poly_str) := ⟨rfl, rfl, rfl, by decide +kernel, rfl, by decide +kernel, by decide +kernel⟩
theorem sc_Poly_worth : FnScope ["self", "x"] ["self", "x"] (defScope s_Poly_worth) := ⟨rfl, rfl, rfl, by decide +kernel, rfl, by decide +kernel, by decide +kernel⟩
theorem sc_Poly_read : FnScope ["text", "items", "numbers", "at"] ["text"] (defScope s_Poly_read) := ⟨rfl, rfl, rfl, by decide +kernel, rfl, by decide +kernel, by decide +kernel⟩
theorem sc_need_poly : FnScope ["value", "part"] ["value", "part"] (defScope s_need_poly) := ⟨rfl, rfl, rfl, by decide +kernel, rfl, by decide +kernel, by decide +kernel⟩
theorem sc_lessened : FnScope ["poly", "divisor", "number"] ["poly"] (defScope s_lessened) := ⟨rfl, rfl, rfl, by decide +kernel, rfl, by decide +kernel, by decide +kernel⟩
theorem sc_product_sum : FnScope ["one", "other", "mine", "its"] ["one", "other"] (defScope s_product_sum) := ⟨rfl, rfl, rfl, by decide +kernel, rfl, by decide +kernel, by decide +kernel⟩
theorem sc_table_times : FnScope ["table", "row", "each"] ["table", "row"] (defScope s_table_times) := ⟨rfl, rfl, rfl, by decide +kernel, rfl, by decide +kernel, by decide +kernel⟩
theorem sc_need_like_polys : FnScope ["one", "other"] ["one", "other"] (defScope s_need_like_polys) := ⟨rfl, rfl, rfl, by decide +kernel, rfl, by decide +kernel, by decide +kernel⟩
theorem sc_factorials_down : FnScope ["degree", "at"] ["degree"] (defScope s_factorials_down) := ⟨rfl, rfl, rfl, by decide +kernel, rfl, by decide +kernel, by decide +kernel⟩
theorem sc_weighted_sum : FnScope ["one", "other", "factors", "mine", "number", "factor", "its", "found", "k"] ["one", "other", "factors"] (defScope s_weighted_sum) := ⟨rfl, rfl, rfl, by decide +kernel, rfl, by decide +kernel, by decide +kernel⟩
theorem sc_mean_sum : FnScope ["one", "other"] ["one", "other"] (defScope s_mean_sum) := ⟨rfl, rfl, rfl, by decide +kernel, rfl, by decide +kernel, by decide +kernel⟩
theorem sc_is_table : FnScope ["value", "row", "i", "j"] ["value"] (defScope s_is_table) := ⟨rfl, rfl, rfl, by decide +kernel, rfl, by decide +kernel, by decide +kernel⟩
theorem sc_row_factors : FnScope ["table", "size", "ahead", "powers", "_", "products", "k", "number"] ["table", "size"] (defScope s_row_factors) := ⟨rfl, rfl, rfl, by decide +kernel, rfl, by decide +kernel, by decide +kernel⟩
theorem sc_table_numbers : FnScope ["table", "numbers", "size", "factors", "at"] ["table"] (defScope s_table_numbers) := ⟨rfl, rfl, rfl, by decide +kernel, rfl, by decide +kernel, by decide +kernel⟩
theorem sc_table_poly : FnScope ["table"] ["table"] (defScope s_table_poly) := ⟨rfl, rfl, rfl, by decide +kernel, rfl, by decide +kernel, by decide +kernel⟩
theorem sc__law_crate : FnScope ["script", "cell"] ["script"] (defScope s__law_crate) := ⟨rfl, rfl, rfl, by decide +kernel, rfl, by decide +kernel, by decide +kernel⟩
theorem sc__law_lift : FnScope ["crate", "many", "rest", "turn", "cell", "mixed"] ["crate", "many"] (defScope s__law_lift) := ⟨rfl, rfl, rfl, by decide +kernel, rfl, by decide +kernel, by decide +kernel⟩
theorem sc__law_choose : FnScope ["crate", "some"] ["crate", "some"] (defScope s__law_choose) := ⟨rfl, rfl, rfl, by decide +kernel, rfl, by decide +kernel, by decide +kernel⟩
theorem sc__law_entry : FnScope ["crate", "far"] ["crate", "far"] (defScope s__law_entry) := ⟨rfl, rfl, rfl, by decide +kernel, rfl, by decide +kernel, by decide +kernel⟩
theorem sc__law_table : FnScope ["crate", "size", "way", "far", "rows", "turn", "one", "other", "number"] ["crate", "size"] (defScope s__law_table) := ⟨rfl, rfl, rfl, by decide +kernel, rfl, by decide +kernel, by decide +kernel⟩
theorem sc__law_renamings : FnScope ["size", "found", "place", "longer", "some", "at"] ["size"] (defScope s__law_renamings) := ⟨rfl, rfl, rfl, by decide +kernel, rfl, by decide +kernel, by decide +kernel⟩
theorem sc__law_signs : FnScope ["size", "found", "turn", "signs"] ["size"] (defScope s__law_signs) := ⟨rfl, rfl, rfl, by decide +kernel, rfl, by decide +kernel, by decide +kernel⟩
theorem sc__law_worth : FnScope ["rows", "total", "sign", "at", "number", "row"] ["rows"] (defScope s__law_worth) := ⟨rfl, rfl, rfl, by decide +kernel, rfl, by decide +kernel, by decide +kernel⟩
theorem sc__law_lots : FnScope ["size", "found", "place", "some"] ["size"] (defScope s__law_lots) := ⟨rfl, rfl, rfl, by decide +kernel, rfl, by decide +kernel, by decide +kernel⟩
theorem sc__law_poly : FnScope ["rows", "size", "numbers", "some", "minor", "other", "one"] ["rows"] (defScope s__law_poly) := ⟨rfl, rfl, rfl, by decide +kernel, rfl, by decide +kernel, by decide +kernel⟩
theorem sc__law_total : FnScope ["one", "other", "size", "total", "names", "signs", "rows", "row", "name", "sign", "far", "to", "held", "mark", "number"] ["one", "other"] (defScope s__law_total) := ⟨rfl, rfl, rfl, by decide +kernel, rfl, by decide +kernel, by decide +kernel⟩
theorem sc__law_lowest : FnScope ["numbers", "by", "number", "rest"] ["numbers"] (defScope s__law_lowest) := ⟨rfl, rfl, rfl, by decide +kernel, rfl, by decide +kernel, by decide +kernel⟩
theorem sc_law : FnScope ["script", "crate", "turn", "size", "one", "other", "mine", "its", "row", "due"] ["script"] (defScope s_law) := ⟨rfl, rfl, rfl, by decide +kernel, rfl, by decide +kernel, by decide +kernel⟩
abbrev tys : List String := ["int", "bool", "str", "NoneType", "list", "tuple", "dict"]
def fa_0 : List He.Fa := [.glo "_wall",
  .glo "is_integer",
  .glo "is_within",
  .glo "is_row",
  .glo "are_integers",
  .glo "need_integers",
  .glo "common_divisor",
  .glo "items_of",
  .glo "is_integer_text",
  .glo "integer_at",
  .glo "need_end",
  .glo "integer_text",
  .glo "need_poly",
  .glo "lessened",
  .glo "product_sum",
  .glo "table_times",
  .glo "need_like_polys",
  .glo "factorials_down",
  .glo "weighted_sum",
  .glo "mean_sum",
  .glo "is_table",
  .glo "row_factors",
  .glo "table_numbers",
  .glo "table_poly",
  .glo "_law_crate",
  .glo "_law_lift",
  .glo "_law_choose",
  .glo "_law_entry",
  .glo "_law_table",
  .glo "_law_renamings"]
def fa_1 : List He.Fa := [.glo "_law_signs",
  .glo "_law_worth",
  .glo "_law_lots",
  .glo "_law_poly",
  .glo "_law_total",
  .glo "_law_lowest",
  .glo "law",
  .glo "SignsError",
  .glo "BadNumber",
  .glo "BadPoly",
  .glo "Misfit",
  .glo "BadText",
  .glo "Poly",
  .keep "_wall",
  .keep "is_integer",
  .keep "is_within",
  .keep "is_row",
  .keep "are_integers",
  .keep "need_integers",
  .keep "common_divisor",
  .keep "items_of",
  .keep "is_integer_text",
  .keep "integer_at",
  .keep "need_end",
  .keep "integer_text",
  .keep "need_poly",
  .keep "lessened",
  .keep "product_sum",
  .keep "table_times",
  .keep "need_like_polys"]
def fa_2 : List He.Fa := [.keep "factorials_down",
  .keep "weighted_sum",
  .keep "mean_sum",
  .keep "is_table",
  .keep "row_factors",
  .keep "table_numbers",
  .keep "table_poly",
  .keep "_law_crate",
  .keep "_law_lift",
  .keep "_law_choose",
  .keep "_law_entry",
  .keep "_law_table",
  .keep "_law_renamings",
  .keep "_law_signs",
  .keep "_law_worth",
  .keep "_law_lots",
  .keep "_law_poly",
  .keep "_law_total",
  .keep "_law_lowest",
  .keep "law",
  .free "isinstance",
  .free "int",
  .free "bool",
  .free "str",
  .free "list",
  .free "tuple",
  .free "len",
  .free "abs",
  .free "range",
  .free "all"]
def fa_3 : List He.Fa := [.free "enumerate",
  .free "zip",
  .free "sum",
  .free "min",
  .str "DIGITS" "0123456789",
  .int "MOST_DIGITS" 60,
  .int "MOST_NUMBERS" 64,
  .int "MOST_ROWS" 24,
  .cls "Poly",
  .noat "Poly" "numbers",
  .noat "Poly" "degree",
  .mkr "Poly",
  .meth "Poly" "__eq__"]
def fa_all : List He.Fa := fa_0 ++ fa_1 ++ fa_2 ++ fa_3
def ex_0 : List Chk := [clsB "Poly" tys,
  neB "Poly",
  bnB "gcd" "math.gcd",
  bnB "factorial" "math.factorial",
  topB,
  errB "BadNumber" ["part"] ["BadNumber", "SignsError"] ["BadPoly", "Misfit"],
  errB "BadPoly" ["part"] ["BadPoly", "SignsError"] ["BadNumber", "Misfit"],
  errB "Misfit" ["part"] ["Misfit", "SignsError"] ["BadNumber", "BadPoly"],
  excB "BadNumber",
  excB "BadPoly",
  excB "Misfit"]
def ex_all : List Chk := ex_0
def fn_0 : List He5.DefA := [⟨fun K => He.ga K "_wall", "_wall", "_wall", defArgs s__wall, defBody s__wall, defScope s__wall, [], []⟩,
  ⟨fun K => He.ma K (He.ga K "BadNumber") "__init__", "__init__", "BadNumber.__init__", defArgs s_BadNumber_init, defBody s_BadNumber_init, defScope s_BadNumber_init, [], []⟩,
  ⟨fun K => He.ma K (He.ga K "BadPoly") "__init__", "__init__", "BadPoly.__init__", defArgs s_BadPoly_init, defBody s_BadPoly_init, defScope s_BadPoly_init, [], []⟩,
  ⟨fun K => He.ma K (He.ga K "Misfit") "__init__", "__init__", "Misfit.__init__", defArgs s_Misfit_init, defBody s_Misfit_init, defScope s_Misfit_init, [], []⟩,
  ⟨fun K => He.ma K (He.ga K "BadText") "__init__", "__init__", "BadText.__init__", defArgs s_BadText_init, defBody s_BadText_init, defScope s_BadText_init, [], []⟩,
  ⟨fun K => He.ga K "is_integer", "is_integer", "is_integer", defArgs s_is_integer, defBody s_is_integer, defScope s_is_integer, [], []⟩,
  ⟨fun K => He.ga K "is_within", "is_within", "is_within", defArgs s_is_within, defBody s_is_within, defScope s_is_within, [], []⟩,
  ⟨fun K => He.ga K "is_row", "is_row", "is_row", defArgs s_is_row, defBody s_is_row, defScope s_is_row, [], []⟩,
  ⟨fun K => He.ga K "are_integers", "are_integers", "are_integers", defArgs s_are_integers, defBody s_are_integers, defScope s_are_integers, [], []⟩,
  ⟨fun K => He.ga K "need_integers", "need_integers", "need_integers", defArgs s_need_integers, defBody s_need_integers, defScope s_need_integers, [], []⟩,
  ⟨fun K => He.ga K "common_divisor", "common_divisor", "common_divisor", defArgs s_common_divisor, defBody s_common_divisor, defScope s_common_divisor, [], []⟩,
  ⟨fun K => He.ga K "items_of", "items_of", "items_of", defArgs s_items_of, defBody s_items_of, defScope s_items_of, [], []⟩,
  ⟨fun K => He.ga K "is_integer_text", "is_integer_text", "is_integer_text", defArgs s_is_integer_text, defBody s_is_integer_text, defScope s_is_integer_text, [], []⟩,
  ⟨fun K => He.ga K "integer_at", "integer_at", "integer_at", defArgs s_integer_at, defBody s_integer_at, defScope s_integer_at, [], []⟩,
  ⟨fun K => He.ga K "need_end", "need_end", "need_end", defArgs s_need_end, defBody s_need_end, defScope s_need_end, [], []⟩,
  ⟨fun K => He.ga K "integer_text", "integer_text", "integer_text", defArgs s_integer_text, defBody s_integer_text, defScope s_integer_text, [], []⟩,
  ⟨fun K => He.ma K (He.ga K "Poly") "__init__", "__init__", "Poly.__init__", defArgs s_Poly_init, defBody s_Poly_init, defScope s_Poly_init, [], []⟩,
  ⟨fun K => He.ma K (He.ga K "Poly") "__eq__", "__eq__", "Poly.__eq__", defArgs s_Poly_eq, defBody s_Poly_eq, defScope s_Poly_eq, [], []⟩,
  ⟨fun K => He.ma K (He.ga K "Poly") "__str__", "__str__", "Poly.__str__", defArgs s_Poly_str, defBody s_Poly_str, defScope s_Poly_str, [], []⟩,
  ⟨fun K => He.ma K (He.ga K "Poly") "worth", "worth", "Poly.worth", defArgs s_Poly_worth, defBody s_Poly_worth, defScope s_Poly_worth, [], []⟩,
  ⟨fun K => He5.wf K (He.ga K "Poly") "staticmethod" "read", "read", "Poly.read", defArgs s_Poly_read, defBody s_Poly_read, defScope s_Poly_read, [], []⟩,
  ⟨fun K => He.ga K "need_poly", "need_poly", "need_poly", defArgs s_need_poly, defBody s_need_poly, defScope s_need_poly, [], []⟩,
  ⟨fun K => He.ga K "lessened", "lessened", "lessened", defArgs s_lessened, defBody s_lessened, defScope s_lessened, [], []⟩,
  ⟨fun K => He.ga K "product_sum", "product_sum", "product_sum", defArgs s_product_sum, defBody s_product_sum, defScope s_product_sum, [], []⟩,
  ⟨fun K => He.ga K "table_times", "table_times", "table_times", defArgs s_table_times, defBody s_table_times, defScope s_table_times, [], []⟩,
  ⟨fun K => He.ga K "need_like_polys", "need_like_polys", "need_like_polys", defArgs s_need_like_polys, defBody s_need_like_polys, defScope s_need_like_polys, [], []⟩,
  ⟨fun K => He.ga K "factorials_down", "factorials_down", "factorials_down", defArgs s_factorials_down, defBody s_factorials_down, defScope s_factorials_down, [], []⟩,
  ⟨fun K => He.ga K "weighted_sum", "weighted_sum", "weighted_sum", defArgs s_weighted_sum, defBody s_weighted_sum, defScope s_weighted_sum, [], []⟩,
  ⟨fun K => He.ga K "mean_sum", "mean_sum", "mean_sum", defArgs s_mean_sum, defBody s_mean_sum, defScope s_mean_sum, [], []⟩,
  ⟨fun K => He.ga K "is_table", "is_table", "is_table", defArgs s_is_table, defBody s_is_table, defScope s_is_table, [], []⟩]
def fn_1 : List He5.DefA := [⟨fun K => He.ga K "row_factors", "row_factors", "row_factors", defArgs s_row_factors, defBody s_row_factors, defScope s_row_factors, [], []⟩,
  ⟨fun K => He.ga K "table_numbers", "table_numbers", "table_numbers", defArgs s_table_numbers, defBody s_table_numbers, defScope s_table_numbers, [], []⟩,
  ⟨fun K => He.ga K "table_poly", "table_poly", "table_poly", defArgs s_table_poly, defBody s_table_poly, defScope s_table_poly, [], []⟩,
  ⟨fun K => He.ga K "_law_crate", "_law_crate", "_law_crate", defArgs s__law_crate, defBody s__law_crate, defScope s__law_crate, [], []⟩,
  ⟨fun K => He.ga K "_law_lift", "_law_lift", "_law_lift", defArgs s__law_lift, defBody s__law_lift, defScope s__law_lift, [], []⟩,
  ⟨fun K => He.ga K "_law_choose", "_law_choose", "_law_choose", defArgs s__law_choose, defBody s__law_choose, defScope s__law_choose, [], []⟩,
  ⟨fun K => He.ga K "_law_entry", "_law_entry", "_law_entry", defArgs s__law_entry, defBody s__law_entry, defScope s__law_entry, [], []⟩,
  ⟨fun K => He.ga K "_law_table", "_law_table", "_law_table", defArgs s__law_table, defBody s__law_table, defScope s__law_table, [], []⟩,
  ⟨fun K => He.ga K "_law_renamings", "_law_renamings", "_law_renamings", defArgs s__law_renamings, defBody s__law_renamings, defScope s__law_renamings, [], []⟩,
  ⟨fun K => He.ga K "_law_signs", "_law_signs", "_law_signs", defArgs s__law_signs, defBody s__law_signs, defScope s__law_signs, [], []⟩,
  ⟨fun K => He.ga K "_law_worth", "_law_worth", "_law_worth", defArgs s__law_worth, defBody s__law_worth, defScope s__law_worth, [], []⟩,
  ⟨fun K => He.ga K "_law_lots", "_law_lots", "_law_lots", defArgs s__law_lots, defBody s__law_lots, defScope s__law_lots, [], []⟩,
  ⟨fun K => He.ga K "_law_poly", "_law_poly", "_law_poly", defArgs s__law_poly, defBody s__law_poly, defScope s__law_poly, [], []⟩,
  ⟨fun K => He.ga K "_law_total", "_law_total", "_law_total", defArgs s__law_total, defBody s__law_total, defScope s__law_total, [], []⟩,
  ⟨fun K => He.ga K "_law_lowest", "_law_lowest", "_law_lowest", defArgs s__law_lowest, defBody s__law_lowest, defScope s__law_lowest, [], []⟩,
  ⟨fun K => He.ga K "law", "law", "law", defArgs s_law, defBody s_law, defScope s_law, [], []⟩]
def fn_all : List He5.DefA := fn_0 ++ fn_1
structure Txt (K : PySem.W.Frag) (mg : Str → Option Value) : Prop where
  g__wall : mg "_wall" = some (.ref (He.ga K "_wall"))
  g_is_integer : mg "is_integer" = some (.ref (He.ga K "is_integer"))
  g_is_within : mg "is_within" = some (.ref (He.ga K "is_within"))
  g_is_row : mg "is_row" = some (.ref (He.ga K "is_row"))
  g_are_integers : mg "are_integers" = some (.ref (He.ga K "are_integers"))
  g_need_integers : mg "need_integers" = some (.ref (He.ga K "need_integers"))
  g_common_divisor : mg "common_divisor" = some (.ref (He.ga K "common_divisor"))
  g_items_of : mg "items_of" = some (.ref (He.ga K "items_of"))
  g_is_integer_text : mg "is_integer_text" = some (.ref (He.ga K "is_integer_text"))
  g_integer_at : mg "integer_at" = some (.ref (He.ga K "integer_at"))
  g_need_end : mg "need_end" = some (.ref (He.ga K "need_end"))
  g_integer_text : mg "integer_text" = some (.ref (He.ga K "integer_text"))
  g_need_poly : mg "need_poly" = some (.ref (He.ga K "need_poly"))
  g_lessened : mg "lessened" = some (.ref (He.ga K "lessened"))
  g_product_sum : mg "product_sum" = some (.ref (He.ga K "product_sum"))
  g_table_times : mg "table_times" = some (.ref (He.ga K "table_times"))
  g_need_like_polys : mg "need_like_polys" = some (.ref (He.ga K "need_like_polys"))
  g_factorials_down : mg "factorials_down" = some (.ref (He.ga K "factorials_down"))
  g_weighted_sum : mg "weighted_sum" = some (.ref (He.ga K "weighted_sum"))
  g_mean_sum : mg "mean_sum" = some (.ref (He.ga K "mean_sum"))
  g_is_table : mg "is_table" = some (.ref (He.ga K "is_table"))
  g_row_factors : mg "row_factors" = some (.ref (He.ga K "row_factors"))
  g_table_numbers : mg "table_numbers" = some (.ref (He.ga K "table_numbers"))
  g_table_poly : mg "table_poly" = some (.ref (He.ga K "table_poly"))
  g__law_crate : mg "_law_crate" = some (.ref (He.ga K "_law_crate"))
  g__law_lift : mg "_law_lift" = some (.ref (He.ga K "_law_lift"))
  g__law_choose : mg "_law_choose" = some (.ref (He.ga K "_law_choose"))
  g__law_entry : mg "_law_entry" = some (.ref (He.ga K "_law_entry"))
  g__law_table : mg "_law_table" = some (.ref (He.ga K "_law_table"))
  g__law_renamings : mg "_law_renamings" = some (.ref (He.ga K "_law_renamings"))
  g__law_signs : mg "_law_signs" = some (.ref (He.ga K "_law_signs"))
  g__law_worth : mg "_law_worth" = some (.ref (He.ga K "_law_worth"))
  g__law_lots : mg "_law_lots" = some (.ref (He.ga K "_law_lots"))
  g__law_poly : mg "_law_poly" = some (.ref (He.ga K "_law_poly"))
  g__law_total : mg "_law_total" = some (.ref (He.ga K "_law_total"))
  g__law_lowest : mg "_law_lowest" = some (.ref (He.ga K "_law_lowest"))
  g_law : mg "law" = some (.ref (He.ga K "law"))
  g_SignsError : mg "SignsError" = some (.ref (He.ga K "SignsError"))
  g_BadNumber : mg "BadNumber" = some (.ref (He.ga K "BadNumber"))
  g_BadPoly : mg "BadPoly" = some (.ref (He.ga K "BadPoly"))
  g_Misfit : mg "Misfit" = some (.ref (He.ga K "Misfit"))
  g_BadText : mg "BadText" = some (.ref (He.ga K "BadText"))
  g_Poly : mg "Poly" = some (.ref (He.ga K "Poly"))
  k__wall : PySem.W.keepIn K (.ref (He.ga K "_wall")) = true
  k_is_integer : PySem.W.keepIn K (.ref (He.ga K "is_integer")) = true
  k_is_within : PySem.W.keepIn K (.ref (He.ga K "is_within")) = true
  k_is_row : PySem.W.keepIn K (.ref (He.ga K "is_row")) = true
  k_are_integers : PySem.W.keepIn K (.ref (He.ga K "are_integers")) = true
  k_need_integers : PySem.W.keepIn K (.ref (He.ga K "need_integers")) = true
  k_common_divisor : PySem.W.keepIn K (.ref (He.ga K "common_divisor")) = true
  k_items_of : PySem.W.keepIn K (.ref (He.ga K "items_of")) = true
  k_is_integer_text : PySem.W.keepIn K (.ref (He.ga K "is_integer_text")) = true
  k_integer_at : PySem.W.keepIn K (.ref (He.ga K "integer_at")) = true
  k_need_end : PySem.W.keepIn K (.ref (He.ga K "need_end")) = true
  k_integer_text : PySem.W.keepIn K (.ref (He.ga K "integer_text")) = true
  k_need_poly : PySem.W.keepIn K (.ref (He.ga K "need_poly")) = true
  k_lessened : PySem.W.keepIn K (.ref (He.ga K "lessened")) = true
  k_product_sum : PySem.W.keepIn K (.ref (He.ga K "product_sum")) = true
  k_table_times : PySem.W.keepIn K (.ref (He.ga K "table_times")) = true
  k_need_like_polys : PySem.W.keepIn K (.ref (He.ga K "need_like_polys")) = true
  k_factorials_down : PySem.W.keepIn K (.ref (He.ga K "factorials_down")) = true
  k_weighted_sum : PySem.W.keepIn K (.ref (He.ga K "weighted_sum")) = true
  k_mean_sum : PySem.W.keepIn K (.ref (He.ga K "mean_sum")) = true
  k_is_table : PySem.W.keepIn K (.ref (He.ga K "is_table")) = true
  k_row_factors : PySem.W.keepIn K (.ref (He.ga K "row_factors")) = true
  k_table_numbers : PySem.W.keepIn K (.ref (He.ga K "table_numbers")) = true
  k_table_poly : PySem.W.keepIn K (.ref (He.ga K "table_poly")) = true
  k__law_crate : PySem.W.keepIn K (.ref (He.ga K "_law_crate")) = true
  k__law_lift : PySem.W.keepIn K (.ref (He.ga K "_law_lift")) = true
  k__law_choose : PySem.W.keepIn K (.ref (He.ga K "_law_choose")) = true
  k__law_entry : PySem.W.keepIn K (.ref (He.ga K "_law_entry")) = true
  k__law_table : PySem.W.keepIn K (.ref (He.ga K "_law_table")) = true
  k__law_renamings : PySem.W.keepIn K (.ref (He.ga K "_law_renamings")) = true
  k__law_signs : PySem.W.keepIn K (.ref (He.ga K "_law_signs")) = true
  k__law_worth : PySem.W.keepIn K (.ref (He.ga K "_law_worth")) = true
  k__law_lots : PySem.W.keepIn K (.ref (He.ga K "_law_lots")) = true
  k__law_poly : PySem.W.keepIn K (.ref (He.ga K "_law_poly")) = true
  k__law_total : PySem.W.keepIn K (.ref (He.ga K "_law_total")) = true
  k__law_lowest : PySem.W.keepIn K (.ref (He.ga K "_law_lowest")) = true
  k_law : PySem.W.keepIn K (.ref (He.ga K "law")) = true
  b_isinstance : mg "isinstance" = none
  b_int : mg "int" = none
  b_bool : mg "bool" = none
  b_str : mg "str" = none
  b_list : mg "list" = none
  b_tuple : mg "tuple" = none
  b_len : mg "len" = none
  b_abs : mg "abs" = none
  b_range : mg "range" = none
  b_all : mg "all" = none
  b_enumerate : mg "enumerate" = none
  b_zip : mg "zip" = none
  b_sum : mg "sum" = none
  b_min : mg "min" = none
  c_DIGITS : ∃ t, mg "DIGITS" = some (.str "0123456789" t)
  c_MOST_DIGITS : ∃ t, mg "MOST_DIGITS" = some (.int 60 t)
  c_MOST_NUMBERS : ∃ t, mg "MOST_NUMBERS" = some (.int 64 t)
  c_MOST_ROWS : ∃ t, mg "MOST_ROWS" = some (.int 24 t)
  cl_Poly : Cls K (He.ga K "Poly")
  na_Poly_numbers : NoAttr K (He.ga K "Poly") "numbers"
  na_Poly_degree : NoAttr K (He.ga K "Poly") "degree"
  mk_Poly : Mk K (He.ga K "Poly") (He.ma K (He.ga K "Poly") "__init__")
  me_Poly_eq : Meth K (He.ga K "Poly") "__eq__" (He.ma K (He.ga K "Poly") "__eq__")
  cc_Poly : ClsC K "Poly" tys
  ne_Poly : PySem.W.findIn K (.ref (He.ga K "Poly")) "__ne__" = some (some (.builtin "object.__ne__"))
  i_gcd : mg "gcd" = some (.builtin "math.gcd")
  i_factorial : mg "factorial" = some (.builtin "math.factorial")
  top : topB K = true
  e_BadNumber : ErrC K "BadNumber" ["part"] ["BadNumber", "SignsError"] ["BadPoly", "Misfit"]
  e_BadPoly : ErrC K "BadPoly" ["part"] ["BadPoly", "SignsError"] ["BadNumber", "Misfit"]
  e_Misfit : ErrC K "Misfit" ["part"] ["Misfit", "SignsError"] ["BadNumber", "BadPoly"]
  x_BadNumber : ExcC K (He.ga K "BadNumber")
  x_BadPoly : ExcC K (He.ga K "BadPoly")
  x_Misfit : ExcC K (He.ga K "Misfit")
  d__wall : ∃ fd, FunD K "_wall" "_wall" (defArgs s__wall) (defBody s__wall) (defScope s__wall) [] [] (He.ga K "_wall") fd
  d_BadNumber_init : ∃ fd, FunD K "__init__" "BadNumber.__init__" (defArgs s_BadNumber_init) (defBody s_BadNumber_init) (defScope s_BadNumber_init) [] [] (He.ma K (He.ga K "BadNumber") "__init__") fd
  d_BadPoly_init : ∃ fd, FunD K "__init__" "BadPoly.__init__" (defArgs s_BadPoly_init) (defBody s_BadPoly_init) (defScope s_BadPoly_init) [] [] (He.ma K (He.ga K "BadPoly") "__init__") fd
  d_Misfit_init : ∃ fd, FunD K "__init__" "Misfit.__init__" (defArgs s_Misfit_init) (defBody s_Misfit_init) (defScope s_Misfit_init) [] [] (He.ma K (He.ga K "Misfit") "__init__") fd
  d_BadText_init : ∃ fd, FunD K "__init__" "BadText.__init__" (defArgs s_BadText_init) (defBody s_BadText_init) (defScope s_BadText_init) [] [] (He.ma K (He.ga K "BadText") "__init__") fd
  d_is_integer : ∃ fd, FunD K "is_integer" "is_integer" (defArgs s_is_integer) (defBody s_is_integer) (defScope s_is_integer) [] [] (He.ga K "is_integer") fd
  d_is_within : ∃ fd, FunD K "is_within" "is_within" (defArgs s_is_within) (defBody s_is_within) (defScope s_is_within) [] [] (He.ga K "is_within") fd
  d_is_row : ∃ fd, FunD K "is_row" "is_row" (defArgs s_is_row) (defBody s_is_row) (defScope s_is_row) [] [] (He.ga K "is_row") fd
  d_are_integers : ∃ fd, FunD K "are_integers" "are_integers" (defArgs s_are_integers) (defBody s_are_integers) (defScope s_are_integers) [] [] (He.ga K "are_integers") fd
  d_need_integers : ∃ fd, FunD K "need_integers" "need_integers" (defArgs s_need_integers) (defBody s_need_integers) (defScope s_need_integers) [] [] (He.ga K "need_integers") fd
  d_common_divisor : ∃ fd, FunD K "common_divisor" "common_divisor" (defArgs s_common_divisor) (defBody s_common_divisor) (defScope s_common_divisor) [] [] (He.ga K "common_divisor") fd
  d_items_of : ∃ fd, FunD K "items_of" "items_of" (defArgs s_items_of) (defBody s_items_of) (defScope s_items_of) [] [] (He.ga K "items_of") fd
  d_is_integer_text : ∃ fd, FunD K "is_integer_text" "is_integer_text" (defArgs s_is_integer_text) (defBody s_is_integer_text) (defScope s_is_integer_text) [] [] (He.ga K "is_integer_text") fd
  d_integer_at : ∃ fd, FunD K "integer_at" "integer_at" (defArgs s_integer_at) (defBody s_integer_at) (defScope s_integer_at) [] [] (He.ga K "integer_at") fd
  d_need_end : ∃ fd, FunD K "need_end" "need_end" (defArgs s_need_end) (defBody s_need_end) (defScope s_need_end) [] [] (He.ga K "need_end") fd
  d_integer_text : ∃ fd, FunD K "integer_text" "integer_text" (defArgs s_integer_text) (defBody s_integer_text) (defScope s_integer_text) [] [] (He.ga K "integer_text") fd
  d_Poly_init : ∃ fd, FunD K "__init__" "Poly.__init__" (defArgs s_Poly_init) (defBody s_Poly_init) (defScope s_Poly_init) [] [] (He.ma K (He.ga K "Poly") "__init__") fd
  d_Poly_eq : ∃ fd, FunD K "__eq__" "Poly.__eq__" (defArgs s_Poly_eq) (defBody s_Poly_eq) (defScope s_Poly_eq) [] [] (He.ma K (He.ga K "Poly") "__eq__") fd
  d_Poly_str : ∃ fd, FunD K "__str__" "Poly.__str__" (defArgs s_Poly_str) (defBody s_Poly_str) (defScope s_Poly_str) [] [] (He.ma K (He.ga K "Poly") "__str__") fd
  d_Poly_worth : ∃ fd, FunD K "worth" "Poly.worth" (defArgs s_Poly_worth) (defBody s_Poly_worth) (defScope s_Poly_worth) [] [] (He.ma K (He.ga K "Poly") "worth") fd
  d_Poly_read : ∃ fd, FunD K "read" "Poly.read" (defArgs s_Poly_read) (defBody s_Poly_read) (defScope s_Poly_read) [] [] (He5.wf K (He.ga K "Poly") "staticmethod" "read") fd
  d_need_poly : ∃ fd, FunD K "need_poly" "need_poly" (defArgs s_need_poly) (defBody s_need_poly) (defScope s_need_poly) [] [] (He.ga K "need_poly") fd
  d_lessened : ∃ fd, FunD K "lessened" "lessened" (defArgs s_lessened) (defBody s_lessened) (defScope s_lessened) [] [] (He.ga K "lessened") fd
  d_product_sum : ∃ fd, FunD K "product_sum" "product_sum" (defArgs s_product_sum) (defBody s_product_sum) (defScope s_product_sum) [] [] (He.ga K "product_sum") fd
  d_table_times : ∃ fd, FunD K "table_times" "table_times" (defArgs s_table_times) (defBody s_table_times) (defScope s_table_times) [] [] (He.ga K "table_times") fd
  d_need_like_polys : ∃ fd, FunD K "need_like_polys" "need_like_polys" (defArgs s_need_like_polys) (defBody s_need_like_polys) (defScope s_need_like_polys) [] [] (He.ga K "need_like_polys") fd
  d_factorials_down : ∃ fd, FunD K "factorials_down" "factorials_down" (defArgs s_factorials_down) (defBody s_factorials_down) (defScope s_factorials_down) [] [] (He.ga K "factorials_down") fd
  d_weighted_sum : ∃ fd, FunD K "weighted_sum" "weighted_sum" (defArgs s_weighted_sum) (defBody s_weighted_sum) (defScope s_weighted_sum) [] [] (He.ga K "weighted_sum") fd
  d_mean_sum : ∃ fd, FunD K "mean_sum" "mean_sum" (defArgs s_mean_sum) (defBody s_mean_sum) (defScope s_mean_sum) [] [] (He.ga K "mean_sum") fd
  d_is_table : ∃ fd, FunD K "is_table" "is_table" (defArgs s_is_table) (defBody s_is_table) (defScope s_is_table) [] [] (He.ga K "is_table") fd
  d_row_factors : ∃ fd, FunD K "row_factors" "row_factors" (defArgs s_row_factors) (defBody s_row_factors) (defScope s_row_factors) [] [] (He.ga K "row_factors") fd
  d_table_numbers : ∃ fd, FunD K "table_numbers" "table_numbers" (defArgs s_table_numbers) (defBody s_table_numbers) (defScope s_table_numbers) [] [] (He.ga K "table_numbers") fd
  d_table_poly : ∃ fd, FunD K "table_poly" "table_poly" (defArgs s_table_poly) (defBody s_table_poly) (defScope s_table_poly) [] [] (He.ga K "table_poly") fd
  d__law_crate : ∃ fd, FunD K "_law_crate" "_law_crate" (defArgs s__law_crate) (defBody s__law_crate) (defScope s__law_crate) [] [] (He.ga K "_law_crate") fd
  d__law_lift : ∃ fd, FunD K "_law_lift" "_law_lift" (defArgs s__law_lift) (defBody s__law_lift) (defScope s__law_lift) [] [] (He.ga K "_law_lift") fd
  d__law_choose : ∃ fd, FunD K "_law_choose" "_law_choose" (defArgs s__law_choose) (defBody s__law_choose) (defScope s__law_choose) [] [] (He.ga K "_law_choose") fd
  d__law_entry : ∃ fd, FunD K "_law_entry" "_law_entry" (defArgs s__law_entry) (defBody s__law_entry) (defScope s__law_entry) [] [] (He.ga K "_law_entry") fd
  d__law_table : ∃ fd, FunD K "_law_table" "_law_table" (defArgs s__law_table) (defBody s__law_table) (defScope s__law_table) [] [] (He.ga K "_law_table") fd
  d__law_renamings : ∃ fd, FunD K "_law_renamings" "_law_renamings" (defArgs s__law_renamings) (defBody s__law_renamings) (defScope s__law_renamings) [] [] (He.ga K "_law_renamings") fd
  d__law_signs : ∃ fd, FunD K "_law_signs" "_law_signs" (defArgs s__law_signs) (defBody s__law_signs) (defScope s__law_signs) [] [] (He.ga K "_law_signs") fd
  d__law_worth : ∃ fd, FunD K "_law_worth" "_law_worth" (defArgs s__law_worth) (defBody s__law_worth) (defScope s__law_worth) [] [] (He.ga K "_law_worth") fd
  d__law_lots : ∃ fd, FunD K "_law_lots" "_law_lots" (defArgs s__law_lots) (defBody s__law_lots) (defScope s__law_lots) [] [] (He.ga K "_law_lots") fd
  d__law_poly : ∃ fd, FunD K "_law_poly" "_law_poly" (defArgs s__law_poly) (defBody s__law_poly) (defScope s__law_poly) [] [] (He.ga K "_law_poly") fd
  d__law_total : ∃ fd, FunD K "_law_total" "_law_total" (defArgs s__law_total) (defBody s__law_total) (defScope s__law_total) [] [] (He.ga K "_law_total") fd
  d__law_lowest : ∃ fd, FunD K "_law_lowest" "_law_lowest" (defArgs s__law_lowest) (defBody s__law_lowest) (defScope s__law_lowest) [] [] (He.ga K "_law_lowest") fd
  d_law : ∃ fd, FunD K "law" "law" (defArgs s_law) (defBody s_law) (defScope s_law) [] [] (He.ga K "law") fd
theorem txt_of {K : PySem.W.Frag} {mg : Str → Option Value} {h : Heap} (X : K.In h) (G : h.Ns mainGlobals mg) (c : SaysM fa_all ex_all fn_all K) : Txt K mg where
  g__wall := He.glo_ok X G (c.fact 0)
  g_is_integer := He.glo_ok X G (c.fact 1)
  g_is_within := He.glo_ok X G (c.fact 2)
  g_is_row := He.glo_ok X G (c.fact 3)
  g_are_integers := He.glo_ok X G (c.fact 4)
  g_need_integers := He.glo_ok X G (c.fact 5)
  g_common_divisor := He.glo_ok X G (c.fact 6)
  g_items_of := He.glo_ok X G (c.fact 7)
  g_is_integer_text := He.glo_ok X G (c.fact 8)
  g_integer_at := He.glo_ok X G (c.fact 9)
  g_need_end := He.glo_ok X G (c.fact 10)
  g_integer_text := He.glo_ok X G (c.fact 11)
  g_need_poly := He.glo_ok X G (c.fact 12)
  g_lessened := He.glo_ok X G (c.fact 13)
  g_product_sum := He.glo_ok X G (c.fact 14)
  g_table_times := He.glo_ok X G (c.fact 15)
  g_need_like_polys := He.glo_ok X G (c.fact 16)
  g_factorials_down := He.glo_ok X G (c.fact 17)
  g_weighted_sum := He.glo_ok X G (c.fact 18)
  g_mean_sum := He.glo_ok X G (c.fact 19)
  g_is_table := He.glo_ok X G (c.fact 20)
  g_row_factors := He.glo_ok X G (c.fact 21)
  g_table_numbers := He.glo_ok X G (c.fact 22)
  g_table_poly := He.glo_ok X G (c.fact 23)
  g__law_crate := He.glo_ok X G (c.fact 24)
  g__law_lift := He.glo_ok X G (c.fact 25)
  g__law_choose := He.glo_ok X G (c.fact 26)
  g__law_entry := He.glo_ok X G (c.fact 27)
  g__law_table := He.glo_ok X G (c.fact 28)
  g__law_renamings := He.glo_ok X G (c.fact 29)
  g__law_signs := He.glo_ok X G (c.fact 30)
  g__law_worth := He.glo_ok X G (c.fact 31)
  g__law_lots := He.glo_ok X G (c.fact 32)
  g__law_poly := He.glo_ok X G (c.fact 33)
  g__law_total := He.glo_ok X G (c.fact 34)
  g__law_lowest := He.glo_ok X G (c.fact 35)
  g_law := He.glo_ok X G (c.fact 36)
  g_SignsError := He.glo_ok X G (c.fact 37)
  g_BadNumber := He.glo_ok X G (c.fact 38)
  g_BadPoly := He.glo_ok X G (c.fact 39)
  g_Misfit := He.glo_ok X G (c.fact 40)
  g_BadText := He.glo_ok X G (c.fact 41)
  g_Poly := He.glo_ok X G (c.fact 42)
  k__wall := He.keep_ok (c.fact 43)
  k_is_integer := He.keep_ok (c.fact 44)
  k_is_within := He.keep_ok (c.fact 45)
  k_is_row := He.keep_ok (c.fact 46)
  k_are_integers := He.keep_ok (c.fact 47)
  k_need_integers := He.keep_ok (c.fact 48)
  k_common_divisor := He.keep_ok (c.fact 49)
  k_items_of := He.keep_ok (c.fact 50)
  k_is_integer_text := He.keep_ok (c.fact 51)
  k_integer_at := He.keep_ok (c.fact 52)
  k_need_end := He.keep_ok (c.fact 53)
  k_integer_text := He.keep_ok (c.fact 54)
  k_need_poly := He.keep_ok (c.fact 55)
  k_lessened := He.keep_ok (c.fact 56)
  k_product_sum := He.keep_ok (c.fact 57)
  k_table_times := He.keep_ok (c.fact 58)
  k_need_like_polys := He.keep_ok (c.fact 59)
  k_factorials_down := He.keep_ok (c.fact 60)
  k_weighted_sum := He.keep_ok (c.fact 61)
  k_mean_sum := He.keep_ok (c.fact 62)
  k_is_table := He.keep_ok (c.fact 63)
  k_row_factors := He.keep_ok (c.fact 64)
  k_table_numbers := He.keep_ok (c.fact 65)
  k_table_poly := He.keep_ok (c.fact 66)
  k__law_crate := He.keep_ok (c.fact 67)
  k__law_lift := He.keep_ok (c.fact 68)
  k__law_choose := He.keep_ok (c.fact 69)
  k__law_entry := He.keep_ok (c.fact 70)
  k__law_table := He.keep_ok (c.fact 71)
  k__law_renamings := He.keep_ok (c.fact 72)
  k__law_signs := He.keep_ok (c.fact 73)
  k__law_worth := He.keep_ok (c.fact 74)
  k__law_lots := He.keep_ok (c.fact 75)
  k__law_poly := He.keep_ok (c.fact 76)
  k__law_total := He.keep_ok (c.fact 77)
  k__law_lowest := He.keep_ok (c.fact 78)
  k_law := He.keep_ok (c.fact 79)
  b_isinstance := He.free_ok X G (c.fact 80)
  b_int := He.free_ok X G (c.fact 81)
  b_bool := He.free_ok X G (c.fact 82)
  b_str := He.free_ok X G (c.fact 83)
  b_list := He.free_ok X G (c.fact 84)
  b_tuple := He.free_ok X G (c.fact 85)
  b_len := He.free_ok X G (c.fact 86)
  b_abs := He.free_ok X G (c.fact 87)
  b_range := He.free_ok X G (c.fact 88)
  b_all := He.free_ok X G (c.fact 89)
  b_enumerate := He.free_ok X G (c.fact 90)
  b_zip := He.free_ok X G (c.fact 91)
  b_sum := He.free_ok X G (c.fact 92)
  b_min := He.free_ok X G (c.fact 93)
  c_DIGITS := He.str_ok X G (c.fact 94)
  c_MOST_DIGITS := He.int_ok X G (c.fact 95)
  c_MOST_NUMBERS := He.int_ok X G (c.fact 96)
  c_MOST_ROWS := He.int_ok X G (c.fact 97)
  cl_Poly := He.cls_ok (c.fact 98)
  na_Poly_numbers := He.noat_ok (c.fact 99)
  na_Poly_degree := He.noat_ok (c.fact 100)
  mk_Poly := He.mkr_ok (c.fact 101)
  me_Poly_eq := He.meth_ok (c.fact 102)
  cc_Poly := clsB_ok (c.chk 0)
  ne_Poly := He.eqO_ok (c.chk 1)
  i_gcd := bnB_ok X G (c.chk 2)
  i_factorial := bnB_ok X G (c.chk 3)
  top := c.chk 4
  e_BadNumber := errB_ok (c.chk 5)
  e_BadPoly := errB_ok (c.chk 6)
  e_Misfit := errB_ok (c.chk 7)
  x_BadNumber := excB_ok (c.chk 4) (errB_ok (c.chk 5)).xf (c.chk 8)
  x_BadPoly := excB_ok (c.chk 4) (errB_ok (c.chk 6)).xf (c.chk 9)
  x_Misfit := excB_ok (c.chk 4) (errB_ok (c.chk 7)).xf (c.chk 10)
  d__wall := c.def_ 0
  d_BadNumber_init := c.def_ 1
  d_BadPoly_init := c.def_ 2
  d_Misfit_init := c.def_ 3
  d_BadText_init := c.def_ 4
  d_is_integer := c.def_ 5
  d_is_within := c.def_ 6
  d_is_row := c.def_ 7
  d_are_integers := c.def_ 8
  d_need_integers := c.def_ 9
  d_common_divisor := c.def_ 10
  d_items_of := c.def_ 11
  d_is_integer_text := c.def_ 12
  d_integer_at := c.def_ 13
  d_need_end := c.def_ 14
  d_integer_text := c.def_ 15
  d_Poly_init := c.def_ 16
  d_Poly_eq := c.def_ 17
  d_Poly_str := c.def_ 18
  d_Poly_worth := c.def_ 19
  d_Poly_read := c.def_ 20
  d_need_poly := c.def_ 21
  d_lessened := c.def_ 22
  d_product_sum := c.def_ 23
  d_table_times := c.def_ 24
  d_need_like_polys := c.def_ 25
  d_factorials_down := c.def_ 26
  d_weighted_sum := c.def_ 27
  d_mean_sum := c.def_ 28
  d_is_table := c.def_ 29
  d_row_factors := c.def_ 30
  d_table_numbers := c.def_ 31
  d_table_poly := c.def_ 32
  d__law_crate := c.def_ 33
  d__law_lift := c.def_ 34
  d__law_choose := c.def_ 35
  d__law_entry := c.def_ 36
  d__law_table := c.def_ 37
  d__law_renamings := c.def_ 38
  d__law_signs := c.def_ 39
  d__law_worth := c.def_ 40
  d__law_lots := c.def_ 41
  d__law_poly := c.def_ 42
  d__law_total := c.def_ 43
  d__law_lowest := c.def_ 44
  d_law := c.def_ 45
end K36
set_option maxHeartbeats 0
namespace K36
open PySem PySem.W PySem.Spec PyProof.Rows L2 GS
abbrev R : PySem.W.OpenRow := PySem.W.OpenLaw.row PySem.Challenge.rw_goodsigns_k36_whole_mean_over_signed_ren
abbrev hk : PySem.W.Hook := hookM 5 fa_all ex_all fn_all
def ob (s : PySem.W.SharedT) : He.AlD := obsMG 5 fa_all ex_all fn_all (HandSHeadRun.getT s)
theorem ob_eq (s : PySem.W.SharedT) : ob s = hk.obs s.abs := obsMG_eq (HandSHeadRun.getT_eq s)
def loose : List PySem.Str := (["_wall", "SignsError", "BadNumber", "BadPoly", "Misfit", "BadText", "DIGITS", "is_integer", "is_within", "is_row"] : List PySem.Str) ++ (["are_integers", "need_integers", "common_divisor", "MOST_DIGITS", "items_of", "is_integer_text", "integer_at", "need_end", "integer_text", "MOST_NUMBERS"] : List PySem.Str) ++ (["Poly", "need_poly", "lessened", "product_sum", "table_times", "need_like_polys", "factorials_down", "weighted_sum", "mean_sum", "MOST_ROWS"] : List PySem.Str) ++ (["is_table", "row_factors", "table_numbers", "table_poly", "_law_crate", "_law_lift", "_law_choose", "_law_entry", "_law_table", "_law_renamings"] : List PySem.Str) ++ (["_law_signs", "_law_worth", "_law_lots", "_law_poly", "_law_total", "_law_lowest"] : List PySem.Str)
theorem run (w : World) : HandSHeadRun.RunEqI R (PySem.W.view R.prog [0, 55]) hk ob 4000 loose w := by

  unfold HandSHeadRun.RunEqI
  kernel_rfl
end K36
namespace K36
open PySem PySem.Spec PyProof.Rows L2 GS TL
local macro_rules | `(tactic| walk_at "rd") => `(tactic| (repeat (first
  | with_reducible refine r_next ?_
  | with_reducible refine r_seq ?_
  | with_reducible refine r_ret ?_
  | with_reducible refine r_ifS ?_
  | with_reducible refine r_asg ?_
  | with_reducible refine r_drop ?_
  | with_reducible refine r_op ?_
  | with_reducible refine r_un ?_
  | with_reducible refine r_cbInt ?_
  | with_reducible refine r_cbAbs ?_
  | with_reducible refine r_cbLen ?_
  | with_reducible refine r_cbList ?_
  | with_reducible refine r_cbTup ?_
  | with_reducible refine r_iEnT ?_
  | with_reducible refine r_iEnL ?_
  | with_reducible refine r_zipA ?_
  | with_reducible refine r_zipX ?_
  | with_reducible refine r_augS ?_
  | with_reducible refine r_cb ?_
  | with_reducible refine r_call ?_
  | with_reducible refine r_make ?_
  | with_reducible refine r_callN0 ?_
  | with_reducible refine r_makeK0 ?_
  | with_reducible refine r_makeS ?_
  | with_reducible refine r_callS ?_
  | with_reducible refine r_cons ?_
  | with_reducible refine r_nil ?_
  | with_reducible refine r_test ?_
  | with_reducible refine r_B ?_
  | with_reducible refine r_and ?_
  | with_reducible refine r_or ?_
  | with_reducible refine r_not ?_
  | with_reducible refine r_andV ?_
  | with_reducible refine r_orV ?_
  | with_reducible refine r_notV ?_
  | with_reducible refine r_if ?_
  | with_reducible refine r_tup ?_
  | with_reducible refine r_lst ?_
  | with_reducible refine r_c ?_
  | with_reducible refine r_lc ?_
  | with_reducible refine r_chain ?_
  | with_reducible refine r_iT ?_
  | with_reducible refine r_iL ?_
  | with_reducible refine r_iR1 ?_
  | with_reducible refine r_iR2 ?_
  | with_reducible refine r_iR3 ?_
  | with_reducible refine r_asgG ?_
  | with_reducible refine r_gSub ?_
  | with_reducible refine r_for ?_
  | with_reducible refine r_smeth ?_
  | with_reducible refine r_par ?_
  | with_reducible refine r_parK ?_
  | with_reducible refine r_gCons ?_
  | with_reducible refine r_gNil ?_
  | with_reducible refine r_gName ?_
  | with_reducible refine r_intI ?_
  | with_reducible refine r_intB ?_
  | with_reducible refine r_absI ?_
  | with_reducible refine r_k ?_
  | with_reducible refine r_kV ?_
  | ((with_reducible show tVar _ _ _ _); refine r_var3 ?_ (by rfl))
  | with_reducible refine r_I0 ?_
  | with_reducible refine r_U ?_
  | with_reducible refine r_eqI ?_
  | with_reducible refine r_neI ?_
  | dsimp only)))
local macro_rules | `(tactic| walk_at "rx") => `(tactic| (repeat (first
  | with_reducible refine r_next ?_
  | with_reducible refine r_ret ?_
  | with_reducible refine r_ifS ?_
  | with_reducible refine r_asg ?_
  | with_reducible refine r_drop ?_
  | with_reducible refine r_op ?_
  | with_reducible refine r_un ?_
  | with_reducible refine r_cbInt ?_
  | with_reducible refine r_cbAbs ?_
  | with_reducible refine r_cbLen ?_
  | with_reducible refine r_cbList ?_
  | with_reducible refine r_cbTup ?_
  | with_reducible refine r_iEnT ?_
  | with_reducible refine r_iEnL ?_
  | with_reducible refine r_zipA ?_
  | with_reducible refine r_zipX ?_
  | with_reducible refine r_augS ?_
  | with_reducible refine r_cb ?_
  | with_reducible refine r_call ?_
  | with_reducible refine r_make ?_
  | with_reducible refine r_callN0 ?_
  | with_reducible refine r_makeK0 ?_
  | with_reducible refine r_makeS ?_
  | with_reducible refine r_callS ?_
  | with_reducible refine r_cons ?_
  | with_reducible refine r_nil ?_
  | with_reducible refine r_test ?_
  | with_reducible refine r_B ?_
  | with_reducible refine r_and ?_
  | with_reducible refine r_or ?_
  | with_reducible refine r_not ?_
  | with_reducible refine r_andV ?_
  | with_reducible refine r_orV ?_
  | with_reducible refine r_notV ?_
  | with_reducible refine r_if ?_
  | with_reducible refine r_tup ?_
  | with_reducible refine r_lst ?_
  | with_reducible refine r_c ?_
  | with_reducible refine r_lc ?_
  | with_reducible refine r_chain ?_
  | with_reducible refine r_iT ?_
  | with_reducible refine r_iL ?_
  | with_reducible refine r_iR1 ?_
  | with_reducible refine r_iR2 ?_
  | with_reducible refine r_iR3 ?_
  | with_reducible refine r_asgG ?_
  | with_reducible refine r_gSub ?_
  | with_reducible refine r_for ?_
  | with_reducible refine r_smeth ?_
  | with_reducible refine r_par ?_
  | with_reducible refine r_parK ?_
  | with_reducible refine r_gCons ?_
  | with_reducible refine r_gNil ?_
  | with_reducible refine r_gName ?_
  | with_reducible refine r_intI ?_
  | with_reducible refine r_intB ?_
  | with_reducible refine r_absI ?_
  | with_reducible refine r_k ?_
  | with_reducible refine r_kV ?_
  | ((with_reducible show tVar _ _ _ _); refine r_var3 ?_ (by rfl))
  | with_reducible refine r_I0 ?_
  | with_reducible refine r_U ?_
  | with_reducible refine r_eqI ?_
  | with_reducible refine r_neI ?_
  | dsimp only)))
/-! ### values -/
/-- a poly: its numbers stand in a tuple -/
def pf (t : Addr) (n : Int) : List (Str × V) := [("numbers", .ref t), ("degree", .int n)]
def Pl (K : PySem.W.Frag) (H : Hp) (a : Addr) (ns : List Int) : Prop := 1 ≤ ns.length ∧ ns.length ≤ 64 ∧ 0 < ns.headD 0 ∧ ∃ dx t, H a = some (.ins (He.ga K "Poly") dx (pf t ((ns.length : Int) - 1))) ∧ H t = some (.tup (ns.map V.int))
theorem Pl.ex {K : PySem.W.Frag} {H H' : Hp} {a : Addr} {ns : List Int} (h : Pl K H a ns) (e : Ex H H') : Pl K H' a ns := let ⟨h1, h2, h3, dx, t, h4, h5⟩ := h; ⟨h1, h2, h3, dx, t, e _ _ h4, e _ _ h5⟩
/-- an instance of a class of the program's -/
abbrev owns : List Str := ["Poly"]
def Own (K : PySem.W.Frag) (H : Hp) (v : V) : Prop := ∃ a C dx fs, v = .ref a ∧ C ∈ owns ∧ H a = some (.ins (He.ga K C) dx fs)
theorem Pl.own {K : PySem.W.Frag} {H : Hp} {a : Addr} {ns : List Int} (h : Pl K H a ns) : Own K H (.ref a) := let ⟨_, _, _, dx, _, h, _⟩ := h; ⟨a, "Poly", dx, _, rfl, by decide, h⟩
/-- a value whose kind is known -/
def Kn (K : PySem.W.Frag) (H : Hp) (v : V) : Prop := (∃ T ∈ tys, TyOf K H v (.type T)) ∨ Own K H v
theorem TyOf.ex' {K : PySem.W.Frag} {H H' : Hp} {v : V} {T : String} (b : TyOf K H v (.type T)) (e : ∀ a, v = .ref a → ∀ o, H a = some o → H' a = some o) : TyOf K H' v (.type T) := by
  cases b with
  | non => exact .non
  | bl b => exact .bl b
  | int i => exact .int i
  | str i => exact .str i
  | flt i => exact .flt i
  | lst q => exact .lst (e _ rfl _ q)
  | frz q => exact .frz (e _ rfl _ q)
  | tup q => exact .tup (e _ rfl _ q)
  | dK q => exact .dK (e _ rfl _ q)
  | dT q => exact .dT (e _ rfl _ q)
theorem TyOf.there {K : PySem.W.Frag} {H : Hp} {a : Addr} {T : String} (b : TyOf K H (.ref a) (.type T)) : ∃ o, H a = some o ∧ ∀ C dx fs, o ≠ .ins C dx fs := by
  cases b with
  | lst q => exact ⟨_, q, fun _ _ _ z => by cases z⟩
  | frz q => exact ⟨_, q, fun _ _ _ z => by cases z⟩
  | tup q => exact ⟨_, q, fun _ _ _ z => by cases z⟩
  | dK q => exact ⟨_, q, fun _ _ _ z => by cases z⟩
  | dT q => exact ⟨_, q, fun _ _ _ z => by cases z⟩
theorem Kn.ex {K : PySem.W.Frag} {H H' : Hp} {v : V} (h : Kn K H v) (e : Ex H H') : Kn K H' v := by
  rcases h with ⟨T, hT, h⟩ | ⟨a, C, dx, fs, h, hC, b⟩
  · exact .inl ⟨T, hT, TyOf.ex' h fun a _ o q => e a o q⟩
  · exact .inr ⟨a, C, dx, fs, h, hC, e _ _ b⟩
theorem kn_int {K : PySem.W.Frag} {H : Hp} (i : Int) : Kn K H (.int i) := .inl ⟨"int", by decide, .int i⟩
def isI : V → Bool
  | .int _ => true
  | _ => false
/-- an own class, for isinstance -/
theorem own_facts {K : PySem.W.Frag} {mg : Str → Option Value} (T : Txt K mg) {C : Str} (h : C ∈ owns) : Cls K (He.ga K C) ∧ ClsC K C tys := by
  rw [List.mem_singleton.mp h]
  exact ⟨T.cl_Poly, T.cc_Poly⟩
theorem ty_own {K : PySem.W.Frag} {mg : Str → Option Value} {H : Hp} {a dx : Addr} {C : Str} {fs : List (Str × V)} (T : Txt K mg) (h : C ∈ owns) (e : H a = some (.ins (He.ga K C) dx fs)) : TyX K H (.ref a) (.ref (He.ga K C)) := by
  obtain ⟨h1, h2⟩ := He.ba T.top
  obtain ⟨c1, c2⟩ := own_facts T h
  exact .base (.ins e c1 c2.ha (He.eqO_ok h1) (of_decide_eq_true h2) c2.hm)
def kitR (T1 T0 : String) : Bool := decide (T1 = T0) || (decide (T1 = "bool") && decide (T0 = "int"))
theorem kit_all : ∀ T1 ∈ tys, ∀ T0 ∈ tys, kitB T1 T0 = some (kitR T1 T0) := by decide +kernel
/-- isinstance(v, T0), T0 built-in -/
theorem kn_kit {K : PySem.W.Frag} {mg : Str → Option Value} {H : Hp} {v : V} (T : Txt K mg) (h : Kn K H v) {T0 : String} (h0 : T0 ∈ tys) : ∃ t b, TyX K H v t ∧ PySem.W.kitOne K t (.type T0) = some b ∧ ((∃ T1 ∈ tys, t = .type T1 ∧ kitR T1 T0 = b) ∨ (b = false ∧ (∃ C, t = .ref (He.ga K C)) ∧ ∃ a, v = .ref a)) := by
  rcases h with ⟨T1, hT, h⟩ | ⟨a, C, dx, fs, rfl, hC, b⟩
  · exact ⟨_, _, .base h, kit_ty (kit_all T1 hT T0 h0), .inl ⟨T1, hT, rfl, rfl⟩⟩
  · exact ⟨_, false, ty_own T hC b, ((own_facts T hC).2.ty T0 h0).2.1, .inr ⟨rfl, ⟨C, rfl⟩, a, rfl⟩⟩
/-- the type of an int is int; what has the type int is one -/
theorem ty_int {K : PySem.W.Frag} {H : Hp} {v : V} {T : String} (h : TyX K H v (.type T)) : (T = "int") ↔ isI v = true := by
  cases h with
  | base b => cases b <;> simp [isI]
  | _ => simp [isI]
def isBl : V → Bool
  | .bl _ => true
  | _ => false
theorem ty_bool {K : PySem.W.Frag} {H : Hp} {v : V} {T : String} (h : TyX K H v (.type T)) : (T = "bool") ↔ isBl v = true := by
  cases h with
  | base b => cases b <;> simp [isBl]
  | _ => simp [isBl]
/-! ### errors -/
def spErr (K : PySem.W.Frag) (x f : Str) : Sp := sp2 fun a v H Q _ => ∃ e, a = .ref e ∧ H e = some (exo e (He.ga K x) none) ∧ ∀ dx, H dx = none → dx ≠ e → Q .non (upd (upd H dx (exd dx [(f, v)])) e (exo e (He.ga K x) (some dx)))
/-- an error of the class x with its field -/
def Raised (K : PySem.W.Frag) (x f : Str) (v : V) (H : Hp) (E : XK) : Prop := ∀ d H', Ex H H' → H' d = some (.xd [(f, v)]) → E (.ref (He.ga K x)) (some d) H'
theorem r_err {K : PySem.W.Frag} {x f : Str} {v : V} {H : Hp} {E : XK} {vs : List V} (hv : vs = [v]) (q : Raised K x f v H E) : vs.length ≤ 1000 ∧ ∀ a, H a = none → spErr K x f (.ref a :: (vs ++ [])) (upd H a (exo a (He.ga K x) none))
    (fun v H2 => v = .non ∧ ∃ (d : Addr) (fs : List (Str × V)), H2 a = some (exo a (He.ga K x) (some d)) ∧ H2 d = some (exd d fs) ∧ H d = none ∧ E (.ref (He.ga K x)) (some d) (upd (del H2 a) d (.xd fs))) (fun _ _ _ => False) := by
  subst hv
  refine ⟨by simp, fun a ha => ⟨a, rfl, upd_same, fun dx hd hne => ⟨rfl, dx, [(f, v)], upd_same, ?_, ?_, ?_⟩⟩⟩
  · rw [upd_ne hne, upd_same]
  · rw [upd_ne hne] at hd
    exact hd
  · rw [upd_ne hne] at hd
    refine q dx _ (fun b o hb => ?_) upd_same
    have n1 : b ≠ dx := ne_of_none hb hd
    have n2 : b ≠ a := ne_of_none hb ha
    rw [upd_ne n1, del_ne n2, upd_ne n2, upd_ne n1, upd_ne n2]
    exact hb
theorem ok_BadNumber_init {P : Program} {w : World} {K : PySem.W.Frag} {mg : Str → Option Value} {base : Heap} (T : Txt K mg) : ∃ fd, FnOk P w K mg base (L2.CX P w) 1 (He.ma K (He.ga K "BadNumber") "__init__") fd ["self", "part"] (spErr K "BadNumber" "part") ∧ Binds K fd ["self", "part"] [] := by
  obtain ⟨fd, F⟩ := T.d_BadNumber_init
  refine ⟨fd, F.ok sc_BadNumber_init sp2_len (fun cdv A outer s H vs Q E hr h => ?_), F.bindsN fun _ _ _ _ _ _ us hl => match us, hl with | [_, _], _ => rfl⟩
  obtain ⟨a, v, rfl, e, rfl, he, k⟩ := sp2_is h
  refine ⟨_, (pss_one (ps_ost (pv 0) (pv 1))), ?_⟩
  exact ⟨_, rfl, _, rfl, e, _, rfl, T.e_BadNumber.o, T.e_BadNumber.no_ _ (by simp), .inl ⟨he, fun dx h1 h2 => k dx h1 h2⟩⟩
theorem ok_BadPoly_init {P : Program} {w : World} {K : PySem.W.Frag} {mg : Str → Option Value} {base : Heap} (T : Txt K mg) : ∃ fd, FnOk P w K mg base (L2.CX P w) 1 (He.ma K (He.ga K "BadPoly") "__init__") fd ["self", "part"] (spErr K "BadPoly" "part") ∧ Binds K fd ["self", "part"] [] := by
  obtain ⟨fd, F⟩ := T.d_BadPoly_init
  refine ⟨fd, F.ok sc_BadPoly_init sp2_len (fun cdv A outer s H vs Q E hr h => ?_), F.bindsN fun _ _ _ _ _ _ us hl => match us, hl with | [_, _], _ => rfl⟩
  obtain ⟨a, v, rfl, e, rfl, he, k⟩ := sp2_is h
  refine ⟨_, (pss_one (ps_ost (pv 0) (pv 1))), ?_⟩
  exact ⟨_, rfl, _, rfl, e, _, rfl, T.e_BadPoly.o, T.e_BadPoly.no_ _ (by simp), .inl ⟨he, fun dx h1 h2 => k dx h1 h2⟩⟩
theorem ok_Misfit_init {P : Program} {w : World} {K : PySem.W.Frag} {mg : Str → Option Value} {base : Heap} (T : Txt K mg) : ∃ fd, FnOk P w K mg base (L2.CX P w) 1 (He.ma K (He.ga K "Misfit") "__init__") fd ["self", "part"] (spErr K "Misfit" "part") ∧ Binds K fd ["self", "part"] [] := by
  obtain ⟨fd, F⟩ := T.d_Misfit_init
  refine ⟨fd, F.ok sc_Misfit_init sp2_len (fun cdv A outer s H vs Q E hr h => ?_), F.bindsN fun _ _ _ _ _ _ us hl => match us, hl with | [_, _], _ => rfl⟩
  obtain ⟨a, v, rfl, e, rfl, he, k⟩ := sp2_is h
  refine ⟨_, (pss_one (ps_ost (pv 0) (pv 1))), ?_⟩
  exact ⟨_, rfl, _, rfl, e, _, rfl, T.e_Misfit.o, T.e_Misfit.no_ _ (by simp), .inl ⟨he, fun dx h1 h2 => k dx h1 h2⟩⟩
/-! ### checks -/
def spIsInt (K : PySem.W.Frag) : Sp := sp1 fun v H Q _ => Kn K H v ∧ Q (.bl (isI v)) H
theorem ok_is_integer {P : Program} {w : World} {K : PySem.W.Frag} {mg : Str → Option Value} {base : Heap} (T : Txt K mg) : ∃ fd, FnOk P w K mg base (L2.CX P w) 1 (He.ga K "is_integer") fd ["value"] (spIsInt K) ∧ Binds K fd ["value"] [] := by
  obtain ⟨fd, F⟩ := T.d_is_integer
  refine ⟨fd, F.ok sc_is_integer sp1_len (fun cdv A outer s H vs Q E hr h => ?_), F.bindsN fun _ _ _ _ _ _ us hl => match us, hl with | [_], _ => rfl⟩
  obtain ⟨v, rfl, kv, q⟩ := sp1_is h
  refine ⟨_, (pss_one (ps_ret (pe_and (pe_callB (cr_isi rfl) (by rfl) T.b_isinstance (by decide +kernel) (pa_cons (pv 0) (pa_cons (pe_bltn (v := .ty "int") (by rfl) T.b_int (by decide +kernel) rfl) pa_nil))) (pe_one (pe_not (pe_callB (cr_isi rfl) (by rfl) T.b_isinstance (by decide +kernel) (pa_cons (pv 0) (pa_cons (pe_bltn (v := .ty "bool") (by rfl) T.b_bool (by decide +kernel) rfl) pa_nil)))))))), ?_⟩
  obtain ⟨t, b, ht, hb, hc⟩ := kn_kit T kv (T0 := "int") (by decide)
  obtain ⟨t', b', ht', hb', hc'⟩ := kn_kit T kv (T0 := "bool") (by decide)
  have e : (b && !b') = isI v := by
    rcases hc with ⟨T1, m1, rfl, rfl⟩ | ⟨rfl, ⟨C, rfl⟩, a, rfl⟩
    · have c1 := ty_int ht
      rcases hc' with ⟨T2, m2, rfl, rfl⟩ | ⟨rfl, ⟨C, rfl⟩, a, rfl⟩
      · have c2 := ty_int ht'
        cases hv : isI v with
        | true =>
          obtain rfl := c1.mpr hv
          obtain rfl := c2.mpr hv
          decide
        | false =>
          have n1 : T1 ≠ "int" := fun z => by have := c1.mp z; rw [hv] at this; cases this
          have n2 : T1 = "bool" → T2 = "bool" := fun z => (ty_bool ht').mpr ((ty_bool ht).mp z)
          by_cases z : T1 = "bool"
          · obtain rfl := n2 z
            subst z
            decide
          · simp [kitR, n1, z]
      · cases hv : isI (V.ref a) with
        | true => cases hv
        | false =>
          have n1 : T1 ≠ "int" := fun z => by have := c1.mp z; rw [hv] at this; cases this
          have n2 : T1 ≠ "bool" := fun z => by have := (ty_bool ht).mp z; cases this
          simp [kitR, n1, n2]
    · simp [isI]
  refine ⟨_, rfl, v, .ty "int", t, _, b, rfl, .ty "int", ht, hb, b, rfl, ?_⟩
  cases b with
  | false =>
    rw [if_neg Bool.false_ne_true]
    rw [← e] at q
    exact q
  | true =>
    rw [if_pos rfl]
    rw [← e] at q
    exact ⟨_, rfl, v, .ty "bool", t', _, b', rfl, .ty "bool", ht', hb', b', rfl, q⟩
/-- least, most: none or a bound -/
def bnd : V → Option (Option Int)
  | .non => some none
  | .int i => some (some i)
  | _ => none
def loB (i : Int) : Option Int → Bool
  | none => true
  | some l => decide (l ≤ i)
def upB (i : Int) : Option Int → Bool
  | none => true
  | some m => decide (i ≤ m)
def inB (v : V) (l m : Option Int) : Bool := match v with
  | .int i => loB i l && upB i m
  | _ => false
def spWithin (K : PySem.W.Frag) : Sp := sp3 fun v l m H Q _ => Kn K H v ∧ ∃ l' m', bnd l = some l' ∧ bnd m = some m' ∧ Q (.bl (inB v l' m')) H
theorem bnd_is {v : V} {l : Option Int} (h : bnd v = some l) : (v = .non ∧ l = none) ∨ ∃ i, v = .int i ∧ l = some i := by
  cases v <;> simp [bnd] at h <;> subst h <;> simp
theorem ok_is_within {P : Program} {w : World} {K : PySem.W.Frag} {mg : Str → Option Value} {base : Heap} (T : Txt K mg) : ∃ fd, FnOk P w K mg base (L2.CX P w) 2 (He.ga K "is_within") fd ["value", "least", "most"] (spWithin K) ∧ Binds K fd ["value", "least", "most"] [] := by
  obtain ⟨fd, F⟩ := T.d_is_within
  obtain ⟨fd_is_integer, F_is_integer, B_is_integer⟩ := ok_is_integer (P := P) (w := w) (base := base) T
  refine ⟨fd, F.ok sc_is_within sp3_len (fun cdv A outer s H vs Q E hr h => ?_), F.bindsN fun _ _ _ _ _ _ us hl => match us, hl with | [_, _, _], _ => rfl⟩
  have hr_is_integer : Room 1 _ := hr.mono (by decide)
  obtain ⟨v, l, m, rfl, kv, l', m', hl, hm, q⟩ := sp3_is h
  refine ⟨_, (pss_cons (ps_if (PW.pt (pw_or (pt_not (pt_val (pe_call F_is_integer hr_is_integer (by rfl) T.g_is_integer T.k_is_integer B_is_integer .nil passL (pa_cons (pv 0) pa_nil)))) (pw_or1 (PW.pt (pw_and (pt_cmpR op_notN (pv 1) pe_non (nomark _)) (pw_and1 (pt_cmpR op_lt (pv 0) (pv 1) (nomark _)))))))) (pss_one (ps_ret pe_bl)) pss_nil)
      (pss_one (ps_ret (pe_or (pe_cmpR op_isN (pv 2) pe_non (nomark _)) (pe_one (pe_cmpR op_le (pv 0) (pv 2) (nomark _))))))), ?_⟩
  refine ⟨_, rfl, kv, ⟨_, rfl, ?_⟩⟩
  cases hv : isI v with
  | false =>
    have e : inB v l' m' = false := by cases v <;> first | rfl | cases hv
    rw [e] at q
    exact ite_t rfl (ite_t rfl q)
  | true =>
    obtain ⟨i, rfl⟩ : ∃ i, v = .int i := by cases v <;> first | exact ⟨_, rfl⟩ | cases hv
    refine ite_f rfl ?_
    have last : ∀ {Q' : VK}, Q' (.bl (upB i m')) H → (tOrV (tOp (fun x y H Q => y = .non ∧ Q (.bl (decide (x = .non))) H) (tVar 2) (tC .non)) (tOp (rI0 fun i j => .bl (decide (i ≤ j))) (tVar 0) (tVar 2))) [some (.int i), some l, some m] H Q' := fun {Q'} q' => by
      refine ⟨_, rfl, rfl, _, rfl, ?_⟩
      rcases bnd_is hm with ⟨rfl, rfl⟩ | ⟨j, rfl, rfl⟩
      · exact ite_t (by simp) q'
      · exact ite_f (by simp) ⟨_, rfl, _, rfl, i, j, rfl, rfl, q'⟩
    rcases bnd_is hl with ⟨rfl, rfl⟩ | ⟨j, rfl, rfl⟩
    · refine ⟨_, rfl, rfl, _, rfl, ite_f (by simp) (ite_f rfl (last ?_))⟩
      simpa [inB, loB] using q
    · refine ⟨_, rfl, rfl, _, rfl, ite_t (by simp) ⟨_, rfl, _, rfl, i, j, rfl, rfl, _, rfl, ?_⟩⟩
      by_cases c : i < j
      · refine ite_t (by simp [c]) ?_
        have e : inB (.int i) (some j) m' = false := by simp [inB, loB, show ¬ j ≤ i by omega]
        rw [e] at q
        exact q
      · refine ite_f (by simp [c]) (last ?_)
        have e : inB (.int i) (some j) m' = upB i m' := by simp [inB, loB, show j ≤ i by omega]
        rw [← e]
        exact q

end K36
namespace K36
open PySem PySem.Spec PyProof.Rows L2 GS TL
local macro_rules | `(tactic| walk_at "rd") => `(tactic| (repeat (first
  | with_reducible refine r_next ?_
  | with_reducible refine r_seq ?_
  | with_reducible refine r_ret ?_
  | with_reducible refine r_ifS ?_
  | with_reducible refine r_asg ?_
  | with_reducible refine r_drop ?_
  | with_reducible refine r_op ?_
  | with_reducible refine r_un ?_
  | with_reducible refine r_cbInt ?_
  | with_reducible refine r_cbAbs ?_
  | with_reducible refine r_cbLen ?_
  | with_reducible refine r_cbList ?_
  | with_reducible refine r_cbTup ?_
  | with_reducible refine r_iEnT ?_
  | with_reducible refine r_iEnL ?_
  | with_reducible refine r_zipA ?_
  | with_reducible refine r_zipX ?_
  | with_reducible refine r_augS ?_
  | with_reducible refine r_cb ?_
  | with_reducible refine r_call ?_
  | with_reducible refine r_make ?_
  | with_reducible refine r_callN0 ?_
  | with_reducible refine r_makeK0 ?_
  | with_reducible refine r_makeS ?_
  | with_reducible refine r_callS ?_
  | with_reducible refine r_cons ?_
  | with_reducible refine r_nil ?_
  | with_reducible refine r_test ?_
  | with_reducible refine r_B ?_
  | with_reducible refine r_and ?_
  | with_reducible refine r_or ?_
  | with_reducible refine r_not ?_
  | with_reducible refine r_andV ?_
  | with_reducible refine r_orV ?_
  | with_reducible refine r_notV ?_
  | with_reducible refine r_if ?_
  | with_reducible refine r_tup ?_
  | with_reducible refine r_lst ?_
  | with_reducible refine r_c ?_
  | with_reducible refine r_lc ?_
  | with_reducible refine r_chain ?_
  | with_reducible refine r_iT ?_
  | with_reducible refine r_iL ?_
  | with_reducible refine r_iR1 ?_
  | with_reducible refine r_iR2 ?_
  | with_reducible refine r_iR3 ?_
  | with_reducible refine r_asgG ?_
  | with_reducible refine r_gSub ?_
  | with_reducible refine r_for ?_
  | with_reducible refine r_smeth ?_
  | with_reducible refine r_par ?_
  | with_reducible refine r_parK ?_
  | with_reducible refine r_gCons ?_
  | with_reducible refine r_gNil ?_
  | with_reducible refine r_gName ?_
  | with_reducible refine r_intI ?_
  | with_reducible refine r_intB ?_
  | with_reducible refine r_absI ?_
  | with_reducible refine r_k ?_
  | with_reducible refine r_kV ?_
  | ((with_reducible show tVar _ _ _ _); refine r_var3 ?_ (by rfl))
  | with_reducible refine r_I0 ?_
  | with_reducible refine r_U ?_
  | with_reducible refine r_eqI ?_
  | with_reducible refine r_neI ?_
  | dsimp only)))
local macro_rules | `(tactic| walk_at "rx") => `(tactic| (repeat (first
  | with_reducible refine r_next ?_
  | with_reducible refine r_ret ?_
  | with_reducible refine r_ifS ?_
  | with_reducible refine r_asg ?_
  | with_reducible refine r_drop ?_
  | with_reducible refine r_op ?_
  | with_reducible refine r_un ?_
  | with_reducible refine r_cbInt ?_
  | with_reducible refine r_cbAbs ?_
  | with_reducible refine r_cbLen ?_
  | with_reducible refine r_cbList ?_
  | with_reducible refine r_cbTup ?_
  | with_reducible refine r_iEnT ?_
  | with_reducible refine r_iEnL ?_
  | with_reducible refine r_zipA ?_
  | with_reducible refine r_zipX ?_
  | with_reducible refine r_augS ?_
  | with_reducible refine r_cb ?_
  | with_reducible refine r_call ?_
  | with_reducible refine r_make ?_
  | with_reducible refine r_callN0 ?_
  | with_reducible refine r_makeK0 ?_
  | with_reducible refine r_makeS ?_
  | with_reducible refine r_callS ?_
  | with_reducible refine r_cons ?_
  | with_reducible refine r_nil ?_
  | with_reducible refine r_test ?_
  | with_reducible refine r_B ?_
  | with_reducible refine r_and ?_
  | with_reducible refine r_or ?_
  | with_reducible refine r_not ?_
  | with_reducible refine r_andV ?_
  | with_reducible refine r_orV ?_
  | with_reducible refine r_notV ?_
  | with_reducible refine r_if ?_
  | with_reducible refine r_tup ?_
  | with_reducible refine r_lst ?_
  | with_reducible refine r_c ?_
  | with_reducible refine r_lc ?_
  | with_reducible refine r_chain ?_
  | with_reducible refine r_iT ?_
  | with_reducible refine r_iL ?_
  | with_reducible refine r_iR1 ?_
  | with_reducible refine r_iR2 ?_
  | with_reducible refine r_iR3 ?_
  | with_reducible refine r_asgG ?_
  | with_reducible refine r_gSub ?_
  | with_reducible refine r_for ?_
  | with_reducible refine r_smeth ?_
  | with_reducible refine r_par ?_
  | with_reducible refine r_parK ?_
  | with_reducible refine r_gCons ?_
  | with_reducible refine r_gNil ?_
  | with_reducible refine r_gName ?_
  | with_reducible refine r_intI ?_
  | with_reducible refine r_intB ?_
  | with_reducible refine r_absI ?_
  | with_reducible refine r_k ?_
  | with_reducible refine r_kV ?_
  | ((with_reducible show tVar _ _ _ _); refine r_var3 ?_ (by rfl))
  | with_reducible refine r_I0 ?_
  | with_reducible refine r_U ?_
  | with_reducible refine r_eqI ?_
  | with_reducible refine r_neI ?_
  | dsimp only)))
/-! ### rows of integers -/
/-- the items of a list or a tuple -/
def Sq (H : Hp) (v : V) (xs : List V) : Prop := ∃ a, v = .ref a ∧ (H a = some (.lst xs) ∨ H a = some (.tup xs))
theorem Sq.ex {H H' : Hp} {v : V} {xs : List V} (h : Sq H v xs) (e : Ex H H') : Sq H' v xs := by
  obtain ⟨a, rfl, h | h⟩ := h
  · exact ⟨a, rfl, .inl (e _ _ h)⟩
  · exact ⟨a, rfl, .inr (e _ _ h)⟩
theorem Sq.kn {K : PySem.W.Frag} {H : Hp} {v : V} {xs : List V} (h : Sq H v xs) : Kn K H v := by
  obtain ⟨a, rfl, h | h⟩ := h
  · exact .inl ⟨"list", by decide, .lst h⟩
  · exact .inl ⟨"tuple", by decide, .tup h⟩
theorem Own.ex {K : PySem.W.Frag} {H H' : Hp} {v : V} (h : Own K H v) (e : Ex H H') : Own K H' v := let ⟨a, C, dx, fs, h1, h2, h3⟩ := h; ⟨a, C, dx, fs, h1, h2, e _ _ h3⟩
/-- whether it is a list or a tuple -/
def RowB (K : PySem.W.Frag) (H : Hp) (v : V) (b : Bool) : Prop := (∃ T ∈ tys, TyOf K H v (.type T) ∧ b = (T == "list" || T == "tuple")) ∨ (Own K H v ∧ b = false)
theorem RowB.ex {K : PySem.W.Frag} {H H' : Hp} {v : V} {b : Bool} (h : RowB K H v b) (e : Ex H H') : RowB K H' v b := by
  rcases h with ⟨T, hT, h, hb⟩ | ⟨h, hb⟩
  · exact .inl ⟨T, hT, TyOf.ex' h fun a _ o q => e a o q, hb⟩
  · exact .inr ⟨h.ex e, hb⟩
theorem Kn.row {K : PySem.W.Frag} {H : Hp} {v : V} (h : Kn K H v) : ∃ b, RowB K H v b := by
  rcases h with ⟨T, hT, h⟩ | h
  · exact ⟨_, .inl ⟨T, hT, h, rfl⟩⟩
  · exact ⟨false, .inr ⟨h, rfl⟩⟩
theorem Sq.row {K : PySem.W.Frag} {H : Hp} {v : V} {xs : List V} (h : Sq H v xs) : RowB K H v true := by
  obtain ⟨a, rfl, h | h⟩ := h
  · exact .inl ⟨"list", by decide, .lst h, rfl⟩
  · exact .inl ⟨"tuple", by decide, .tup h, rfl⟩
theorem row_kit : ∀ T ∈ tys, kitR T "list" = (T == "list") ∧ kitR T "tuple" = (T == "tuple") := by decide
def spRow (K : PySem.W.Frag) : Sp := sp1 fun v H Q _ => ∃ b, RowB K H v b ∧ ∀ H', Ex H H' → Q (.bl b) H'
theorem ok_is_row {P : Program} {w : World} {K : PySem.W.Frag} {mg : Str → Option Value} {base : Heap} (T : Txt K mg) : ∃ fd, FnOk P w K mg base (L2.CX P w) 1 (He.ga K "is_row") fd ["value"] (spRow K) ∧ Binds K fd ["value"] [] := by
  obtain ⟨fd, F⟩ := T.d_is_row
  refine ⟨fd, F.ok sc_is_row sp1_len (fun cdv A outer s H vs Q E hr h => ?_), F.bindsN fun _ _ _ _ _ _ us hl => match us, hl with | [_], _ => rfl⟩
  obtain ⟨v, rfl, b, hv, k⟩ := sp1_is h
  refine ⟨_, (pss_one (ps_ret (pe_callB call_isiT (by rfl) T.b_isinstance (by decide +kernel) (pa_cons (pv 0) (pa_cons (pe_tup (pa_cons (pe_bltn (v := .ty "list") (by rfl) T.b_list (by decide +kernel) rfl) (pa_cons (pe_bltn (v := .ty "tuple") (by rfl) T.b_tuple (by decide +kernel) rfl) pa_nil))) pa_nil))))), ?_⟩
  walk_at "rd"
  refine r_newT (sz_le (by simp)) fun t H1 _ e1 h1 => ?_
  have hv1 := hv.ex e1
  have any : ∃ t, TyX K H1 v t ∧ PySem.W.kitAny K t [.type "list", .type "tuple"] = some b := by
    rcases hv1 with ⟨T1, hT, hy, rfl⟩ | ⟨⟨a, C, dx, fs, rfl, hC, ha⟩, rfl⟩
    · refine ⟨_, .base hy, ?_⟩
      have k1 := kit_ty (K := K) (kit_all T1 hT "list" (by decide))
      have k2 := kit_ty (K := K) (kit_all T1 hT "tuple" (by decide))
      obtain ⟨r1, r2⟩ := row_kit T1 hT
      rw [r1] at k1
      rw [r2] at k2
      unfold PySem.W.kitAny
      rw [k1]
      cases T1 == "list" with
      | true => rfl
      | false =>
        show PySem.W.kitAny K _ [_] = _
        unfold PySem.W.kitAny
        rw [k2]
        cases T1 == "tuple" <;> rfl
    · refine ⟨_, ty_own T hC ha, ?_⟩
      have k1 := ((own_facts T hC).2.ty "list" (by decide)).2.1
      have k2 := ((own_facts T hC).2.ty "tuple" (by decide)).2.1
      unfold PySem.W.kitAny
      rw [k1]
      show PySem.W.kitAny K _ [_] = _
      unfold PySem.W.kitAny
      rw [k2]
      rfl
  obtain ⟨t0, ty, ka⟩ := any
  exact ⟨v, t, _, t0, _, b, rfl, h1, .cons (.ty "list") (.cons (.ty "tuple") .nil), ty, ka, k H1 e1⟩
theorem getD_map {α : Type} (xs : List V) (f : V → α) : ((List.range xs.length).map fun j => f (xs.getD j .non)) = xs.map f := by
  refine List.ext_getElem (by simp) fun i h1 h2 => ?_
  simp at h1
  simp [h1]
def spInts (K : PySem.W.Frag) : Sp := sp1 fun v H Q _ => (∃ xs, Sq H v xs ∧ xs.length ≤ 50000 ∧ (∀ x ∈ xs, Kn K H x) ∧ ∀ H', Ex H H' → Q (.bl (xs.all isI)) H') ∨ (RowB K H v false ∧ ∀ H', Ex H H' → Q (.bl false) H')
theorem ok_are_integers {P : Program} {w : World} {K : PySem.W.Frag} {mg : Str → Option Value} {base : Heap} (T : Txt K mg) : ∃ fd, FnOk P w K mg base (L2.CX P w) 2 (He.ga K "are_integers") fd ["value"] (spInts K) ∧ Binds K fd ["value"] [] := by
  obtain ⟨fd, F⟩ := T.d_are_integers
  obtain ⟨fd_is_integer, F_is_integer, B_is_integer⟩ := ok_is_integer (P := P) (w := w) (base := base) T
  obtain ⟨fd_is_row, F_is_row, B_is_row⟩ := ok_is_row (P := P) (w := w) (base := base) T
  refine ⟨fd, F.ok sc_are_integers sp1_len (fun cdv A outer s H vs Q E hr h => ?_), F.bindsN fun _ _ _ _ _ _ us hl => match us, hl with | [_], _ => rfl⟩
  have hr_is_integer : Room 1 _ := hr.mono (by decide)
  have hr_is_row : Room 1 _ := hr.mono (by decide)
  obtain ⟨v, rfl, hh⟩ := sp1_is h
  refine ⟨_, (pss_one (ps_ret (pe_and (pe_call F_is_row hr_is_row (by rfl) T.g_is_row T.k_is_row B_is_row .nil passL (pa_cons (pv 0) pa_nil)) (pe_one (pe_callB (cr_all rfl) (by rfl) T.b_all (by decide +kernel) (pa_cons (pe_lc (own := [("each", 1)]) (g := gName 1) (tt := tYes)  rfl sc_are_integers.nd (pi_seq (pv 0)) (blkOk_by (own := [("each", 1)]) (N := ["value", "each"]) (sc := defScope s_are_integers) (by decide +kernel)) (fun _ _ _ _ _ => (pg_name (i := 1) sc_are_integers.nd rfl (Or.inl rfl))) (fun _ _ _ _ _ => pts_nil) (fun _ _ _ _ _ => (pe_call F_is_integer hr_is_integer (by rfl) T.g_is_integer T.k_is_integer B_is_integer .nil passL (pa_cons (pv 1) pa_nil)))) pa_nil)))))), ?_⟩
  walk_at "rd"
  rcases hh with ⟨xs, hs, hl, hk, k⟩ | ⟨hr, k⟩
  · refine ⟨true, hs.row, fun H1 e1 => ?_⟩
    walk_at "rd"
    refine ite_t rfl ?_
    walk_at "rd"
    have go : ∀ {J : It} {a : Addr} {G : Hp → Prop}, v = .ref a → Walk J xs.length G (YAt xs) → (∀ H', Ex H1 H' → G H') → lcB J (gName 1) tYes (tCall (spIsInt K) [] E0 (tCons (tVar 1) tNil)) [1] [some v, none] (fun x H2 => rAll K [x] H2 Q) H1 := by
      intro J a G ev w hG
      refine r_lcM w (fun j => .bl (isI (xs.getD j .non))) hl hG (fun _ => rfl) ?_ ?_
      · rintro j y H0 H' hj e0 ⟨rfl, hy⟩
        refine ⟨Ex.refl _, fun H3 e3 R r => ?_⟩
        have : y = xs.getD j .non := by
          rw [List.getD_eq_getElem?_getD, hy]
          rfl
        subst this
        walk_at "rd"
        exact ⟨((hk _ (List.mem_of_getElem? hy)).ex (e1.trans (e0.trans e3))), r H3 (Ex.refl _)⟩
      · intro p H' hp e h'
        rw [getD_map xs fun x => V.bl (isI x)] at h'
        refine ⟨p, xs.map isI, rfl, SqL.of (by rw [List.map_map]; exact h'), ?_⟩
        have e : (xs.map isI).all id = xs.all isI := by rw [List.all_map]; rfl
        rw [e]
        exact k H' (e1.trans ‹Ex H1 H'›)
    obtain ⟨a, rfl, ha | ha⟩ := hs.ex e1
    · refine ⟨_, rfl, ?_⟩
      exact ⟨a, rfl, .inl ⟨⟨_, SqL.of ha⟩, go rfl walk_list fun H' e => SqL.of (e _ _ ha)⟩⟩
    · refine ⟨_, rfl, ?_⟩
      exact ⟨a, rfl, .inr ⟨⟨_, SqT.of ha⟩, go rfl walk_tup fun H' e => SqT.of (e _ _ ha)⟩⟩
  · refine ⟨false, hr, fun H1 e1 => ?_⟩
    walk_at "rd"
    exact ite_f rfl (k H1 e1)
/-! ### the class Poly -/
theorem Bu.new {p q : Addr} {H : Hp} {o : HO} (h : H q = none) : Bu p H (upd H q o) := Bu.of (Ex.new h)
def RaisedB (K : PySem.W.Frag) (x : Str) (p : Addr) (z : Str) (H : Hp) (E : XK) : Prop := ∀ d H', Bu p H H' → H' d = some (.xd [(("part" : Str), .str z)]) → E (.ref (He.ga K x)) (some d) H'
/-- rows that hold integers alone, from 1 to 64, the first above 0 -/
def okN (ns : List Int) : Prop := 1 ≤ ns.length ∧ ns.length ≤ 64 ∧ 0 < ns.headD 0
def spPInit (K : PySem.W.Frag) : Sp := sp2 fun a v H Q E => ∃ p dx, a = .ref p ∧ H p = some (.ins (He.ga K "Poly") dx []) ∧
  ((∃ ns : List Int, Sq H v (ns.map V.int) ∧ ns.length ≤ 50000 ∧ (okN ns → ∀ t H', Bu p H H' → H' t = some (.tup (ns.map V.int)) → t ≠ p → H' p = some (.ins (He.ga K "Poly") dx (pf t ((ns.length : Int) - 1))) → Q .non H') ∧
      (¬ (1 ≤ ns.length ∧ ns.length ≤ 64) → RaisedB K "BadPoly" p "numbers" H E) ∧ (1 ≤ ns.length ∧ ns.length ≤ 64 → ¬ 0 < ns.headD 0 → RaisedB K "BadPoly" p "first" H E)) ∨
   (((∃ xs, Sq H v xs ∧ xs.length ≤ 50000 ∧ (∀ x ∈ xs, Kn K H x) ∧ xs.all isI = false) ∨ RowB K H v false) ∧ RaisedB K "BadPoly" p "numbers" H E))
theorem ok_Poly_init {P : Program} {w : World} {K : PySem.W.Frag} {mg : Str → Option Value} {base : Heap} (T : Txt K mg) : ∃ fd, FnOk P w K mg base (L2.CX P w) 3 (He.ma K (He.ga K "Poly") "__init__") fd ["self", "numbers"] (spPInit K) ∧ Binds K fd ["self", "numbers"] [] := by
  obtain ⟨fd, F⟩ := T.d_Poly_init
  obtain ⟨fd_BadPoly_init, F_BadPoly_init, B_BadPoly_init⟩ := ok_BadPoly_init (P := P) (w := w) (base := base) T
  obtain ⟨fd_are_integers, F_are_integers, B_are_integers⟩ := ok_are_integers (P := P) (w := w) (base := base) T
  refine ⟨fd, F.ok sc_Poly_init sp2_len (fun cdv A outer s H vs Q E hr h => ?_), F.bindsN fun _ _ _ _ _ _ us hl => match us, hl with | [_, _], _ => rfl⟩
  have hr_BadPoly_init : Room 2 _ := hr.mono (by decide)
  have hr_are_integers : Room 2 _ := hr.mono (by decide)
  obtain ⟨a, v, rfl, p, dx, rfl, hp, hh⟩ := sp2_is h
  refine ⟨_, (pss_cons (ps_if (PW.pt (pw_or (pt_not (pt_val (pe_call F_are_integers hr_are_integers (by rfl) T.g_are_integers T.k_are_integers B_are_integers .nil passL (pa_cons (pv 1) pa_nil)))) (pw_or1 (pt_not (pt_chain op_le op_le pe_int (pe_callB (kx_lens rfl) (by rfl) T.b_len PySem.boot_len (pa_cons (pv 1) pa_nil)) (pe_gint rfl T.c_MOST_NUMBERS)))))) (pss_one (ps_raise rfl (takes_of rfl rfl rfl rfl) (pmk_oex T.e_BadPoly.o T.e_BadPoly.i T.e_BadPoly.t F_BadPoly_init hr_BadPoly_init B_BadPoly_init .nil passL rfl T.g_BadPoly (pa_cons pe_str pa_nil)))) pss_nil)
      (pss_cons (ps_if (pt_cmpR op_le (pe_ix ix_seq (pv 1) pe_int (fun _ _ => rfl)) pe_int (nomark _)) (pss_one (ps_raise rfl (takes_of rfl rfl rfl rfl) (pmk_oex T.e_BadPoly.o T.e_BadPoly.i T.e_BadPoly.t F_BadPoly_init hr_BadPoly_init B_BadPoly_init .nil passL rfl T.g_BadPoly (pa_cons pe_str pa_nil)))) pss_nil)
      (pss_cons (ps_fld (pv 0) (pe_callTy (kx_tupOf (K := K) rfl) (by rfl) T.b_tuple (by decide +kernel) (pa_cons (pv 1) pa_nil)) rfl)
      (pss_one (ps_fld (pv 0) (pe_op op_sub (pe_callB (kx_lens rfl) (by rfl) T.b_len PySem.boot_len (pa_cons (pv 1) pa_nil)) pe_int) rfl))))), ?_⟩
  walk_at "rd"
  rcases hh with ⟨ns, hs, hl, k1, k2, k3⟩ | ⟨hbad, k⟩
  · refine .inl ⟨_, hs, by simpa using hl, fun x hx => ?_, fun H1 e1 => ?_⟩
    · obtain ⟨i, _, rfl⟩ := List.mem_map.mp hx
      exact .inl ⟨"int", by decide, .int i⟩
    · have all : (ns.map V.int).all isI = true := by rw [List.all_map]; exact List.all_eq_true.mpr fun _ _ => rfl
      rw [all]
      walk_at "rd"
      refine ite_f rfl ?_
      walk_at "rd"
      obtain ⟨b, rfl, hb⟩ := hs.ex e1
      have sq : SqL K H1 b (ns.map V.int) ∨ SqT K H1 b (ns.map V.int) := hb.imp SqL.of SqT.of
      have ix : ∀ {Q' : VK} {i : Int}, ns.head? = some i → Q' (.int i) H1 → rIx K (.ref b) (.int 0) H1 Q' := fun {Q' i} hi q => by
        have e : atI (ns.map V.int) 0 = some (.int i) := atI_nat (j := 0) (by cases ns with | nil => cases hi | cons n r => cases hi; rfl)
        rcases sq with sq | sq
        · exact .inl ⟨b, _, _, _, rfl, rfl, sq, e, q⟩
        · exact .inr (.inl ⟨b, _, _, _, rfl, rfl, sq, e, q⟩)
      refine ⟨b, _, rfl, sq, ?_⟩
      rw [List.length_map]
      walk_at "rd"
      by_cases c1 : 1 ≤ ns.length
      · refine ite_t (decide_eq_true (by omega)) ?_
        walk_at "rd"
        by_cases c2 : ns.length ≤ 64
        · rw [decide_eq_true (show (ns.length : Int) ≤ 64 by omega)]
          refine ite_f rfl ?_
          walk_at "rd"
          obtain ⟨i, hi⟩ : ∃ i, ns.head? = some i := by
            cases ns with
            | nil => simp at c1
            | cons n r => exact ⟨n, rfl⟩
          have hd : ns.headD 0 = i := by rw [List.headD_eq_head?_getD, hi]; rfl
          refine ix hi ?_
          walk_at "rd"
          by_cases c3 : 0 < i
          · refine ite_f (decide_eq_false (by omega)) ?_
            have ok : okN ns := ⟨c1, c2, by rw [hd]; exact c3⟩
            have fin : ∀ (t : Addr) (H2 : Hp), Ex H1 H2 → H2 t = some (.tup (ns.map V.int)) → sFld K (tVar 0) (tC (.ref t)) "numbers" { nx := sFld K (tVar 0) (tOp (rI0 fun i j => .int (i - j)) (tCB (fun xs H Q => ∃ p ys, xs = [V.ref p] ∧ (SqL K H p ys ∨ SqT K H p ys) ∧ Q (V.int ys.length) H) (tCons (tVar 1) tNil)) (tC (.int 1))) "degree" { nx := fun _ H' => Q .non H', rt := Q }, rt := Q } [some (.ref p), some (.ref b)] H2 := by
              intro t H2 e2 ht
              have hp2 := e2 _ _ (e1 _ _ hp)
              have tn : t ≠ p := by rintro rfl; rw [hp2] at ht; cases ht
              have bn : b ≠ p := by
                rintro rfl
                rcases hb with hb | hb <;> rw [e1 _ _ hp] at hb <;> cases hb
              refine ⟨_, rfl, p, _, dx, [], rfl, hp2, T.cl_Poly, T.na_Poly_numbers, by decide, ?_⟩
              walk_at "rd"
              refine ⟨_, rfl, b, ns.map V.int, rfl, ?_, ?_⟩
              · rcases hb with hb | hb
                · exact .inl (SqL.of (by rw [upd_ne bn]; exact e2 _ _ hb))
                · exact .inr (SqT.of (by rw [upd_ne bn]; exact e2 _ _ hb))
              walk_at "rd"
              rw [List.length_map]
              refine ⟨p, _, dx, _, rfl, upd_same, T.cl_Poly, T.na_Poly_degree, (by show 1 < 1000; decide), ?_⟩
              refine k1 ok t _ (((Bu.of (e1.trans e2)).trans Bu.upd).trans Bu.upd) ?_ tn ?_
              · rw [upd_ne tn, upd_ne tn]; exact ht
              · rw [upd_same]
                rfl
            walk_at "rd"
            refine ⟨_, rfl, b, ns.map V.int, rfl, ?_⟩
            rcases hb with hb | hb
            · exact .inl ⟨SqL.of hb, fun l hl => fin l _ (Ex.new hl) upd_same⟩
            · exact .inr ⟨SqT.of hb, fin b _ (Ex.refl _) hb⟩
          · refine ite_t (decide_eq_true (by omega)) (r_err rfl fun d H' e hd => k3 ⟨c1, c2⟩ (by rw [‹ns.headD 0 = i›]; exact c3) d H' (Bu.of (e1.trans e)) hd)
        · rw [decide_eq_false (show ¬ (ns.length : Int) ≤ 64 by omega)]
          exact ite_t rfl (r_err rfl fun d H' e hd => k2 (fun z => c2 z.2) d H' (Bu.of (e1.trans e)) hd)
      · refine ite_f (decide_eq_false (by omega)) ?_
        walk_at "rd"
        exact (ite_t rfl (r_err rfl fun d H' e hd => k2 (fun z => c1 z.1) d H' (Bu.of (e1.trans e)) hd))
  · have no : ∀ H1, Ex H H1 → Raised K "BadPoly" "part" (.str "numbers") H1 E := fun H1 e1 d H' e hd => k d H' (Bu.of (e1.trans e)) hd
    rcases hbad with ⟨xs, hs, hl, hk, hn⟩ | hr
    · refine .inl ⟨xs, hs, hl, hk, fun H1 e1 => ?_⟩
      rw [hn]
      walk_at "rd"
      refine ite_t rfl ?_
      walk_at "rd"
      exact ite_t rfl (r_err rfl (no H1 e1))
    · refine .inr ⟨hr, fun H1 e1 => ?_⟩
      walk_at "rd"
      refine ite_t rfl ?_
      walk_at "rd"
      exact ite_t rfl (r_err rfl (no H1 e1))
theorem bu_ex {p : Addr} {H H0 H' : Hp} (e0 : Ex H H0) (hp : H p = none) (e : Bu p H0 H') : Ex H H' := fun a o h => e a o (ne_of_none h hp) (e0 a o h)
theorem put_own {H : Hp} {x dx : Addr} {o u : HO} (h1 : H x = none) (h2 : H dx = none) : Ex H (upd (upd H dx o) x u) := fun a v h => by
  rw [upd_ne (ne_of_none h h1), upd_ne (ne_of_none h h2)]
  exact h
/-- Poly(ns) -/
theorem r_Poly {K : PySem.W.Frag} {H : Hp} {Q : VK} {E : XK} {v : V} {ns : List Int} (hs : Sq H v (ns.map V.int)) (ok : okN ns) (q : ∀ p H', H p = none → Ex H H' → Pl K H' p ns → Q (.ref p) H') : mkK (He.ga K "Poly") (spPInit K) E Q [v] H := by
  intro x dx hx hd hn
  have e0 : Ex H (upd (upd H dx (.own x)) x (.ins (He.ga K "Poly") dx [])) := put_own hx hd
  refine ⟨x, dx, rfl, upd_same, .inl ⟨ns, hs.ex e0, Nat.le_trans ok.2.1 (by decide), fun _ t H' bu ht tn hi => ⟨rfl, ?_⟩, fun z => absurd ⟨ok.1, ok.2.1⟩ z, fun _ z => absurd ok.2.2 z⟩⟩
  exact q x H' hx (bu_ex e0 hx bu) ⟨ok.1, ok.2.1, ok.2.2, dx, t, hi, ht⟩
/-- a value of a built-in kind, or of another class -/
def No (K : PySem.W.Frag) (C : Str) (H : Hp) (v : V) : Prop := (∃ T ∈ tys, TyOf K H v (.type T)) ∨ ∃ a D dx fs, v = .ref a ∧ D ∈ owns ∧ D ≠ C ∧ H a = some (.ins (He.ga K D) dx fs)
theorem No.ex {K : PySem.W.Frag} {C : Str} {H H' : Hp} {v : V} (h : No K C H v) (e : Ex H H') : No K C H' v := by
  rcases h with ⟨T, hT, h⟩ | ⟨a, D, dx, fs, h1, h2, h3, h4⟩
  · exact .inl ⟨T, hT, TyOf.ex' h fun a _ o q => e a o q⟩
  · exact .inr ⟨a, D, dx, fs, h1, h2, h3, e _ _ h4⟩
/-- isinstance(v, C) is False -/
theorem no_not {K : PySem.W.Frag} {mg : Str → Option Value} {H : Hp} {v : V} {C : Str} (T : Txt K mg) (hC : C ∈ owns) (h : No K C H v) : ∃ t, TyX K H v t ∧ PySem.W.kitOne K t (.ref (He.ga K C)) = some false ∧ PySem.W.notFirst K (He.ga K C) t = true := by
  rcases h with ⟨T1, h1, h2⟩ | ⟨a, D, dx, fs, rfl, hD, ne, ha⟩
  · exact ⟨_, .base h2, ((own_facts T hC).2.ty T1 h1).1, ((own_facts T hC).2.ty T1 h1).2.2⟩
  · rw [List.mem_singleton.mp hC, List.mem_singleton.mp hD] at *
    exact absurd rfl ne
def spNeedC (K : PySem.W.Frag) (C x : Str) : Sp := sp2 fun v z H Q E => ∃ s, z = .str s ∧ (((∃ a dx fs, v = .ref a ∧ H a = some (.ins (He.ga K C) dx fs)) ∧ Q v H) ∨ (No K C H v ∧ Raised K x "part" (.str s) H E))
theorem ok_need_poly {P : Program} {w : World} {K : PySem.W.Frag} {mg : Str → Option Value} {base : Heap} (T : Txt K mg) : ∃ fd, FnOk P w K mg base (L2.CX P w) 3 (He.ga K "need_poly") fd ["value", "part"] (spNeedC K "Poly" "BadPoly") ∧ Binds K fd ["value", "part"] [] := by
  obtain ⟨fd, F⟩ := T.d_need_poly
  obtain ⟨fd_BadPoly_init, F_BadPoly_init, B_BadPoly_init⟩ := ok_BadPoly_init (P := P) (w := w) (base := base) T
  refine ⟨fd, F.ok sc_need_poly sp2_len (fun cdv A outer s H vs Q E hr h => ?_), F.bindsN fun _ _ _ _ _ _ us hl => match us, hl with | [_, _], _ => rfl⟩
  have hr_BadPoly_init : Room 2 _ := hr.mono (by decide)
  obtain ⟨v, z, rfl, z', rfl, hh⟩ := sp2_is h
  refine ⟨_, (pss_cons (ps_if (pt_not (pt_val (pe_callB (cr_isi rfl) (by rfl) T.b_isinstance (by decide +kernel) (pa_cons (pv 0) (pa_cons (pe_glob (v := .ref (He.ga K "Poly")) rfl T.g_Poly rfl) pa_nil))))) (pss_one (ps_raise rfl (takes_of rfl rfl rfl rfl) (pmk_oex T.e_BadPoly.o T.e_BadPoly.i T.e_BadPoly.t F_BadPoly_init hr_BadPoly_init B_BadPoly_init .nil passL rfl T.g_BadPoly (pa_cons (pv 1) pa_nil)))) pss_nil)
      (pss_one (ps_ret (pv 0)))), ?_⟩
  walk_at "rd"
  rcases hh with ⟨⟨a, dx, fs, rfl, ha⟩, k⟩ | ⟨hb, k⟩
  · refine ⟨_, _, _, _, true, rfl, .own _, ty_own T (by decide) ha, T.cc_Poly.me, ?_⟩
    walk_at "rd"
    refine ite_f rfl ?_
    walk_at "rd"
    exact k
  · obtain ⟨t, ht, hk, _⟩ := no_not T (by decide) hb
    refine ⟨_, _, _, _, false, rfl, .own _, ht, hk, ?_⟩
    walk_at "rd"
    refine ite_t rfl ?_
    exact ⟨_, rfl, r_err rfl k⟩
/-! ### rows of integers -/
theorem ints_kn {K : PySem.W.Frag} {H : Hp} {ns : List Int} : ∀ x ∈ ns.map V.int, Kn K H x := fun x hx => by
  obtain ⟨i, _, rfl⟩ := List.mem_map.mp hx
  exact kn_int i
theorem int_at {ns : List Int} {i : Nat} {x : V} (hx : (ns.map V.int)[i]? = some x) : ∃ n, ns[i]? = some n ∧ x = .int n := by
  rw [List.getElem?_map] at hx
  cases q : ns[i]? with
  | none => rw [q] at hx; cases hx
  | some n => rw [q] at hx; exact ⟨n, rfl, (Option.some.inj hx).symm⟩
theorem ints_all (ns : List Int) : (ns.map V.int).all isI = true := by rw [List.all_map]; exact List.all_eq_true.mpr fun _ _ => rfl
def spNeedInts (K : PySem.W.Frag) : Sp := sp2 fun v z H Q E => ∃ (a : Addr) (ns : List Int), v = .ref a ∧ SqT K H a (ns.map V.int) ∧ H a = some (.tup (ns.map V.int)) ∧ ns.length ≤ 50000 ∧ ∀ H', Ex H H' → Q v H'
theorem ok_need_integers {P : Program} {w : World} {K : PySem.W.Frag} {mg : Str → Option Value} {base : Heap} (T : Txt K mg) : ∃ fd, FnOk P w K mg base (L2.CX P w) 3 (He.ga K "need_integers") fd ["value", "part"] (spNeedInts K) ∧ Binds K fd ["value", "part"] [] := by
  obtain ⟨fd, F⟩ := T.d_need_integers
  obtain ⟨fd_are_integers, F_are_integers, B_are_integers⟩ := ok_are_integers (P := P) (w := w) (base := base) T
  refine ⟨fd, F.ok sc_need_integers sp2_len (fun cdv A outer s H vs Q E hr h => ?_), F.bindsN fun _ _ _ _ _ _ us hl => match us, hl with | [_, _], _ => rfl⟩
  have hr_are_integers : Room 2 _ := hr.mono (by decide)
  obtain ⟨v, z, rfl, a, ns, rfl, hs, ha, hl, k⟩ := sp2_is h
  refine ⟨_, (pss_cons (ps_if (pt_not (pt_val (pe_call F_are_integers hr_are_integers (by rfl) T.g_are_integers T.k_are_integers B_are_integers .nil passL (pa_cons (pv 0) pa_nil)))) (pss_one ps_never) pss_nil)
      (pss_one (ps_ret (pe_callTy (kx_tupOf (K := K) rfl) (by rfl) T.b_tuple (by decide +kernel) (pa_cons (pv 0) pa_nil))))), ?_⟩
  walk_at "rd"
  refine .inl ⟨_, ⟨a, rfl, .inr ha⟩, by simpa using hl, ints_kn, fun H1 e1 => ?_⟩
  rw [ints_all]
  walk_at "rd"
  refine ite_f rfl ?_
  walk_at "rd"
  exact ⟨a, _, rfl, .inr ⟨e1.sqt hs, k H1 e1⟩⟩
def gcdL (ns : List Int) : Int := ns.foldl (fun d v => ((Nat.gcd d.natAbs v.natAbs : Nat) : Int)) 0
theorem foldl_take {α β : Type} (f : β → α → β) (b : β) (l : List α) {i : Nat} {a : α} (h : l[i]? = some a) : (l.take (i + 1)).foldl f b = f ((l.take i).foldl f b) a := by
  rw [List.take_add_one, h, List.foldl_append]
  rfl
def spCommon (K : PySem.W.Frag) : Sp := sp1 fun v H Q E => ∃ (a : Addr) (ns : List Int), v = .ref a ∧ H a = some (.tup (ns.map V.int)) ∧ ns.length ≤ 50000 ∧ ∀ H', Ex H H' → Q (.int (gcdL ns)) H'
theorem ok_common_divisor {P : Program} {w : World} {K : PySem.W.Frag} {mg : Str → Option Value} {base : Heap} (T : Txt K mg) : ∃ fd, FnOk P w K mg base (L2.CX P w) 4 (He.ga K "common_divisor") fd ["values"] (spCommon K) ∧ Binds K fd ["values"] [] := by
  obtain ⟨fd, F⟩ := T.d_common_divisor
  obtain ⟨fd_need_integers, F_need_integers, B_need_integers⟩ := ok_need_integers (P := P) (w := w) (base := base) T
  refine ⟨fd, F.ok sc_common_divisor sp1_len (fun cdv A outer s H vs Q E hr h => ?_), F.bindsN fun _ _ _ _ _ _ us hl => match us, hl with | [_], _ => rfl⟩
  have hr_need_integers : Room 3 _ := hr.mono (by decide)
  obtain ⟨v, rfl, a, ns, rfl, ha, hl, k⟩ := sp1_is h
  refine ⟨_, (pss_cons (ps_set (i := 1) sc_common_divisor.nd rfl (Or.inl rfl) pe_int)
      (pss_cons (ps_for (passes_of rfl) rfl (pi_tup (pe_call F_need_integers hr_need_integers (by rfl) T.g_need_integers T.k_need_integers B_need_integers .nil passL (pa_cons (pv 0) (pa_cons pe_str pa_nil)))) (pg_name (i := 2) sc_common_divisor.nd rfl (Or.inl rfl)) (pss_one (ps_set (i := 1) sc_common_divisor.nd rfl (Or.inl rfl) (pe_callBfun cr_gcd (by rfl) T.i_gcd (pa_cons (pv 1) (pa_cons (pv 2) pa_nil))))))
      (pss_one (ps_ret (pv 1))))), ?_⟩
  walk_at "rd"
  refine ⟨a, ns, rfl, SqT.of ha, ha, hl, fun H1 e1 => ?_⟩
  have ha1 := e1 _ _ ha
  refine ⟨a, rfl, ⟨_, SqT.of ha1⟩, ?_⟩
  refine for_of (walk_tup (xs := ns.map V.int)) (fun i σ H => H = H1 ∧ ∃ x, σ = [some (.ref a), some (.int ((ns.take i).foldl (fun d v => ((Nat.gcd d.natAbs v.natAbs : Nat) : Int)) 0)), x]) ⟨rfl, none, rfl⟩ (fun i σ H _ p => by rw [p.1]; exact SqT.of ha1) ?_ ?_
  · rintro i x σ H2 H' hi ⟨rfl, y, rfl⟩ ⟨rfl, hx⟩
    obtain ⟨n, hn, rfl⟩ := int_at hx
    walk_at "rd"
    refine ⟨_, _, rfl, ?_⟩
    refine ⟨rfl, some (.int n), ?_⟩
    rw [foldl_take _ _ _ hn]
    rfl
  · rintro σ H2 ⟨rfl, y, rfl⟩
    walk_at "rd"
    rw [List.length_map, List.take_length]
    exact k _ e1
/-! ### fields of a Poly -/
section
variable {K : PySem.W.Frag} {mg : Str → Option Value} {H : Hp} {σ : L2.St} {n : Nat} {a : Addr} {ns : List Int} {Q : VK}
theorem r_fn (T : Txt K mg) (h : Pl K H a ns) (q : ∀ t, H t = some (.tup (ns.map V.int)) → Q (.ref t) H) (hs : σ[n]? = some (some (.ref a)) := by rfl) : tFld K (tVar n) "numbers" σ H Q := by
  obtain ⟨_, _, _, dx, t, h, ht⟩ := h
  exact ⟨_, hs, a, _, dx, _, _, rfl, h, T.cl_Poly, T.na_Poly_numbers, rfl, q t ht⟩
theorem r_fd (T : Txt K mg) (h : Pl K H a ns) (q : Q (.int ((ns.length : Int) - 1)) H) (hs : σ[n]? = some (some (.ref a)) := by rfl) : tFld K (tVar n) "degree" σ H Q := by
  obtain ⟨_, _, _, dx, t, h, ht⟩ := h
  exact ⟨_, hs, a, _, dx, _, _, rfl, h, T.cl_Poly, T.na_Poly_degree, rfl, q⟩
end
theorem Pl.inst {K : PySem.W.Frag} {H : Hp} {a : Addr} {ns : List Int} (h : Pl K H a ns) : ∃ dx fs, H a = some (.ins (He.ga K "Poly") dx fs) := let ⟨_, _, _, dx, _, h, _⟩ := h; ⟨dx, _, h⟩
/-! ### == -/
def spPEq (K : PySem.W.Frag) : Sp := sp2 fun v o H Q E => ∃ a ns, v = .ref a ∧ Pl K H a ns ∧ ((∃ b ms, o = .ref b ∧ Pl K H b ms ∧ Q (.bl (decide (ns = ms))) H) ∨ (No K "Poly" H o ∧ Q (.bl false) H))
theorem ok_Poly_eq {P : Program} {w : World} {K : PySem.W.Frag} {mg : Str → Option Value} {base : Heap} (T : Txt K mg) : ∃ fd, FnOk P w K mg base (L2.CX P w) 1 (He.ma K (He.ga K "Poly") "__eq__") fd ["self", "other"] (spPEq K) ∧ Binds K fd ["self", "other"] [] := by
  obtain ⟨fd, F⟩ := T.d_Poly_eq
  refine ⟨fd, F.ok sc_Poly_eq sp2_len (fun cdv A outer s H vs Q E hr h => ?_), F.bindsN fun _ _ _ _ _ _ us hl => match us, hl with | [_, _], _ => rfl⟩
  obtain ⟨v, o, rfl, a, ns, rfl, ha, hh⟩ := sp2_is h
  refine ⟨_, (pss_one (ps_ret (pe_and (pe_callB (cr_isi rfl) (by rfl) T.b_isinstance (by decide +kernel) (pa_cons (pv 1) (pa_cons (pe_glob (v := .ref (He.ga K "Poly")) rfl T.g_Poly rfl) pa_nil))) (pe_one (pe_cmpR (op_eqD hr.units) (kx_fld rfl (pv 0) rfl) (kx_fld rfl (pv 1) rfl) (nomark _)))))), ?_⟩
  walk_at "rd"
  rcases hh with ⟨b, ms, rfl, hb, k⟩ | ⟨hb, k⟩
  · obtain ⟨dx, fs, hi⟩ := hb.inst
    refine ⟨_, _, _, _, true, rfl, .own _, ty_own T (by decide) hi, T.cc_Poly.me, ?_⟩
    walk_at "rd"
    refine ite_t rfl ?_
    walk_at "rd"
    refine r_fn T ha fun t1 h1 => ?_
    refine r_fn T hb fun t2 h2 => ?_
    exact r_eqInts h1 h2 k
  · obtain ⟨t, ht, hk, _⟩ := no_not T (by decide) hb
    refine ⟨_, _, _, _, false, rfl, .own _, ht, hk, ?_⟩
    walk_at "rd"
    exact ite_f rfl k

end K36
namespace K36
open PySem PySem.Spec PyProof.Rows L2 GS TL
local macro_rules | `(tactic| walk_at "rd") => `(tactic| (repeat (first
  | with_reducible refine r_next ?_
  | with_reducible refine r_seq ?_
  | with_reducible refine r_ret ?_
  | with_reducible refine r_ifS ?_
  | with_reducible refine r_asg ?_
  | with_reducible refine r_drop ?_
  | with_reducible refine r_op ?_
  | with_reducible refine r_un ?_
  | with_reducible refine r_cbInt ?_
  | with_reducible refine r_cbAbs ?_
  | with_reducible refine r_cbLen ?_
  | with_reducible refine r_cbList ?_
  | with_reducible refine r_cbTup ?_
  | with_reducible refine r_iEnT ?_
  | with_reducible refine r_iEnL ?_
  | with_reducible refine r_zipA ?_
  | with_reducible refine r_zipX ?_
  | with_reducible refine r_augS ?_
  | with_reducible refine r_cb ?_
  | with_reducible refine r_call ?_
  | with_reducible refine r_make ?_
  | with_reducible refine r_callN0 ?_
  | with_reducible refine r_makeK0 ?_
  | with_reducible refine r_makeS ?_
  | with_reducible refine r_callS ?_
  | with_reducible refine r_cons ?_
  | with_reducible refine r_nil ?_
  | with_reducible refine r_test ?_
  | with_reducible refine r_B ?_
  | with_reducible refine r_and ?_
  | with_reducible refine r_or ?_
  | with_reducible refine r_not ?_
  | with_reducible refine r_andV ?_
  | with_reducible refine r_orV ?_
  | with_reducible refine r_notV ?_
  | with_reducible refine r_if ?_
  | with_reducible refine r_tup ?_
  | with_reducible refine r_lst ?_
  | with_reducible refine r_c ?_
  | with_reducible refine r_lc ?_
  | with_reducible refine r_chain ?_
  | with_reducible refine r_iT ?_
  | with_reducible refine r_iL ?_
  | with_reducible refine r_iR1 ?_
  | with_reducible refine r_iR2 ?_
  | with_reducible refine r_iR3 ?_
  | with_reducible refine r_asgG ?_
  | with_reducible refine r_gSub ?_
  | with_reducible refine r_for ?_
  | with_reducible refine r_smeth ?_
  | with_reducible refine r_par ?_
  | with_reducible refine r_parK ?_
  | with_reducible refine r_gCons ?_
  | with_reducible refine r_gNil ?_
  | with_reducible refine r_gName ?_
  | with_reducible refine r_intI ?_
  | with_reducible refine r_intB ?_
  | with_reducible refine r_absI ?_
  | with_reducible refine r_k ?_
  | with_reducible refine r_kV ?_
  | ((with_reducible show tVar _ _ _ _); refine r_var3 ?_ (by rfl))
  | with_reducible refine r_I0 ?_
  | with_reducible refine r_U ?_
  | with_reducible refine r_eqI ?_
  | with_reducible refine r_neI ?_
  | dsimp only)))
local macro_rules | `(tactic| walk_at "rx") => `(tactic| (repeat (first
  | with_reducible refine r_next ?_
  | with_reducible refine r_ret ?_
  | with_reducible refine r_ifS ?_
  | with_reducible refine r_asg ?_
  | with_reducible refine r_drop ?_
  | with_reducible refine r_op ?_
  | with_reducible refine r_un ?_
  | with_reducible refine r_cbInt ?_
  | with_reducible refine r_cbAbs ?_
  | with_reducible refine r_cbLen ?_
  | with_reducible refine r_cbList ?_
  | with_reducible refine r_cbTup ?_
  | with_reducible refine r_iEnT ?_
  | with_reducible refine r_iEnL ?_
  | with_reducible refine r_zipA ?_
  | with_reducible refine r_zipX ?_
  | with_reducible refine r_augS ?_
  | with_reducible refine r_cb ?_
  | with_reducible refine r_call ?_
  | with_reducible refine r_make ?_
  | with_reducible refine r_callN0 ?_
  | with_reducible refine r_makeK0 ?_
  | with_reducible refine r_makeS ?_
  | with_reducible refine r_callS ?_
  | with_reducible refine r_cons ?_
  | with_reducible refine r_nil ?_
  | with_reducible refine r_test ?_
  | with_reducible refine r_B ?_
  | with_reducible refine r_and ?_
  | with_reducible refine r_or ?_
  | with_reducible refine r_not ?_
  | with_reducible refine r_andV ?_
  | with_reducible refine r_orV ?_
  | with_reducible refine r_notV ?_
  | with_reducible refine r_if ?_
  | with_reducible refine r_tup ?_
  | with_reducible refine r_lst ?_
  | with_reducible refine r_c ?_
  | with_reducible refine r_lc ?_
  | with_reducible refine r_chain ?_
  | with_reducible refine r_iT ?_
  | with_reducible refine r_iL ?_
  | with_reducible refine r_iR1 ?_
  | with_reducible refine r_iR2 ?_
  | with_reducible refine r_iR3 ?_
  | with_reducible refine r_asgG ?_
  | with_reducible refine r_gSub ?_
  | with_reducible refine r_for ?_
  | with_reducible refine r_smeth ?_
  | with_reducible refine r_par ?_
  | with_reducible refine r_parK ?_
  | with_reducible refine r_gCons ?_
  | with_reducible refine r_gNil ?_
  | with_reducible refine r_gName ?_
  | with_reducible refine r_intI ?_
  | with_reducible refine r_intB ?_
  | with_reducible refine r_absI ?_
  | with_reducible refine r_k ?_
  | with_reducible refine r_kV ?_
  | ((with_reducible show tVar _ _ _ _); refine r_var3 ?_ (by rfl))
  | with_reducible refine r_I0 ?_
  | with_reducible refine r_U ?_
  | with_reducible refine r_eqI ?_
  | with_reducible refine r_neI ?_
  | dsimp only)))
/-! ### loops over rows of integers -/
section
variable {K : PySem.W.Frag} {ns : List Int} {a : Addr} {g1 g2 : Nat} {tb : TS} {D : Ends} {σ : L2.St} {H : Hp}
theorem SqT.ints {K : PySem.W.Frag} {H : Hp} {a : Addr} {xs : List V} (h : H a = some (.tup xs)) : SqT K H a xs := SqT.of h
theorem for_enT (Pv : Nat → L2.St → Hp → Prop) (h0 : Pv 0 σ H) (hG : ∀ i σ H, i ≤ ns.length → Pv i σ H → H a = some (.tup (ns.map V.int)))
    (hs : ∀ i n σ H H', ns[i]? = some n → Pv i σ H → Ex H H' → tb { D with nx := Pv (i + 1), ct := Pv (i + 1), bk := D.nx } ((σ.set g1 (some (.int (i : Nat)))).set g2 (some (.int n))) H') (hd : ∀ σ H, Pv ns.length σ H → D.nx σ H) :
    forB (IteT K a) (gTup K 2 (gCons (gName g1) (gCons (gName g2) gNil))) tb D σ H := by
  refine for_of (walk_enumT (xs := ns.map V.int)) Pv h0 (fun i σ H hi p => SqT.of (hG i σ H (by simpa using hi) p)) ?_ (by rw [List.length_map]; exact hd)
  rintro i x σ H H' hi p ⟨T, x1, x2, rfl, hT, rfl, e1, e2⟩
  cases e1
  obtain ⟨n, hn, rfl⟩ := int_at e2
  exact r_gTup upd_same rfl (r_gCons (r_gName (r_gCons (r_gName (r_gNil (hs i n σ H _ hn p (Ex.new hT)))))))
theorem for_enL (Pv : Nat → L2.St → Hp → Prop) (h0 : Pv 0 σ H) (hG : ∀ i σ H, i ≤ ns.length → Pv i σ H → H a = some (.lst (ns.map V.int)))
    (hs : ∀ i n σ H H', ns[i]? = some n → Pv i σ H → Ex H H' → tb { D with nx := Pv (i + 1), ct := Pv (i + 1), bk := D.nx } ((σ.set g1 (some (.int (i : Nat)))).set g2 (some (.int n))) H') (hd : ∀ σ H, Pv ns.length σ H → D.nx σ H) :
    forB (Ite K a) (gTup K 2 (gCons (gName g1) (gCons (gName g2) gNil))) tb D σ H := by
  refine for_of (walk_enum (xs := ns.map V.int)) Pv h0 (fun i σ H hi p => SqL.of (hG i σ H (by simpa using hi) p)) ?_ (by rw [List.length_map]; exact hd)
  rintro i x σ H H' hi p ⟨T, x1, x2, rfl, hT, rfl, e1, e2⟩
  cases e1
  obtain ⟨n, hn, rfl⟩ := int_at e2
  exact r_gTup upd_same rfl (r_gCons (r_gName (r_gCons (r_gName (r_gNil (hs i n σ H _ hn p (Ex.new hT)))))))
theorem for_tI (Pv : Nat → L2.St → Hp → Prop) (h0 : Pv 0 σ H) (hG : ∀ i σ H, i ≤ ns.length → Pv i σ H → H a = some (.tup (ns.map V.int)))
    (hs : ∀ i n σ H, ns[i]? = some n → Pv i σ H → tb { D with nx := Pv (i + 1), ct := Pv (i + 1), bk := D.nx } (σ.set g1 (some (.int n))) H) (hd : ∀ σ H, Pv ns.length σ H → D.nx σ H) :
    forB (Itt K a) (gName g1) tb D σ H := by
  refine for_of (walk_tup (xs := ns.map V.int)) Pv h0 (fun i σ H hi p => SqT.of (hG i σ H (by simpa using hi) p)) ?_ (by rw [List.length_map]; exact hd)
  rintro i x σ H H' hi p ⟨rfl, e2⟩
  obtain ⟨n, hn, rfl⟩ := int_at e2
  exact hs i n σ H' hn p
theorem for_lI (Pv : Nat → L2.St → Hp → Prop) (h0 : Pv 0 σ H) (hG : ∀ i σ H, i ≤ ns.length → Pv i σ H → H a = some (.lst (ns.map V.int)))
    (hs : ∀ i n σ H, ns[i]? = some n → Pv i σ H → tb { D with nx := Pv (i + 1), ct := Pv (i + 1), bk := D.nx } (σ.set g1 (some (.int n))) H) (hd : ∀ σ H, Pv ns.length σ H → D.nx σ H) :
    forB (Itl K a) (gName g1) tb D σ H := by
  refine for_of (walk_list (xs := ns.map V.int)) Pv h0 (fun i σ H hi p => SqL.of (hG i σ H (by simpa using hi) p)) ?_ (by rw [List.length_map]; exact hd)
  rintro i x σ H H' hi p ⟨rfl, e2⟩
  obtain ⟨n, hn, rfl⟩ := int_at e2
  exact hs i n σ H' hn p
theorem r_iEnT {ta : TA} {R : It → Hp → Prop} (q : ta σ H fun vs H1 => ∃ a xs, vs = [.ref a] ∧ SqT K H1 a xs ∧ R (IteT K a) H1) : iEnumT K ta σ H R := q
theorem r_iEnL {ta : TA} {R : It → Hp → Prop} (q : ta σ H fun vs H1 => ∃ a xs, vs = [.ref a] ∧ SqL K H1 a xs ∧ R (Ite K a) H1) : iEnum K ta σ H R := q
theorem r_augS {to ti te : TE} {tget : V → V → Hp → VK → Prop} {tip : TIp} {tset : TSet} (q : to σ H fun o H1 => ti σ H1 fun i H2 => tget o i H2 fun x H3 => te σ H3 fun y H4 => tip x y H4 fun z H5 => tset o i z H5 fun H6 => D.nx σ H6) : tAugS to ti te tget tip tset D σ H := q
end
theorem ixN_nat {n j : Nat} (h : j < n) : ixN n ((j : Nat) : Int) = some j := by
  unfold ixN
  rw [if_pos (Int.natCast_nonneg j), if_pos (by omega), Int.toNat_natCast]
theorem rep_ints (k : Nat) : List.replicate k (V.int 0) = (GM.zr k).map V.int := by simp [GM.zr]
theorem set_ints (l : List Int) (j : Nat) (v : Int) : (l.map V.int).set j (.int v) = (l.set j v).map V.int := by rw [List.map_set]
theorem Bu.ins {K : PySem.W.Frag} {H H' : Hp} {p a : Addr} {ns xs : List Int} (h : Pl K H a ns) (b : Bu p H H') (hp : H p = some (.lst (xs.map V.int))) : Pl K H' a ns := by
  obtain ⟨h1, h2, h3, dx, t, h4, h5⟩ := h
  refine ⟨h1, h2, h3, dx, t, b _ _ ?_ h4, b _ _ ?_ h5⟩
  · rintro rfl; rw [hp] at h4; cases h4
  · rintro rfl; rw [hp] at h5; cases h5
theorem rep_flat (m : Nat) : (List.replicate m [V.int 0]).flatten = List.replicate m (V.int 0) := by
  induction m with
  | zero => rfl
  | succ m ih => rw [List.replicate_succ, List.flatten_cons, ih, List.replicate_succ]; rfl
theorem r_zeros {H : Hp} {Q : VK} {q : Addr} {k : Int} {m : Nat} (h : H q = some (.lst [.int 0])) (hk : k = (m : Nat)) (hm : m ≤ 1000) (g : ∀ p H', H p = none → Ex H H' → H' p = some (.lst ((GM.zr m).map V.int)) → Q (.ref p) H') : rRep (.ref q) (.int k) H Q := by
  subst hk
  refine ⟨q, m, [.int 0], rfl, rfl, h, by omega, by omega, sz_le (by simp; omega), fun p hp => g p _ hp (Ex.new hp) ?_⟩
  rw [upd_same, Int.toNat_natCast, rep_flat, rep_ints]
theorem Pl.bu {K : PySem.W.Frag} {H H' : Hp} {p a : Addr} {ns xs : List Int} (h : Pl K H a ns) (b : Bu p H H') (hp : H p = some (.lst (xs.map V.int))) : Pl K H' a ns := Bu.ins h b hp
theorem Pl.ok {K : PySem.W.Frag} {H : Hp} {a : Addr} {ns : List Int} (h : Pl K H a ns) : okN ns := ⟨h.1, h.2.1, h.2.2.1⟩
theorem gcdL_eq (ns : List Int) : gcdL ns = GM.gl ns := rfl
theorem okN.low {ns : List Int} (h : okN ns) : okN (GM.low ns) := ⟨by rw [GM.low_len]; exact h.1, by rw [GM.low_len]; exact h.2.1, GM.low_head h.2.2⟩
theorem gl_z {n : Nat} {ns : List Int} (ok : 0 < ns.headD 0) (hz : ∀ c ∈ ns, Z n c) : Z n (GM.gl ns) := by
  obtain ⟨c, hc⟩ : ∃ c, ns.head? = some c := by
    cases ns with
    | nil => exact absurd ok (by decide)
    | cons c r => exact ⟨c, rfl⟩
  have hm : c ∈ ns := List.mem_of_head? hc
  rw [List.headD_eq_head?_getD, hc] at ok
  simp only [Option.getD_some] at ok
  have d := Int.le_of_dvd ok (GM.gl_dvd hm)
  have g0 := GM.gl_nonneg ns
  have z : c.natAbs < 2 ^ n := hz c hm
  show (GM.gl ns).natAbs < 2 ^ n
  omega
def spLess (K : PySem.W.Frag) : Sp := sp1 fun v H Q E => ∃ a ns, v = .ref a ∧ Pl K H a ns ∧ (∀ c ∈ ns, Z 3000 c) ∧ ∀ p H', H p = none → Ex H H' → Pl K H' p (GM.low ns) → Q (.ref p) H'
theorem ok_lessened {P : Program} {w : World} {K : PySem.W.Frag} {mg : Str → Option Value} {base : Heap} (T : Txt K mg) : ∃ fd, FnOk P w K mg base (L2.CX P w) 5 (He.ga K "lessened") fd ["poly"] (spLess K) ∧ Binds K fd ["poly"] [] := by
  obtain ⟨fd, F⟩ := T.d_lessened
  obtain ⟨fd_Poly_init, F_Poly_init, B_Poly_init⟩ := ok_Poly_init (P := P) (w := w) (base := base) T
  obtain ⟨fd_common_divisor, F_common_divisor, B_common_divisor⟩ := ok_common_divisor (P := P) (w := w) (base := base) T
  obtain ⟨fd_need_poly, F_need_poly, B_need_poly⟩ := ok_need_poly (P := P) (w := w) (base := base) T
  refine ⟨fd, F.ok sc_lessened sp1_len (fun cdv A outer s H vs Q E hr h => ?_), F.bindsN fun _ _ _ _ _ _ us hl => match us, hl with | [_], _ => rfl⟩
  have hr_Poly_init : Room 4 _ := hr.mono (by decide)
  have hr_common_divisor : Room 4 _ := hr.mono (by decide)
  have hr_need_poly : Room 3 _ := hr.mono (by decide)
  obtain ⟨v, rfl, a, ns, rfl, ha, hz, k⟩ := sp1_is h
  refine ⟨_, (pss_cons (ps_expr (pe_call F_need_poly hr_need_poly (by rfl) T.g_need_poly T.k_need_poly B_need_poly .nil passL (pa_cons (pv 0) (pa_cons pe_str pa_nil))))
      (pss_cons (ps_set (i := 1) sc_lessened.nd rfl (Or.inr rfl) (pe_call F_common_divisor hr_common_divisor (by rfl) T.g_common_divisor T.k_common_divisor B_common_divisor .nil passL (pa_cons (kx_fld rfl (pv 0) rfl) pa_nil)))
      (pss_one (ps_ret (pe_make T.mk_Poly F_Poly_init hr_Poly_init (by rfl) T.g_Poly B_Poly_init .nil passL (pa_cons (pe_lc (own := [("number", 2)]) (g := gName 2) (tt := tYes)  rfl sc_lessened.nd (pi_tup (kx_fld rfl (pv 0) rfl)) (blkOk_by (own := [("number", 2)]) (N := ["poly", "divisor", "number"]) (sc := defScope s_lessened) (by decide +kernel)) (fun _ _ _ _ _ => (pg_name (i := 2) sc_lessened.nd rfl (Or.inl rfl))) (fun _ _ _ _ _ => pts_nil) (fun _ _ _ _ _ => (pe_op op_fdivW (pv 2) (pv 1)))) pa_nil)))))), ?_⟩
  walk_at "rd"
  obtain ⟨dx, fs, hi⟩ := ha.inst
  refine ⟨_, rfl, .inl ⟨⟨_, _, _, rfl, hi⟩, ?_⟩⟩
  walk_at "rd"
  refine r_fn T ha fun t ht => ?_
  walk_at "rd"
  refine ⟨t, ns, rfl, ht, Nat.le_trans ha.2.1 (by decide), fun H1 e1 => ?_⟩
  walk_at "rd"
  have ha1 := ha.ex e1
  refine r_fn T ha1 fun t1 ht1 => ?_
  walk_at "rd"
  refine ⟨t1, rfl, ⟨_, SqT.of ht1⟩, ?_⟩
  have l64 : ns.length ≤ 64 := ha.2.1
  refine r_lcZ (walk_tup (xs := ns.map V.int)) (GM.low ns) (by simp [GM.low_len]) (by simp; omega) (fun H' e => e.sqt (SqT.of ht1)) ?_ ?_
  · rintro k' x H2 H3 hk e2 ⟨rfl, g1⟩ N hN
    obtain ⟨n1, hn1, rfl⟩ := int_at g1
    refine r_gName ⟨rfl, ?_⟩
    walk_at "rd"
    refine r_I ⟨GM.gl_pos ha.ok.2.2, ?_⟩ ?_
    · exact Nat.lt_trans (lg_lt (gl_z ha.ok.2.2 hz) (by decide)) (by decide)
    have e : (GM.low ns).getD k' 0 = n1 / gcdL ns := by
      rw [List.getD_eq_getElem?_getD, GM.low, List.getElem?_map, hn1]
      rfl
    rw [← e]
    exact hN _ (Ex.refl _)
  · intro D H2 hD e2 hl
    exact r_Poly ⟨D, rfl, .inl hl⟩ ha.ok.low fun p H3 hp e3 hp3 => k p H3 ((e1.trans e2).free hp) ((e1.trans e2).trans e3) hp3
/-! ### sums of products -/
def dotL (l r : List Int) : Int := (List.zipWith (· * ·) l r).sum
theorem dot_sm : ∀ (r l : List Int), r.length ≤ l.length → dotL l r = GM.sm r.length (fun i => l.getD i 0 * r.getD i 0)
  | [], l, _ => by simp [dotL, GM.sm]
  | b :: r, [], h => by simp at h
  | b :: r, a :: l, h => by
    have e := dot_sm r l (by simpa using h)
    rw [List.length_cons, GM.sm_cons]
    show a * b + dotL l r = a * b + _
    rw [e]
    rfl
theorem sum_z {n : Nat} : ∀ (l : List Int) (m : Nat), l.length ≤ 2 ^ m → (∀ c ∈ l, Z n c) → Z (n + m) l.sum := by
  have key : ∀ (l : List Int), (∀ c ∈ l, Z n c) → l.sum.natAbs ≤ l.length * 2 ^ n := by
    intro l
    induction l with
    | nil => intro _; simp
    | cons a l ih =>
      intro h
      have h1 : a.natAbs < 2 ^ n := h a (by simp)
      have h2 := ih fun c m => h c (by simp [m])
      rw [List.sum_cons, List.length_cons, Nat.add_mul]
      have := Int.natAbs_add_le a l.sum
      omega
  intro l m hl h
  cases l with
  | nil => show (0 : Int).natAbs < _; exact Nat.pow_pos (by decide)
  | cons a l =>
    have a1 : a.natAbs < 2 ^ n := h a (by simp)
    have k := key l fun c m => h c (by simp [m])
    have : (a + l.sum).natAbs ≤ a.natAbs + l.sum.natAbs := Int.natAbs_add_le _ _
    show (a + l.sum).natAbs < 2 ^ (n + m)
    have e : 2 ^ (n + m) = 2 ^ n * 2 ^ m := Nat.pow_add ..
    have l2 : (l.length + 1) * 2 ^ n ≤ 2 ^ m * 2 ^ n := Nat.mul_le_mul_right _ hl
    rw [Nat.add_mul] at l2
    rw [e, Nat.mul_comm (2 ^ n)]
    omega
def spDot (K : PySem.W.Frag) : Sp := sp2 fun v w H Q _ => ∃ (t1 t2 : Bool) (a b : Addr) (ns ms : List Int), v = .ref a ∧ w = .ref b ∧ SqX K H t1 a (ns.map V.int) ∧ SqX K H t2 b (ms.map V.int) ∧ ns.length ≤ 1000 ∧ (∀ c ∈ ns, Z 20000 c) ∧ (∀ c ∈ ms, Z 20000 c) ∧ ∀ H', Ex H H' → Q (.int (dotL ns ms)) H'
theorem ok_product_sum {P : Program} {w : World} {K : PySem.W.Frag} {mg : Str → Option Value} {base : Heap} (T : Txt K mg) : ∃ fd, FnOk P w K mg base (L2.CX P w) 1 (He.ga K "product_sum") fd ["one", "other"] (spDot K) ∧ Binds K fd ["one", "other"] [] := by
  obtain ⟨fd, F⟩ := T.d_product_sum
  refine ⟨fd, F.ok sc_product_sum sp2_len (fun cdv A outer s H vs Q E hr h => ?_), F.bindsN fun _ _ _ _ _ _ us hl => match us, hl with | [_, _], _ => rfl⟩
  obtain ⟨v, w', rfl, t1, t2, a, b, ns, ms, rfl, rfl, ha, hb, hl, z1, z2, k⟩ := sp2_is h
  refine ⟨_, (pss_one (ps_ret (pe_callB (kx_sum (K := K) rfl rfl) (by rfl) T.b_sum (by decide +kernel) (pa_cons (pe_lc (own := [("mine", 2), ("its", 3)]) (g := gTup K 2 (gCons (gName 2) (gCons (gName 3) (gNil)))) (tt := tYes)  rfl sc_product_sum.nd (pi_zipX (by rfl) T.b_zip (pa_cons (pv 0) (pa_cons (pv 1) pa_nil))) (blkOk_by (own := [("mine", 2), ("its", 3)]) (N := ["one", "other", "mine", "its"]) (sc := defScope s_product_sum) (by decide +kernel)) (fun _ _ _ _ _ => (pg_tup rfl (pgs_cons (pg_name (i := 2) sc_product_sum.nd rfl (Or.inl rfl)) (pgs_cons (pg_name (i := 3) sc_product_sum.nd rfl (Or.inl rfl)) pgs_nil)))) (fun _ _ _ _ _ => pts_nil) (fun _ _ _ _ _ => (pe_op op_mulW (pv 2) (pv 3)))) pa_nil)))), ?_⟩
  walk_at "rd"
  refine ⟨t1, t2, a, b, ns.map V.int, ms.map V.int, rfl, ha, hb, ?_⟩
  refine r_lcZ (n := min ns.length ms.length) (walk_zipX (xs := ns.map V.int) (ys := ms.map V.int) (by simp)) (List.zipWith (· * ·) ns ms) (by simp) (by omega) (fun H' e => ⟨sqX_ex e ha, sqX_ex e hb⟩) ?_ ?_
  · rintro i x H1 H2 hi e1 ⟨T0, x1, x2, rfl, hT, rfl, g1, g2⟩ N hN
    obtain ⟨n1, hn1, rfl⟩ := int_at g1
    obtain ⟨n2, hn2, rfl⟩ := int_at g2
    refine r_gTup upd_same rfl (r_gCons (r_gName (r_gCons (r_gName (r_gNil ⟨rfl, ?_⟩)))))
    walk_at "rd"
    refine r_I (mulOk (z1 n1 (List.mem_of_getElem? hn1)) (z2 n2 (List.mem_of_getElem? hn2)) (by decide) (by decide) (by decide)) ?_
    have e : (List.zipWith (· * ·) ns ms).getD i 0 = n1 * n2 := by
      rw [List.getD_eq_getElem?_getD, List.getElem?_zipWith, hn1, hn2]
      rfl
    rw [← e]
    exact hN _ (Ex.new hT)
  · intro D H1 hD e1 hl1
    exact ⟨D, _, rfl, SqL.of hl1, k H1 e1⟩

end K36
namespace K36
open PySem PySem.Spec PyProof.Rows L2 GS TL
local macro_rules | `(tactic| walk_at "rd") => `(tactic| (repeat (first
  | with_reducible refine r_next ?_
  | with_reducible refine r_seq ?_
  | with_reducible refine r_ret ?_
  | with_reducible refine r_ifS ?_
  | with_reducible refine r_asg ?_
  | with_reducible refine r_drop ?_
  | with_reducible refine r_op ?_
  | with_reducible refine r_un ?_
  | with_reducible refine r_cbInt ?_
  | with_reducible refine r_cbAbs ?_
  | with_reducible refine r_cbLen ?_
  | with_reducible refine r_cbList ?_
  | with_reducible refine r_cbTup ?_
  | with_reducible refine r_iEnT ?_
  | with_reducible refine r_iEnL ?_
  | with_reducible refine r_zipA ?_
  | with_reducible refine r_zipX ?_
  | with_reducible refine r_augS ?_
  | with_reducible refine r_cb ?_
  | with_reducible refine r_call ?_
  | with_reducible refine r_make ?_
  | with_reducible refine r_callN0 ?_
  | with_reducible refine r_makeK0 ?_
  | with_reducible refine r_makeS ?_
  | with_reducible refine r_callS ?_
  | with_reducible refine r_cons ?_
  | with_reducible refine r_nil ?_
  | with_reducible refine r_test ?_
  | with_reducible refine r_B ?_
  | with_reducible refine r_and ?_
  | with_reducible refine r_or ?_
  | with_reducible refine r_not ?_
  | with_reducible refine r_andV ?_
  | with_reducible refine r_orV ?_
  | with_reducible refine r_notV ?_
  | with_reducible refine r_if ?_
  | with_reducible refine r_tup ?_
  | with_reducible refine r_lst ?_
  | with_reducible refine r_c ?_
  | with_reducible refine r_lc ?_
  | with_reducible refine r_chain ?_
  | with_reducible refine r_iT ?_
  | with_reducible refine r_iL ?_
  | with_reducible refine r_iR1 ?_
  | with_reducible refine r_iR2 ?_
  | with_reducible refine r_iR3 ?_
  | with_reducible refine r_asgG ?_
  | with_reducible refine r_gSub ?_
  | with_reducible refine r_for ?_
  | with_reducible refine r_smeth ?_
  | with_reducible refine r_par ?_
  | with_reducible refine r_parK ?_
  | with_reducible refine r_gCons ?_
  | with_reducible refine r_gNil ?_
  | with_reducible refine r_gName ?_
  | with_reducible refine r_intI ?_
  | with_reducible refine r_intB ?_
  | with_reducible refine r_absI ?_
  | with_reducible refine r_k ?_
  | with_reducible refine r_kV ?_
  | ((with_reducible show tVar _ _ _ _); refine r_var3 ?_ (by rfl))
  | with_reducible refine r_I0 ?_
  | with_reducible refine r_U ?_
  | with_reducible refine r_eqI ?_
  | with_reducible refine r_neI ?_
  | dsimp only)))
local macro_rules | `(tactic| walk_at "rx") => `(tactic| (repeat (first
  | with_reducible refine r_next ?_
  | with_reducible refine r_ret ?_
  | with_reducible refine r_ifS ?_
  | with_reducible refine r_asg ?_
  | with_reducible refine r_drop ?_
  | with_reducible refine r_op ?_
  | with_reducible refine r_un ?_
  | with_reducible refine r_cbInt ?_
  | with_reducible refine r_cbAbs ?_
  | with_reducible refine r_cbLen ?_
  | with_reducible refine r_cbList ?_
  | with_reducible refine r_cbTup ?_
  | with_reducible refine r_iEnT ?_
  | with_reducible refine r_iEnL ?_
  | with_reducible refine r_zipA ?_
  | with_reducible refine r_zipX ?_
  | with_reducible refine r_augS ?_
  | with_reducible refine r_cb ?_
  | with_reducible refine r_call ?_
  | with_reducible refine r_make ?_
  | with_reducible refine r_callN0 ?_
  | with_reducible refine r_makeK0 ?_
  | with_reducible refine r_makeS ?_
  | with_reducible refine r_callS ?_
  | with_reducible refine r_cons ?_
  | with_reducible refine r_nil ?_
  | with_reducible refine r_test ?_
  | with_reducible refine r_B ?_
  | with_reducible refine r_and ?_
  | with_reducible refine r_or ?_
  | with_reducible refine r_not ?_
  | with_reducible refine r_andV ?_
  | with_reducible refine r_orV ?_
  | with_reducible refine r_notV ?_
  | with_reducible refine r_if ?_
  | with_reducible refine r_tup ?_
  | with_reducible refine r_lst ?_
  | with_reducible refine r_c ?_
  | with_reducible refine r_lc ?_
  | with_reducible refine r_chain ?_
  | with_reducible refine r_iT ?_
  | with_reducible refine r_iL ?_
  | with_reducible refine r_iR1 ?_
  | with_reducible refine r_iR2 ?_
  | with_reducible refine r_iR3 ?_
  | with_reducible refine r_asgG ?_
  | with_reducible refine r_gSub ?_
  | with_reducible refine r_for ?_
  | with_reducible refine r_smeth ?_
  | with_reducible refine r_par ?_
  | with_reducible refine r_parK ?_
  | with_reducible refine r_gCons ?_
  | with_reducible refine r_gNil ?_
  | with_reducible refine r_gName ?_
  | with_reducible refine r_intI ?_
  | with_reducible refine r_intB ?_
  | with_reducible refine r_absI ?_
  | with_reducible refine r_k ?_
  | with_reducible refine r_kV ?_
  | ((with_reducible show tVar _ _ _ _); refine r_var3 ?_ (by rfl))
  | with_reducible refine r_I0 ?_
  | with_reducible refine r_U ?_
  | with_reducible refine r_eqI ?_
  | with_reducible refine r_neI ?_
  | dsimp only)))
/-! ### factorials -/
theorem fac_eq : ∀ n : Nat, ((Builtin.Math.factorialNat n : Nat) : Int) = GM.fac n
  | 0 => rfl
  | n + 1 => by
    rw [PySem.W.mc_fac_succ, Int.natCast_mul, fac_eq n]
    rfl
theorem fac_z {n : Nat} (h : n ≤ 63) : Z 300 (GM.fac n) := by
  have key : ∀ n, n ≤ 63 → (GM.fac n).natAbs < 2 ^ 300 := by decide +kernel
  exact key n h
def facL (d : Nat) : List Int := (List.range (d + 1)).map fun k => GM.fac (d - k)
def spFacs (K : PySem.W.Frag) : Sp := sp1 fun v H Q _ => ∃ d : Nat, v = .int d ∧ d ≤ 63 ∧ ∀ p H', H p = none → Ex H H' → H' p = some (.lst ((facL d).map V.int)) → Q (.ref p) H'
theorem ok_factorials_down {P : Program} {w : World} {K : PySem.W.Frag} {mg : Str → Option Value} {base : Heap} (T : Txt K mg) : ∃ fd, FnOk P w K mg base (L2.CX P w) 1 (He.ga K "factorials_down") fd ["degree"] (spFacs K) ∧ Binds K fd ["degree"] [] := by
  obtain ⟨fd, F⟩ := T.d_factorials_down
  refine ⟨fd, F.ok sc_factorials_down sp1_len (fun cdv A outer s H vs Q E hr h => ?_), F.bindsN fun _ _ _ _ _ _ us hl => match us, hl with | [_], _ => rfl⟩
  obtain ⟨v, rfl, d, rfl, hd, k⟩ := sp1_is h
  refine ⟨_, (pss_one (ps_ret (pe_lc (own := [("at", 1)]) (g := gName 1) (tt := tYes)  rfl sc_factorials_down.nd (pi_range1 (by rfl) T.b_range (pa_cons (pe_op op_add (pv 0) pe_int) pa_nil)) (blkOk_by (own := [("at", 1)]) (N := ["degree", "at"]) (sc := defScope s_factorials_down) (by decide +kernel)) (fun _ _ _ _ _ => (pg_name (i := 1) sc_factorials_down.nd rfl (Or.inl rfl))) (fun _ _ _ _ _ => pts_nil) (fun _ _ _ _ _ => (pe_callBfun cr_fac (by rfl) T.i_factorial (pa_cons (pe_op op_sub (pv 0) (pv 1)) pa_nil)))))), ?_⟩
  walk_at "rd"
  refine ⟨_, rfl, by omega, by omega, ?_⟩
  refine r_lcZ (n := d + 1) (by rw [show ((d : Int) + 1).toNat = d + 1 by omega]; exact walk_range (lo := 0) (n := d + 1)) (facL d) (by simp [facL]) (by omega) (fun _ _ => trivial) ?_ ?_
  · rintro i x H1 H2 hi e1 ⟨rfl, rfl⟩ N hN
    refine r_gName ⟨rfl, ?_⟩
    walk_at "rd"
    refine ⟨d - i, congrArg (fun z => [V.int z]) (by omega), by omega, ?_⟩
    have e : (facL d).getD i 0 = ((Builtin.Math.factorialNat (d - i) : Nat) : Int) := by
      rw [fac_eq, List.getD_eq_getElem?_getD, facL, List.getElem?_map, List.getElem?_range hi]
      rfl
    rw [← e]
    exact hN _ (Ex.refl _)
  · intro D H1 hD e1 hl
    exact k D H1 hD e1 hl
def spLike (K : PySem.W.Frag) : Sp := sp2 fun v w H Q E => (No K "Poly" H v ∧ Raised K "BadPoly" "part" (.str "one") H E) ∨
  ∃ a ns, v = .ref a ∧ Pl K H a ns ∧ ((No K "Poly" H w ∧ Raised K "BadPoly" "part" (.str "other") H E) ∨
  ∃ b ms, w = .ref b ∧ Pl K H b ms ∧ (ns.length ≠ ms.length → Raised K "Misfit" "part" (.str "degree") H E) ∧ (ns.length = ms.length → Q .non H))
theorem ok_need_like_polys {P : Program} {w : World} {K : PySem.W.Frag} {mg : Str → Option Value} {base : Heap} (T : Txt K mg) : ∃ fd, FnOk P w K mg base (L2.CX P w) 4 (He.ga K "need_like_polys") fd ["one", "other"] (spLike K) ∧ Binds K fd ["one", "other"] [] := by
  obtain ⟨fd, F⟩ := T.d_need_like_polys
  obtain ⟨fd_Misfit_init, F_Misfit_init, B_Misfit_init⟩ := ok_Misfit_init (P := P) (w := w) (base := base) T
  obtain ⟨fd_need_poly, F_need_poly, B_need_poly⟩ := ok_need_poly (P := P) (w := w) (base := base) T
  refine ⟨fd, F.ok sc_need_like_polys sp2_len (fun cdv A outer s H vs Q E hr h => ?_), F.bindsN fun _ _ _ _ _ _ us hl => match us, hl with | [_, _], _ => rfl⟩
  have hr_Misfit_init : Room 2 _ := hr.mono (by decide)
  have hr_need_poly : Room 3 _ := hr.mono (by decide)
  obtain ⟨v, w', rfl, hh⟩ := sp2_is h
  refine ⟨_, (pss_cons (ps_expr (pe_call F_need_poly hr_need_poly (by rfl) T.g_need_poly T.k_need_poly B_need_poly .nil (passes_call (takes_of rfl rfl rfl rfl) (fun _ _ _ _ h => h)) (pa_cons (pv 0) (pa_cons pe_str pa_nil))))
      (pss_cons (ps_expr (pe_call F_need_poly hr_need_poly (by rfl) T.g_need_poly T.k_need_poly B_need_poly .nil (passes_call (takes_of rfl rfl rfl rfl) (fun _ _ _ _ h => h)) (pa_cons (pv 1) (pa_cons pe_str pa_nil))))
      (pss_one (ps_if (pt_cmpR op_ne (kx_fld rfl (pv 0) rfl) (kx_fld rfl (pv 1) rfl) (nomark _)) (pss_one (ps_raise rfl (takes_of rfl rfl rfl rfl) (pmk_oex T.e_Misfit.o T.e_Misfit.i T.e_Misfit.t F_Misfit_init hr_Misfit_init B_Misfit_init .nil passL rfl T.g_Misfit (pa_cons pe_str pa_nil)))) pss_nil)))), ?_⟩
  walk_at "rd"
  rcases hh with ⟨no, k⟩ | ⟨a, ns, rfl, ha, hh⟩
  · exact ⟨_, rfl, .inr ⟨no, k⟩⟩
  obtain ⟨dx, fs, hi⟩ := ha.inst
  refine ⟨_, rfl, .inl ⟨⟨_, _, _, rfl, hi⟩, ?_⟩⟩
  walk_at "rd"
  rcases hh with ⟨no, k⟩ | ⟨b, ms, rfl, hb, k1, k2⟩
  · exact ⟨_, rfl, .inr ⟨no, k⟩⟩
  obtain ⟨dx2, fs2, hi2⟩ := hb.inst
  refine ⟨_, rfl, .inl ⟨⟨_, _, _, rfl, hi2⟩, ?_⟩⟩
  walk_at "rd"
  refine r_fd T ha ?_
  walk_at "rd"
  refine r_fd T hb ?_
  walk_at "rd"
  by_cases c : ns.length = ms.length
  · refine ite_f (by simp [c]) ?_
    exact k2 c
  · refine ite_t (by rw [decide_eq_false (show ¬ (ns.length : Int) - 1 = (ms.length : Int) - 1 by omega)]; rfl) ?_
    walk_at "rd"
    exact r_err rfl (k1 c)
/-! ### the weighted sum -/
def wL (d : Nat) (W : Nat → Int) : List Int := (List.range (d + 1)).map W
theorem wL_get {d : Nat} {W : Nat → Int} {k : Nat} (h : k ≤ d) : (wL d W)[k]? = some (W k) := by
  rw [wL, List.getElem?_map, List.getElem?_range (by omega)]
  rfl
def hatL (d : Nat) (W : Nat → Int) (a : List Int) : List Int := (List.range (d + 1)).map (GM.hat W a)
theorem hatL_len (d : Nat) (W : Nat → Int) (a : List Int) : (hatL d W a).length = d + 1 := by simp [hatL]
theorem hatL_get {d : Nat} {W : Nat → Int} {a : List Int} {k : Nat} (h : k ≤ d) : (hatL d W a).getD k 0 = GM.hat W a k := by
  rw [List.getD_eq_getElem?_getD, hatL, List.getElem?_map, List.getElem?_range (by omega)]
  rfl
theorem dot_cv {d : Nat} {W : Nat → Int} {a b : List Int} {k : Nat} (h : k ≤ d) : dotL (hatL d W a) ((hatL d W b).take (k + 1)).reverse = GM.cv (GM.hat W a) (GM.hat W b) k := by
  have l : ((hatL d W b).take (k + 1)).reverse.length = k + 1 := by simp [hatL_len]; omega
  rw [dot_sm _ _ (by rw [l, hatL_len]; omega), l]
  refine GM.sm_congr fun i hi => ?_
  rw [hatL_get (by omega)]
  congr 1
  have e : ((hatL d W b).take (k + 1)).reverse[i]? = (hatL d W b)[k - i]? := by
    rw [List.getElem?_reverse (by simp [hatL_len]; omega)]
    rw [List.length_take, hatL_len, List.getElem?_take, if_pos (by omega)]
    congr 1
    omega
  rw [List.getD_eq_getElem?_getD, e, ← List.getD_eq_getElem?_getD, hatL_get (by omega)]
theorem hat_z {d : Nat} {W : Nat → Int} {a : List Int} (hw : ∀ k, k ≤ d → Z 600 (W k)) (ha : ∀ c ∈ a, Z 300 c) {k : Nat} (h : k ≤ d) : Z 900 (GM.hat W a k) := by
  unfold GM.hat
  rw [List.getD_eq_getElem?_getD]
  cases e : a[k]? with
  | none => simp; show (0 : Int).natAbs < _; exact Nat.pow_pos (by decide)
  | some c => exact (ha c (List.mem_of_getElem? e)).mul (hw k h)
theorem hatL_z {d : Nat} {W : Nat → Int} {a : List Int} (hw : ∀ k, k ≤ d → Z 600 (W k)) (ha : ∀ c ∈ a, Z 300 c) : ∀ c ∈ hatL d W a, Z 900 c := fun c hc => by
  obtain ⟨k, hk, rfl⟩ := List.mem_map.mp hc
  have := List.mem_range.mp hk
  exact hat_z hw ha (by omega)
theorem cv_z {d : Nat} {W : Nat → Int} {a b : List Int} (hw : ∀ k, k ≤ d → Z 600 (W k)) (ha : ∀ c ∈ a, Z 300 c) (hb : ∀ c ∈ b, Z 300 c) (hd : d ≤ 63) {k : Nat} (h : k ≤ d) : Z 1810 (GM.cv (GM.hat W a) (GM.hat W b) k) := by
  rw [← dot_cv h]
  refine Z.mono (sum_z (n := 1800) _ 6 ?_ fun c hc => ?_) (by decide)
  · simp [hatL_len]; omega
  · obtain ⟨i, hi, rfl⟩ := List.getElem_of_mem hc
    rw [List.getElem_zipWith]
    exact (hatL_z hw ha _ (List.getElem_mem _)).mul (hatL_z hw hb _ (List.mem_of_mem_take (List.mem_reverse.mp (List.getElem_mem _))))
theorem div_z {n : Nat} {a b : Int} (hb : 0 < b) (ha : 0 ≤ a) (z : Z n a) : Z n (a / b) := by
  have h1 := Int.ediv_nonneg ha (Int.le_of_lt hb)
  have h2 : a / b ≤ a := Int.ediv_le_self _ ha
  show (a / b).natAbs < 2 ^ n
  have : a.natAbs < 2 ^ n := z
  omega
theorem fnd_z {d : Nat} {W : Nat → Int} {a b : List Int} (wt : GM.Wt d W) (hw : ∀ k, k ≤ d → Z 600 (W k)) (ha : ∀ c ∈ a, Z 300 c) (hb : ∀ c ∈ b, Z 300 c) (hd : d ≤ 63) : ∀ c ∈ GM.fnd d W a b, Z 2410 c := fun c hc => by
  obtain ⟨k, hk, rfl⟩ := List.mem_map.mp hc
  have := List.mem_range.mp hk
  exact (cv_z hw ha hb hd (by omega)).mul (div_z (wt.pos k (by omega)) (Int.le_of_lt (wt.pos 0 (by omega))) (hw 0 (by omega)))
theorem okN.fnd {d : Nat} {W : Nat → Int} {a b : List Int} (wt : GM.Wt d W) (hd : d ≤ 63) (ha : 0 < a.headD 0) (hb : 0 < b.headD 0) : okN (GM.fnd d W a b) := ⟨by rw [GM.fnd_len]; omega, by rw [GM.fnd_len]; omega, GM.fnd_head wt ha hb⟩
def spWs (K : PySem.W.Frag) : Sp := sp3 fun v w u H Q _ => ∃ (a b L : Addr) (ns ms : List Int) (d : Nat) (W : Nat → Int), v = .ref a ∧ w = .ref b ∧ u = .ref L ∧ Pl K H a ns ∧ Pl K H b ms ∧ H L = some (.lst ((wL d W).map V.int)) ∧ ns.length = d + 1 ∧ ms.length = d + 1 ∧ GM.Wt d W ∧
  (∀ k, k ≤ d → Z 600 (W k)) ∧ (∀ c ∈ ns, Z 300 c) ∧ (∀ c ∈ ms, Z 300 c) ∧ ∀ p H', H p = none → Ex H H' → Pl K H' p (GM.low (GM.fnd d W ns ms)) → Q (.ref p) H'
theorem ok_weighted_sum {P : Program} {w : World} {K : PySem.W.Frag} {mg : Str → Option Value} {base : Heap} (T : Txt K mg) : ∃ fd, FnOk P w K mg base (L2.CX P w) 6 (He.ga K "weighted_sum") fd ["one", "other", "factors"] (spWs K) ∧ Binds K fd ["one", "other", "factors"] [] := by
  obtain ⟨fd, F⟩ := T.d_weighted_sum
  obtain ⟨fd_lessened, F_lessened, B_lessened⟩ := ok_lessened (P := P) (w := w) (base := base) T
  obtain ⟨fd_Poly_init, F_Poly_init, B_Poly_init⟩ := ok_Poly_init (P := P) (w := w) (base := base) T
  obtain ⟨fd_product_sum, F_product_sum, B_product_sum⟩ := ok_product_sum (P := P) (w := w) (base := base) T
  refine ⟨fd, F.ok sc_weighted_sum sp3_len (fun cdv A outer s H vs Q E hr h => ?_), F.bindsN fun _ _ _ _ _ _ us hl => match us, hl with | [_, _, _], _ => rfl⟩
  have hr_lessened : Room 5 _ := hr.mono (by decide)
  have hr_Poly_init : Room 4 _ := hr.mono (by decide)
  have hr_product_sum : Room 1 _ := hr.mono (by decide)
  obtain ⟨v, w', u, rfl, a, b, L, ns, ms, d, W, rfl, rfl, rfl, ha, hb, hL, l1, l2, wt, zw, z1, z2, k⟩ := sp3_is h
  refine ⟨_, (pss_cons (ps_set (i := 3) sc_weighted_sum.nd rfl (Or.inr rfl) (pe_lc (own := [("number", 4), ("factor", 5)]) (g := gTup K 2 (gCons (gName 4) (gCons (gName 5) (gNil)))) (tt := tYes)  rfl sc_weighted_sum.nd (pi_zipX (by rfl) T.b_zip (pa_cons (kx_fld rfl (pv 0) rfl) (pa_cons (pv 2) pa_nil))) (blkOk_by (own := [("number", 4), ("factor", 5)]) (N := ["one", "other", "factors", "mine", "number", "factor", "its", "found", "k"]) (sc := defScope s_weighted_sum) (by decide +kernel)) (fun _ _ _ _ _ => (pg_tup rfl (pgs_cons (pg_name (i := 4) sc_weighted_sum.nd rfl (Or.inl rfl)) (pgs_cons (pg_name (i := 5) sc_weighted_sum.nd rfl (Or.inl rfl)) pgs_nil)))) (fun _ _ _ _ _ => pts_nil) (fun _ _ _ _ _ => (pe_op op_mulW (pv 4) (pv 5)))))
      (pss_cons (ps_set (i := 6) sc_weighted_sum.nd rfl (Or.inr rfl) (pe_lc (own := [("number", 4), ("factor", 5)]) (g := gTup K 2 (gCons (gName 4) (gCons (gName 5) (gNil)))) (tt := tYes)  rfl sc_weighted_sum.nd (pi_zipX (by rfl) T.b_zip (pa_cons (kx_fld rfl (pv 1) rfl) (pa_cons (pv 2) pa_nil))) (blkOk_by (own := [("number", 4), ("factor", 5)]) (N := ["one", "other", "factors", "mine", "number", "factor", "its", "found", "k"]) (sc := defScope s_weighted_sum) (by decide +kernel)) (fun _ _ _ _ _ => (pg_tup rfl (pgs_cons (pg_name (i := 4) sc_weighted_sum.nd rfl (Or.inl rfl)) (pgs_cons (pg_name (i := 5) sc_weighted_sum.nd rfl (Or.inl rfl)) pgs_nil)))) (fun _ _ _ _ _ => pts_nil) (fun _ _ _ _ _ => (pe_op op_mulW (pv 4) (pv 5)))))
      (pss_cons (ps_setLc (i := 7) (own := [("k", 8), ("factor", 5)]) (g := gTup K 2 (gCons (gName 8) (gCons (gName 5) (gNil)))) (tt := tYes)  rfl sc_weighted_sum.nd rfl rfl (sw_true rfl rfl rfl (by decide +kernel)) (pi_enum (by rfl) T.b_enumerate (pa_cons (pv 2) pa_nil)) (blkOk_by (own := [("k", 8), ("factor", 5)]) (N := ["one", "other", "factors", "mine", "number", "factor", "its", "found", "k"]) (sc := defScope s_weighted_sum) (by decide +kernel)) (fun _ _ _ _ _ => (pg_tup rfl (pgs_cons (pg_name (i := 8) sc_weighted_sum.nd rfl (Or.inl rfl)) (pgs_cons (pg_name (i := 5) sc_weighted_sum.nd rfl (Or.inl rfl)) pgs_nil)))) (fun _ _ _ _ _ => pts_nil) (fun _ _ _ _ _ => (pe_op op_mulW (pe_call F_product_sum hr_product_sum (by rfl) T.g_product_sum T.k_product_sum B_product_sum .nil passL (pa_cons (pv 3) (pa_cons (pe_revF (K := K) rfl (pv 6) (pv 8)) pa_nil))) (pe_op op_fdivW (pe_ix (kx_ixl rfl) (pv 2) pe_int (fun _ _ => rfl)) (pv 5)))))
      (pss_one (ps_ret (pe_call F_lessened hr_lessened (by rfl) T.g_lessened T.k_lessened B_lessened .nil passL (pa_cons (pe_make T.mk_Poly F_Poly_init hr_Poly_init (by rfl) T.g_Poly B_Poly_init .nil passL (pa_cons (pv 7) pa_nil)) pa_nil))))))), ?_⟩
  have hd : d ≤ 63 := by have := ha.2.1; omega
  have lw : (wL d W).length = d + 1 := by simp [wL]
  walk_at "rd"
  refine r_fn T ha fun t1 ht1 => ?_
  walk_at "rd"
  have turn : ∀ {xs : List Int}, xs.length = d + 1 → (∀ c ∈ xs, Z 300 c) → ∀ {i : Nat} {n1 n2 : Int}, xs[i]? = some n1 → (wL d W)[i]? = some n2 → CMulW n1 n2 ∧ n1 * n2 = (hatL d W xs).getD i 0 := by
    intro xs lx zx i n1 n2 h1 h2
    have hi : i ≤ d := by have := (List.getElem?_eq_some_iff.mp h1).1; omega
    rw [wL_get hi] at h2
    cases h2
    refine ⟨mulOk (zx n1 (List.mem_of_getElem? h1)) (zw i hi) (by decide) (by decide) (by decide), ?_⟩
    rw [hatL_get hi]
    unfold GM.hat
    rw [List.getD_eq_getElem?_getD, h1]
    rfl
  refine ⟨true, false, t1, L, ns.map V.int, (wL d W).map V.int, rfl, SqT.of ht1, SqL.of hL, ?_⟩
  refine r_lcZ (n := d + 1) (walk_zipX (xs := ns.map V.int) (ys := (wL d W).map V.int) (by simp [l1, lw])) (hatL d W ns) (hatL_len _ _ _) (by omega) (fun H' e => ⟨SqT.of (e _ _ ht1), SqL.of (e _ _ hL)⟩) ?_ ?_
  · rintro i x H1 H2 hi e1 ⟨T0, x1, x2, rfl, hT, rfl, g1, g2⟩ N hN
    obtain ⟨n1, hn1, rfl⟩ := int_at g1
    obtain ⟨n2, hn2, rfl⟩ := int_at g2
    refine r_gTup upd_same rfl (r_gCons (r_gName (r_gCons (r_gName (r_gNil ⟨rfl, ?_⟩)))))
    walk_at "rd"
    obtain ⟨t1, t2⟩ := turn l1 z1 hn1 hn2
    refine r_I t1 ?_
    rw [t2]
    exact hN _ (Ex.new hT)
  intro A1 H1 hA1 e1 hl1
  walk_at "rd"
  have hb1 := hb.ex e1
  have hL1 := e1 _ _ hL
  refine r_fn T hb1 fun t2 ht2 => ?_
  walk_at "rd"
  refine ⟨true, false, t2, L, ms.map V.int, (wL d W).map V.int, rfl, SqT.of ht2, SqL.of hL1, ?_⟩
  refine r_lcZ (n := d + 1) (walk_zipX (xs := ms.map V.int) (ys := (wL d W).map V.int) (by simp [l2, lw])) (hatL d W ms) (hatL_len _ _ _) (by omega) (fun H' e => ⟨SqT.of (e _ _ ht2), SqL.of (e _ _ hL1)⟩) ?_ ?_
  · rintro i x H2 H3 hi e2 ⟨T0, x1, x2, rfl, hT, rfl, g1, g2⟩ N hN
    obtain ⟨n1, hn1, rfl⟩ := int_at g1
    obtain ⟨n2, hn2, rfl⟩ := int_at g2
    refine r_gTup upd_same rfl (r_gCons (r_gName (r_gCons (r_gName (r_gNil ⟨rfl, ?_⟩)))))
    walk_at "rd"
    obtain ⟨t1, t2⟩ := turn l2 z2 hn1 hn2
    refine r_I t1 ?_
    rw [t2]
    exact hN _ (Ex.new hT)
  intro A2 H2 hA2 e2 hl2
  walk_at "rd"
  have hl12 := e2 _ _ hl1
  have hL2 := e2 _ _ hL1
  refine ⟨L, _, rfl, SqL.of hL2, ?_⟩
  refine r_lcZ (n := d + 1) (by have := walk_enum (K := K) (a := L) (xs := (wL d W).map V.int); rw [List.length_map, lw] at this; exact this) (GM.fnd d W ns ms) (GM.fnd_len _ _ _ _) (by omega) (fun H' e => SqL.of (e _ _ hL2)) ?_ ?_
  · rintro i x H3 H4 hi e3 ⟨T0, x1, x2, rfl, hT, rfl, g1, g2⟩ N hN
    cases g1
    obtain ⟨n2, hn2, rfl⟩ := int_at g2
    rw [wL_get (by omega)] at hn2
    cases hn2
    refine r_gTup upd_same rfl (r_gCons (r_gName (r_gCons (r_gName (r_gNil ⟨rfl, ?_⟩)))))
    walk_at "rd"
    have e4 : Ex H3 (upd H3 T0 (.tup [.int (i : Nat), .int (W i)])) := Ex.new hT
    generalize upd H3 T0 (.tup [.int (i : Nat), .int (W i)]) = H4 at e4 ⊢
    have e34 := e3.trans e4
    have hl1' := e34 _ _ hl12
    have hl2' := e34 _ _ hl2
    have hL' := e34 _ _ hL2
    refine r_revF ?_
    walk_at "rd"
    refine ⟨_, rfl, A2, _, i, rfl, rfl, SqL.of hl2', fun p hp => ?_⟩
    have e5 : Ex H4 (upd H4 p (.lst ((hatL d W ms).map V.int |>.take (i + 1) |>.reverse))) := Ex.new hp
    have h5 : (upd H4 p (.lst ((hatL d W ms).map V.int |>.take (i + 1) |>.reverse))) p = some (.lst ((((hatL d W ms).take (i + 1)).reverse).map V.int)) := by rw [upd_same, List.map_reverse, List.map_take]
    generalize upd H4 p (.lst ((hatL d W ms).map V.int |>.take (i + 1) |>.reverse)) = H5 at e5 h5 ⊢
    walk_at "rd"
    have hi' : i ≤ d := by omega
    refine ⟨false, false, A1, p, hatL d W ns, ((hatL d W ms).take (i + 1)).reverse, rfl, rfl, SqL.of (e5 _ _ hl1'), SqL.of h5, by rw [hatL_len]; omega, fun c hc => (hatL_z zw z1 c hc).mono (by decide), fun c hc => (hatL_z zw z2 c (List.mem_of_mem_take (List.mem_reverse.mp hc))).mono (by decide), fun H6 e6 => ?_⟩
    rw [dot_cv hi']
    walk_at "rd"
    refine r_ixL (e6 _ _ (e5 _ _ hL')) (v := .int (W 0)) (atI_nat (j := 0) (by rw [List.getElem?_map, wL_get (by omega)]; rfl)) ?_
    walk_at "rd"
    refine r_I ⟨wt.pos i hi', ?_⟩ ?_
    · exact Nat.lt_trans (lg_lt (zw i hi') (by decide)) (by decide)
    walk_at "rd"
    refine r_I (mulOk (cv_z zw z1 z2 hd hi') (div_z (wt.pos i hi') (Int.le_of_lt (wt.pos 0 (by omega))) (zw 0 (by omega))) (by decide) (by decide) (by decide)) ?_
    rw [← GM.fnd_get hi']
    exact hN _ (e4.trans (e5.trans e6))
  intro A3 H3 hA3 e3 hl3
  walk_at "rd"
  have eH := e1.trans (e2.trans e3)
  refine r_Poly ⟨A3, rfl, .inl hl3⟩ (okN.fnd wt hd ha.2.2.1 hb.2.2.1) fun p H4 hp e4 hp4 => ?_
  walk_at "rd"
  refine ⟨p, _, rfl, hp4, fun c hc => (fnd_z wt zw z1 z2 hd c hc).mono (by decide), fun r H5 hr e5 hr5 => ?_⟩
  exact k r H5 ((eH.trans e4).free hr) ((eH.trans e4).trans e5) hr5
/-! ### the two sums -/
def zin (ns : List Int) : Prop := ∀ c ∈ ns, Z 300 c
def spSum (K : PySem.W.Frag) (G : List Int → List Int → List Int) : Sp := sp2 fun v w H Q E => (No K "Poly" H v ∧ Raised K "BadPoly" "part" (.str "one") H E) ∨
  ∃ a ns, v = .ref a ∧ Pl K H a ns ∧ ((No K "Poly" H w ∧ Raised K "BadPoly" "part" (.str "other") H E) ∨
  ∃ b ms, w = .ref b ∧ Pl K H b ms ∧ (ns.length ≠ ms.length → Raised K "Misfit" "part" (.str "degree") H E) ∧ (ns.length = ms.length → zin ns ∧ zin ms ∧ ∀ p H', H p = none → Ex H H' → Pl K H' p (G ns ms) → Q (.ref p) H'))
def meanG (a b : List Int) : List Int := GM.low (GM.fnd (a.length - 1) (GM.Wm (a.length - 1)) a b)
def sidedG (a b : List Int) : List Int := GM.low (GM.fnd (a.length - 1) (GM.Ws (a.length - 1)) a b)
theorem wm_z {d : Nat} (h : d ≤ 63) : ∀ k, k ≤ d → Z 600 (GM.Wm d k) := fun k _ => (fac_z (n := d - k) (by omega)).mono (by decide)
theorem ws_z {d : Nat} (h : d ≤ 63) : ∀ k, k ≤ d → Z 600 (GM.Ws d k) := fun k _ => (fac_z (n := d - k) (by omega)).sq
theorem ok_mean_sum {P : Program} {w : World} {K : PySem.W.Frag} {mg : Str → Option Value} {base : Heap} (T : Txt K mg) : ∃ fd, FnOk P w K mg base (L2.CX P w) 7 (He.ga K "mean_sum") fd ["one", "other"] (spSum K meanG) ∧ Binds K fd ["one", "other"] [] ∧ KBn K fd ["one", "other"] 0 ["other", "one"] (pm [1, 0]) (pm [1, 0]) := by
  obtain ⟨fd, F⟩ := T.d_mean_sum
  obtain ⟨fd_weighted_sum, F_weighted_sum, B_weighted_sum⟩ := ok_weighted_sum (P := P) (w := w) (base := base) T
  obtain ⟨fd_factorials_down, F_factorials_down, B_factorials_down⟩ := ok_factorials_down (P := P) (w := w) (base := base) T
  obtain ⟨fd_need_like_polys, F_need_like_polys, B_need_like_polys⟩ := ok_need_like_polys (P := P) (w := w) (base := base) T
  refine ⟨fd, F.ok sc_mean_sum sp2_len (fun cdv A outer s H vs Q E hr h => ?_), F.bindsN fun _ _ _ _ _ _ us hl => match us, hl with | [_, _], _ => rfl, kb_of F 0 ["other", "one"] [1, 0] (fun _ _ _ _ _ _ us ws h1 h2 => match us, ws, h1, h2 with | [], [_, _], _, _ => rfl)⟩
  have hr_weighted_sum : Room 6 _ := hr.mono (by decide)
  have hr_factorials_down : Room 1 _ := hr.mono (by decide)
  have hr_need_like_polys : Room 4 _ := hr.mono (by decide)
  obtain ⟨v, w', rfl, hh⟩ := sp2_is h
  refine ⟨_, (pss_cons (ps_expr (pe_call F_need_like_polys hr_need_like_polys (by rfl) T.g_need_like_polys T.k_need_like_polys B_need_like_polys .nil (passes_call (takes_of rfl rfl rfl rfl) (fun _ _ _ _ h => h)) (pa_cons (pv 0) (pa_cons (pv 1) pa_nil))))
      (pss_one (ps_ret (pe_call F_weighted_sum hr_weighted_sum (by rfl) T.g_weighted_sum T.k_weighted_sum B_weighted_sum .nil passL (pa_cons (pv 0) (pa_cons (pv 1) (pa_cons (pe_call F_factorials_down hr_factorials_down (by rfl) T.g_factorials_down T.k_factorials_down B_factorials_down .nil passL (pa_cons (kx_fld rfl (pv 0) rfl) pa_nil)) pa_nil))))))), ?_⟩
  walk_at "rd"
  rcases hh with ⟨no, k⟩ | ⟨a, ns, rfl, ha, hh⟩
  · exact .inl ⟨no, k⟩
  rcases hh with ⟨no, k⟩ | ⟨b, ms, rfl, hb, k1, k2⟩
  · exact .inr ⟨a, ns, rfl, ha, .inl ⟨no, k⟩⟩
  refine .inr ⟨a, ns, rfl, ha, .inr ⟨b, ms, rfl, hb, k1, fun el => ?_⟩⟩
  obtain ⟨z1, z2, k⟩ := k2 el
  have l1 := ha.1
  have l2 := ha.2.1
  walk_at "rd"
  refine r_fd T ha ?_
  walk_at "rd"
  refine ⟨ns.length - 1, congrArg V.int (by omega), by omega, fun L H1 hL e1 h1 => ?_⟩
  walk_at "rd"
  exact ⟨a, b, L, ns, ms, ns.length - 1, GM.Wm (ns.length - 1), rfl, rfl, rfl, ha.ex e1, hb.ex e1, h1, by omega, by omega, GM.wt_m _, wm_z (by omega), z1, z2, fun p H2 hp e2 hp2 => k p H2 (e1.free hp) (e1.trans e2) hp2⟩

end K36
namespace K36
open PySem PySem.Spec PyProof.Rows L2 GS TL
local macro_rules | `(tactic| walk_at "rd") => `(tactic| (repeat (first
  | with_reducible refine r_next ?_
  | with_reducible refine r_seq ?_
  | with_reducible refine r_ret ?_
  | with_reducible refine r_ifS ?_
  | with_reducible refine r_asg ?_
  | with_reducible refine r_drop ?_
  | with_reducible refine r_op ?_
  | with_reducible refine r_un ?_
  | with_reducible refine r_cbInt ?_
  | with_reducible refine r_cbAbs ?_
  | with_reducible refine r_cbLen ?_
  | with_reducible refine r_cbList ?_
  | with_reducible refine r_cbTup ?_
  | with_reducible refine r_iEnT ?_
  | with_reducible refine r_iEnL ?_
  | with_reducible refine r_zipA ?_
  | with_reducible refine r_zipX ?_
  | with_reducible refine r_augS ?_
  | with_reducible refine r_cb ?_
  | with_reducible refine r_call ?_
  | with_reducible refine r_make ?_
  | with_reducible refine r_callN0 ?_
  | with_reducible refine r_makeK0 ?_
  | with_reducible refine r_makeS ?_
  | with_reducible refine r_callS ?_
  | with_reducible refine r_cons ?_
  | with_reducible refine r_nil ?_
  | with_reducible refine r_test ?_
  | with_reducible refine r_B ?_
  | with_reducible refine r_and ?_
  | with_reducible refine r_or ?_
  | with_reducible refine r_not ?_
  | with_reducible refine r_andV ?_
  | with_reducible refine r_orV ?_
  | with_reducible refine r_notV ?_
  | with_reducible refine r_if ?_
  | with_reducible refine r_tup ?_
  | with_reducible refine r_lst ?_
  | with_reducible refine r_c ?_
  | with_reducible refine r_lc ?_
  | with_reducible refine r_chain ?_
  | with_reducible refine r_iT ?_
  | with_reducible refine r_iL ?_
  | with_reducible refine r_iR1 ?_
  | with_reducible refine r_iR2 ?_
  | with_reducible refine r_iR3 ?_
  | with_reducible refine r_asgG ?_
  | with_reducible refine r_gSub ?_
  | with_reducible refine r_for ?_
  | with_reducible refine r_smeth ?_
  | with_reducible refine r_par ?_
  | with_reducible refine r_parK ?_
  | with_reducible refine r_gCons ?_
  | with_reducible refine r_gNil ?_
  | with_reducible refine r_gName ?_
  | with_reducible refine r_intI ?_
  | with_reducible refine r_intB ?_
  | with_reducible refine r_absI ?_
  | with_reducible refine r_k ?_
  | with_reducible refine r_kV ?_
  | ((with_reducible show tVar _ _ _ _); refine r_var3 ?_ (by rfl))
  | with_reducible refine r_I0 ?_
  | with_reducible refine r_U ?_
  | with_reducible refine r_eqI ?_
  | with_reducible refine r_neI ?_
  | dsimp only)))
local macro_rules | `(tactic| walk_at "rx") => `(tactic| (repeat (first
  | with_reducible refine r_next ?_
  | with_reducible refine r_ret ?_
  | with_reducible refine r_ifS ?_
  | with_reducible refine r_asg ?_
  | with_reducible refine r_drop ?_
  | with_reducible refine r_op ?_
  | with_reducible refine r_un ?_
  | with_reducible refine r_cbInt ?_
  | with_reducible refine r_cbAbs ?_
  | with_reducible refine r_cbLen ?_
  | with_reducible refine r_cbList ?_
  | with_reducible refine r_cbTup ?_
  | with_reducible refine r_iEnT ?_
  | with_reducible refine r_iEnL ?_
  | with_reducible refine r_zipA ?_
  | with_reducible refine r_zipX ?_
  | with_reducible refine r_augS ?_
  | with_reducible refine r_cb ?_
  | with_reducible refine r_call ?_
  | with_reducible refine r_make ?_
  | with_reducible refine r_callN0 ?_
  | with_reducible refine r_makeK0 ?_
  | with_reducible refine r_makeS ?_
  | with_reducible refine r_callS ?_
  | with_reducible refine r_cons ?_
  | with_reducible refine r_nil ?_
  | with_reducible refine r_test ?_
  | with_reducible refine r_B ?_
  | with_reducible refine r_and ?_
  | with_reducible refine r_or ?_
  | with_reducible refine r_not ?_
  | with_reducible refine r_andV ?_
  | with_reducible refine r_orV ?_
  | with_reducible refine r_notV ?_
  | with_reducible refine r_if ?_
  | with_reducible refine r_tup ?_
  | with_reducible refine r_lst ?_
  | with_reducible refine r_c ?_
  | with_reducible refine r_lc ?_
  | with_reducible refine r_chain ?_
  | with_reducible refine r_iT ?_
  | with_reducible refine r_iL ?_
  | with_reducible refine r_iR1 ?_
  | with_reducible refine r_iR2 ?_
  | with_reducible refine r_iR3 ?_
  | with_reducible refine r_asgG ?_
  | with_reducible refine r_gSub ?_
  | with_reducible refine r_for ?_
  | with_reducible refine r_smeth ?_
  | with_reducible refine r_par ?_
  | with_reducible refine r_parK ?_
  | with_reducible refine r_gCons ?_
  | with_reducible refine r_gNil ?_
  | with_reducible refine r_gName ?_
  | with_reducible refine r_intI ?_
  | with_reducible refine r_intB ?_
  | with_reducible refine r_absI ?_
  | with_reducible refine r_k ?_
  | with_reducible refine r_kV ?_
  | ((with_reducible show tVar _ _ _ _); refine r_var3 ?_ (by rfl))
  | with_reducible refine r_I0 ?_
  | with_reducible refine r_U ?_
  | with_reducible refine r_eqI ?_
  | with_reducible refine r_neI ?_
  | dsimp only)))
/-! ### lists of rows -/
def LA (H : Hp) (ts : List Addr) (rs : List (List Int)) : Prop := ts.length = rs.length ∧ ∀ (j : Nat) (t : Addr) (r : List Int), ts[j]? = some t → rs[j]? = some r → H t = some (.lst (r.map V.int))
theorem LA.ex {H H' : Hp} {ts : List Addr} {rs : List (List Int)} (h : LA H ts rs) (e : Ex H H') : LA H' ts rs := ⟨h.1, fun j t r h1 h2 => e _ _ (h.2 j t r h1 h2)⟩
theorem ref_at {ts : List Addr} {i : Nat} {x : V} (hx : (ts.map V.ref)[i]? = some x) : ∃ t, ts[i]? = some t ∧ x = .ref t := by
  rw [List.getElem?_map] at hx
  cases q : ts[i]? with
  | none => rw [q] at hx; cases hx
  | some n => rw [q] at hx; exact ⟨n, rfl, (Option.some.inj hx).symm⟩
theorem LA.nil {H : Hp} : LA H [] [] := ⟨rfl, fun j t r h => by simp at h⟩
theorem LA.at {H : Hp} {ts : List Addr} {rs : List (List Int)} (h : LA H ts rs) {j : Nat} {t : Addr} (ht : ts[j]? = some t) : ∃ r, rs[j]? = some r ∧ H t = some (.lst (r.map V.int)) := by
  have hj : j < rs.length := by rw [← h.1]; exact (List.getElem?_eq_some_iff.mp ht).1
  exact ⟨rs[j], by simp [hj], h.2 j t _ ht (by simp [hj])⟩
theorem LA.col {H : Hp} {ts : List Addr} {rs : List (List Int)} (h : LA H ts rs) {j : Nat} {r : List Int} (hr : rs[j]? = some r) : ∃ t, ts[j]? = some t ∧ H t = some (.lst (r.map V.int)) := by
  have hj : j < ts.length := by rw [h.1]; exact (List.getElem?_eq_some_iff.mp hr).1
  exact ⟨ts[j], by simp [hj], h.2 j _ r (by simp [hj]) hr⟩
theorem LA.cons {H : Hp} {t : Addr} {ts : List Addr} {r : List Int} {rs : List (List Int)} (h : H t = some (.lst (r.map V.int))) (g : LA H ts rs) : LA H (t :: ts) (r :: rs) := by
  refine ⟨by simp [g.1], fun j t' r' h1 h2 => ?_⟩
  cases j with
  | zero => cases h1; cases h2; exact h
  | succ j => exact g.2 j t' r' (by simpa using h1) (by simpa using h2)
theorem LA.app {H : Hp} {ts us : List Addr} {rs qs : List (List Int)} (h : LA H ts rs) (g : LA H us qs) : LA H (ts ++ us) (rs ++ qs) := by
  refine ⟨by simp [h.1, g.1], fun j t r h1 h2 => ?_⟩
  rcases Nat.lt_or_ge j ts.length with c | c
  · rw [List.getElem?_append_left c] at h1
    rw [List.getElem?_append_left (by rw [← h.1]; exact c)] at h2
    exact h.2 j t r h1 h2
  · rw [List.getElem?_append_right c] at h1
    rw [List.getElem?_append_right (by rw [← h.1]; exact c), ← h.1] at h2
    exact g.2 _ t r h1 h2
theorem LA.take {H : Hp} {ts : List Addr} {rs : List (List Int)} (h : LA H ts rs) (n : Nat) : LA H (ts.take n) (rs.take n) := by
  refine ⟨by simp [h.1], fun j t r h1 h2 => ?_⟩
  rw [List.getElem?_take] at h1 h2
  split at h1
  · rename_i c
    rw [if_pos c] at h2
    exact h.2 j t r h1 h2
  · cases h1
theorem LA.upd {H : Hp} {q : Addr} {o : HO} {ts : List Addr} {rs : List (List Int)} (h : LA H ts rs) (n : q ∉ ts) : LA (upd H q o) ts rs := ⟨h.1, fun j t r h1 h2 => by rw [upd_ne (fun z => n (by rw [← z]; exact List.mem_of_getElem? h1))]; exact h.2 j t r h1 h2⟩
theorem la_rows {H : Hp} {ts : List Addr} {n : Nat} {f : Nat → List Int} (hl : ts.length = n) (h : ∀ (j : Nat) (t : Addr), ts[j]? = some t → H t = some (.lst ((f j).map V.int))) : LA H ts ((List.range n).map f) := by
  refine ⟨by simp [hl], fun j t r ht hr => ?_⟩
  have hj : j < n := by rw [← hl]; exact (List.getElem?_eq_some_iff.mp ht).1
  simp [hj] at hr
  rw [h j t ht, hr]
def LL (H : Hp) (v : V) (rs : List (List Int)) : Prop := ∃ (p : Addr) (cs : List Addr), v = .ref p ∧ H p = some (.lst (cs.map V.ref)) ∧ LA H cs rs
/-- a row that is a list or a tuple -/
def IL (H : Hp) (t : Addr) (r : List Int) : Prop := H t = some (.lst (r.map V.int)) ∨ H t = some (.tup (r.map V.int))
theorem IL.ex {H H' : Hp} {t : Addr} {r : List Int} (h : IL H t r) (e : Ex H H') : IL H' t r := h.elim (fun z => .inl (e _ _ z)) fun z => .inr (e _ _ z)
theorem IL.sq {K : PySem.W.Frag} {H : Hp} {t : Addr} {r : List Int} (h : IL H t r) : ∃ b, SqX K H b t (r.map V.int) := h.elim (fun z => ⟨false, SqL.of z⟩) fun z => ⟨true, SqT.of z⟩
theorem IL.upd {H : Hp} {q : Addr} {o : HO} {t : Addr} {r : List Int} (h : IL H t r) (n : t ≠ q) : IL (upd H q o) t r := by
  unfold IL
  rw [upd_ne n]
  exact h
theorem IL.ne {H : Hp} {t : Addr} {r : List Int} (h : IL H t r) (z : H t = none) : False := by
  rcases h with h | h <;> rw [z] at h <;> cases h
/-- rows that are lists or tuples -/
def RA (H : Hp) (ts : List Addr) (rs : List (List Int)) : Prop := ts.length = rs.length ∧ ∀ (j : Nat) (t : Addr) (r : List Int), ts[j]? = some t → rs[j]? = some r → IL H t r
theorem LA.ra {H : Hp} {ts : List Addr} {rs : List (List Int)} (h : LA H ts rs) : RA H ts rs := ⟨h.1, fun j t r h1 h2 => .inl (h.2 j t r h1 h2)⟩
theorem RA.ex {H H' : Hp} {ts : List Addr} {rs : List (List Int)} (h : RA H ts rs) (e : Ex H H') : RA H' ts rs := ⟨h.1, fun j t r h1 h2 => (h.2 j t r h1 h2).ex e⟩
theorem RA.nil {H : Hp} : RA H [] [] := ⟨rfl, fun j t r h => by simp at h⟩
theorem RA.at {H : Hp} {ts : List Addr} {rs : List (List Int)} (h : RA H ts rs) {j : Nat} {t : Addr} (ht : ts[j]? = some t) : ∃ r, rs[j]? = some r ∧ IL H t r := by
  have hj : j < rs.length := by rw [← h.1]; exact (List.getElem?_eq_some_iff.mp ht).1
  exact ⟨rs[j], by simp [hj], h.2 j t _ ht (by simp [hj])⟩
theorem RA.col {H : Hp} {ts : List Addr} {rs : List (List Int)} (h : RA H ts rs) {j : Nat} {r : List Int} (hr : rs[j]? = some r) : ∃ t, ts[j]? = some t ∧ IL H t r := by
  have hj : j < ts.length := by rw [h.1]; exact (List.getElem?_eq_some_iff.mp hr).1
  exact ⟨ts[j], by simp [hj], h.2 j _ r (by simp [hj]) hr⟩
theorem RA.cons {H : Hp} {t : Addr} {ts : List Addr} {r : List Int} {rs : List (List Int)} (h : IL H t r) (g : RA H ts rs) : RA H (t :: ts) (r :: rs) := by
  refine ⟨by simp [g.1], fun j t' r' h1 h2 => ?_⟩
  cases j with
  | zero => cases h1; cases h2; exact h
  | succ j => exact g.2 j t' r' (by simpa using h1) (by simpa using h2)
theorem RA.app {H : Hp} {ts us : List Addr} {rs qs : List (List Int)} (h : RA H ts rs) (g : RA H us qs) : RA H (ts ++ us) (rs ++ qs) := by
  refine ⟨by simp [h.1, g.1], fun j t r h1 h2 => ?_⟩
  rcases Nat.lt_or_ge j ts.length with c | c
  · rw [List.getElem?_append_left c] at h1
    rw [List.getElem?_append_left (by rw [← h.1]; exact c)] at h2
    exact h.2 j t r h1 h2
  · rw [List.getElem?_append_right c] at h1
    rw [List.getElem?_append_right (by rw [← h.1]; exact c), ← h.1] at h2
    exact g.2 _ t r h1 h2
theorem RA.take {H : Hp} {ts : List Addr} {rs : List (List Int)} (h : RA H ts rs) (n : Nat) : RA H (ts.take n) (rs.take n) := by
  refine ⟨by simp [h.1], fun j t r h1 h2 => ?_⟩
  rw [List.getElem?_take] at h1 h2
  split at h1
  · rename_i c
    rw [if_pos c] at h2
    exact h.2 j t r h1 h2
  · cases h1
theorem RA.upd {H : Hp} {q : Addr} {o : HO} {ts : List Addr} {rs : List (List Int)} (h : RA H ts rs) (n : q ∉ ts) : RA (upd H q o) ts rs := ⟨h.1, fun j t r h1 h2 => (h.2 j t r h1 h2).upd (fun z => n (by rw [← z]; exact List.mem_of_getElem? h1))⟩
def RL (H : Hp) (v : V) (rs : List (List Int)) : Prop := ∃ (p : Addr) (cs : List Addr), v = .ref p ∧ H p = some (.lst (cs.map V.ref)) ∧ RA H cs rs
theorem ix_row {K : PySem.W.Frag} {H : Hp} {Q : VK} {t : Addr} {r : List Int} {j : Nat} {c : Int} {v : V} (h : IL H t r) (e : v = .int (j : Int)) (hc : r[j]? = some c) (q : Q (.int c) H) : rIx K (.ref t) v H Q := by
  subst e
  rcases h with h | h
  · exact .inl (r_ixL h (v := .int c) (atI_nat (by rw [List.getElem?_map, hc]; rfl)) q)
  · exact .inr (.inl (r_ixT h (v := .int c) (atI_nat (by rw [List.getElem?_map, hc]; rfl)) q))
theorem r_app {H : Hp} {Q : VK} {l : Addr} {xs : List V} {y : V} (h : H l = some (.lst xs)) (hl : xs.length < 50000) (q : Q .non (upd H l (.lst (xs ++ [y])))) : rAppend (.ref l) [y] H Q := ⟨l, xs, y, rfl, rfl, h, sz_lt (by omega), q⟩
theorem r_bm {K : PySem.W.Frag} {T : String} {r : V → List V → Hp → VK → Prop} {to : TE} {t : TA} {σ : L2.St} {H : Hp} {Q : VK} (q : to σ H fun x H1 => tyV K T x H1 ∧ t σ H1 fun xs H2 => r x xs H2 Q) : tBM K T r to t σ H Q := q
theorem tyL {K : PySem.W.Frag} {H : Hp} {p : Addr} {xs : List V} (h : H p = some (.lst xs)) : tyV K "list" (.ref p) H := .inl ⟨rfl, _, SqL.of h⟩
theorem r_slL {K : PySem.W.Frag} {H : Hp} {Q : VK} {L : Addr} {xs zs : List V} {lo hi : Option Int} (h : H L = some (.lst xs)) (e : cutV xs lo hi = zs) (q : ∀ p H', H p = none → Ex H H' → H' p = some (.lst zs) → Q (.ref p) H') : rSlL K (.ref L) lo hi H Q :=
  ⟨L, xs, rfl, SqL.of h, fun p hp => q p _ hp (Ex.new hp) (by rw [upd_same, e])⟩
theorem cut_tk {α : Type} (f : α → V) (ys : List α) (k : Nat) : cutV (ys.map f) none (some (k : Int)) = (ys.take k).map f := by
  unfold cutV
  rw [HT.sIx_none, HT.sIx_nat, List.drop_zero, List.length_map, Nat.sub_zero, List.map_take]
  by_cases c : k ≤ ys.length
  · rw [Nat.min_eq_left c]
  · rw [Nat.min_eq_right (by omega), List.take_of_length_le (by simp), List.take_of_length_le (by simp; omega)]
theorem range_map (xs : List Int) : ((List.range xs.length).map fun j => V.int (xs.getD j 0)) = xs.map V.int := by
  refine List.ext_getElem (by simp) fun i h1 h2 => ?_
  simp at h1
  simp [h1]
theorem dot_z {n m : Nat} {l r : List Int} (hl : l.length ≤ 1000) (h1 : ∀ c ∈ l, Z n c) (h2 : ∀ c ∈ r, Z m c) : Z (n + m + 10) (dotL l r) := by
  refine sum_z _ 10 (by rw [List.length_zipWith]; omega) fun c hc => ?_
  obtain ⟨i, hi⟩ := List.getElem?_of_mem hc
  rw [List.getElem?_zipWith] at hi
  cases q1 : l[i]? with
  | none => rw [q1] at hi; cases hi
  | some a =>
    cases q2 : r[i]? with
    | none => rw [q1, q2] at hi; cases hi
    | some b =>
      rw [q1, q2] at hi
      cases hi
      exact (h1 a (List.mem_of_getElem? q1)).mul (h2 b (List.mem_of_getElem? q2))
/-! ### tables -/
def ttL (rs : List (List Int)) (row : List Int) : List Int := rs.map fun r => dotL r row
def en (rs : List (List Int)) (i j : Nat) : Int := (rs.getD i []).getD j 0
def pw (rs : List (List Int)) (n : Nat) : Nat → List Int
  | 0 => (rs.getD n []).take n
  | j + 1 => ttL (rs.take n) (pw rs n j)
def rowF (rs : List (List Int)) (n : Nat) : List Int := 1 :: (-(en rs n n)) :: (List.range n).map fun k => -(dotL (pw rs n (k / 2)) (pw rs n ((k + 1) / 2)))
def tn (rs : List (List Int)) : Nat → List Int
  | 0 => [1]
  | n + 1 => (List.range (n + 2)).map fun a => dotL (tn rs n) ((rowF rs n).take (a + 1)).reverse
/-- a table of four rows at most -/
structure Tab (rs : List (List Int)) (d : Nat) : Prop where
  len : rs.length = d
  d1 : 1 ≤ d
  d3 : d ≤ 4
  row : ∀ r ∈ rs, r.length = d
  sym : ∀ i j, i < d → j < d → en rs i j = en rs j i
  z : ∀ r ∈ rs, ∀ c ∈ r, Z 100 c
theorem pw_z {rs : List (List Int)} {d n : Nat} (t : Tab rs d) : ∀ j, ∀ c ∈ pw rs n j, Z (100 + 110 * j) c
  | 0, c, hc => by
    have := List.mem_of_mem_take hc
    rw [List.getD_eq_getElem?_getD] at this
    cases q : rs[n]? with
    | none => rw [q] at this; cases this
    | some r => rw [q] at this; exact t.z r (List.mem_of_getElem? q) c this
  | j + 1, c, hc => by
    obtain ⟨r, hr, rfl⟩ := List.mem_map.mp hc
    have hr' := List.mem_of_mem_take hr
    have lr := t.row r hr'
    have := t.d3
    exact (dot_z (by omega) (t.z r hr') (pw_z t j)).mono (by omega)
theorem pw_len {rs : List (List Int)} {d n : Nat} (t : Tab rs d) (hn : n < d) : ∀ j, (pw rs n j).length = n
  | 0 => by
    have hlt : n < rs.length := by rw [t.len]; exact hn
    have := t.row rs[n] (List.getElem_mem hlt)
    simp [pw, List.getD_eq_getElem?_getD, List.getElem?_eq_getElem hlt, this]
    omega
  | j + 1 => by
    simp [pw, ttL, t.len]
    omega
def spTT (K : PySem.W.Frag) : Sp := sp2 fun v w H Q _ => ∃ (rs : List (List Int)) (b : Addr) (row : List Int), RL H v rs ∧ w = .ref b ∧ IL H b row ∧ rs.length ≤ 100 ∧ (∀ r ∈ rs, r.length ≤ 100) ∧ (∀ r ∈ rs, ∀ c ∈ r, Z 20000 c) ∧ (∀ c ∈ row, Z 20000 c) ∧ ∀ p H', H p = none → Ex H H' → H' p = some (.lst ((ttL rs row).map V.int)) → Q (.ref p) H'
theorem ok_table_times {P : Program} {w : World} {K : PySem.W.Frag} {mg : Str → Option Value} {base : Heap} (T : Txt K mg) : ∃ fd, FnOk P w K mg base (L2.CX P w) 2 (He.ga K "table_times") fd ["table", "row"] (spTT K) ∧ Binds K fd ["table", "row"] [] := by
  obtain ⟨fd, F⟩ := T.d_table_times
  obtain ⟨fd_product_sum, F_product_sum, B_product_sum⟩ := ok_product_sum (P := P) (w := w) (base := base) T
  refine ⟨fd, F.ok sc_table_times sp2_len (fun cdv A outer s H vs Q E hr h => ?_), F.bindsN fun _ _ _ _ _ _ us hl => match us, hl with | [_, _], _ => rfl⟩
  have hr_product_sum : Room 1 _ := hr.mono (by decide)
  obtain ⟨v, w', rfl, rs, b, row, ⟨p, cs, rfl, hp, hla⟩, rfl, hb, hl, hr, z1, z2, k⟩ := sp2_is h
  refine ⟨_, (pss_one (ps_ret (pe_lc (own := [("each", 2)]) (g := gName 2) (tt := tYes)  rfl sc_table_times.nd (pi_list (pv 0)) (blkOk_by (own := [("each", 2)]) (N := ["table", "row", "each"]) (sc := defScope s_table_times) (by decide +kernel)) (fun _ _ _ _ _ => (pg_name (i := 2) sc_table_times.nd rfl (Or.inl rfl))) (fun _ _ _ _ _ => pts_nil) (fun _ _ _ _ _ => (pe_call F_product_sum hr_product_sum (by rfl) T.g_product_sum T.k_product_sum B_product_sum .nil passL (pa_cons (pv 2) (pa_cons (pv 1) pa_nil))))))), ?_⟩
  walk_at "rd"
  refine ⟨p, rfl, ⟨_, SqL.of hp⟩, ?_⟩
  refine r_lcM (n := cs.length) (k := 2) (by simpa using walk_list (xs := cs.map V.ref)) (fun i => .int ((ttL rs row).getD i 0)) (by have := hla.1; omega) (fun H' e => SqL.of (e _ _ hp)) (fun _ => rfl) ?_ ?_
  · rintro i y H2 H3 hi e2 ⟨rfl, hy⟩
    refine ⟨Ex.refl _, fun H4 e4 R kR => ?_⟩
    obtain ⟨t, ht, rfl⟩ := ref_at hy
    obtain ⟨r, hr', hrow⟩ := (hla.ex (e2.trans e4)).at ht
    have mr := List.mem_of_getElem? hr'
    walk_at "rd"
    have e : (ttL rs row).getD i 0 = dotL r row := by rw [List.getD_eq_getElem?_getD, ttL, List.getElem?_map, hr']; rfl
    rw [e] at kR
    obtain ⟨b1, s1⟩ := hrow.sq
    obtain ⟨b2, s2⟩ := (hb.ex (e2.trans e4)).sq
    exact ⟨b1, b2, t, b, r, row, rfl, rfl, s1, s2, by have := hr r mr; omega, z1 r mr, z2, fun H5 e5 => kR H5 e5⟩
  · intro D H2 hD e2 h2
    have e := range_map (ttL rs row)
    rw [show (ttL rs row).length = cs.length by simp [ttL, hla.1]] at e
    rw [e] at h2
    exact k D H2 hD e2 h2

end K36
namespace K36
open PySem PySem.Spec PyProof.Rows L2 GS TL
local macro_rules | `(tactic| walk_at "rd") => `(tactic| (repeat (first
  | with_reducible refine r_next ?_
  | with_reducible refine r_seq ?_
  | with_reducible refine r_ret ?_
  | with_reducible refine r_ifS ?_
  | with_reducible refine r_asg ?_
  | with_reducible refine r_drop ?_
  | with_reducible refine r_op ?_
  | with_reducible refine r_un ?_
  | with_reducible refine r_cbInt ?_
  | with_reducible refine r_cbAbs ?_
  | with_reducible refine r_cbLen ?_
  | with_reducible refine r_cbList ?_
  | with_reducible refine r_cbTup ?_
  | with_reducible refine r_iEnT ?_
  | with_reducible refine r_iEnL ?_
  | with_reducible refine r_zipA ?_
  | with_reducible refine r_zipX ?_
  | with_reducible refine r_augS ?_
  | with_reducible refine r_cb ?_
  | with_reducible refine r_call ?_
  | with_reducible refine r_make ?_
  | with_reducible refine r_callN0 ?_
  | with_reducible refine r_makeK0 ?_
  | with_reducible refine r_makeS ?_
  | with_reducible refine r_callS ?_
  | with_reducible refine r_cons ?_
  | with_reducible refine r_nil ?_
  | with_reducible refine r_test ?_
  | with_reducible refine r_B ?_
  | with_reducible refine r_and ?_
  | with_reducible refine r_or ?_
  | with_reducible refine r_not ?_
  | with_reducible refine r_andV ?_
  | with_reducible refine r_orV ?_
  | with_reducible refine r_notV ?_
  | with_reducible refine r_if ?_
  | with_reducible refine r_tup ?_
  | with_reducible refine r_lst ?_
  | with_reducible refine r_c ?_
  | with_reducible refine r_lc ?_
  | with_reducible refine r_chain ?_
  | with_reducible refine r_iT ?_
  | with_reducible refine r_iL ?_
  | with_reducible refine r_iR1 ?_
  | with_reducible refine r_iR2 ?_
  | with_reducible refine r_iR3 ?_
  | with_reducible refine r_asgG ?_
  | with_reducible refine r_gSub ?_
  | with_reducible refine r_for ?_
  | with_reducible refine r_smeth ?_
  | with_reducible refine r_par ?_
  | with_reducible refine r_parK ?_
  | with_reducible refine r_gCons ?_
  | with_reducible refine r_gNil ?_
  | with_reducible refine r_gName ?_
  | with_reducible refine r_intI ?_
  | with_reducible refine r_intB ?_
  | with_reducible refine r_absI ?_
  | with_reducible refine r_k ?_
  | with_reducible refine r_kV ?_
  | ((with_reducible show tVar _ _ _ _); refine r_var3 ?_ (by rfl))
  | with_reducible refine r_I0 ?_
  | with_reducible refine r_U ?_
  | with_reducible refine r_eqI ?_
  | with_reducible refine r_neI ?_
  | dsimp only)))
local macro_rules | `(tactic| walk_at "rx") => `(tactic| (repeat (first
  | with_reducible refine r_next ?_
  | with_reducible refine r_ret ?_
  | with_reducible refine r_ifS ?_
  | with_reducible refine r_asg ?_
  | with_reducible refine r_drop ?_
  | with_reducible refine r_op ?_
  | with_reducible refine r_un ?_
  | with_reducible refine r_cbInt ?_
  | with_reducible refine r_cbAbs ?_
  | with_reducible refine r_cbLen ?_
  | with_reducible refine r_cbList ?_
  | with_reducible refine r_cbTup ?_
  | with_reducible refine r_iEnT ?_
  | with_reducible refine r_iEnL ?_
  | with_reducible refine r_zipA ?_
  | with_reducible refine r_zipX ?_
  | with_reducible refine r_augS ?_
  | with_reducible refine r_cb ?_
  | with_reducible refine r_call ?_
  | with_reducible refine r_make ?_
  | with_reducible refine r_callN0 ?_
  | with_reducible refine r_makeK0 ?_
  | with_reducible refine r_makeS ?_
  | with_reducible refine r_callS ?_
  | with_reducible refine r_cons ?_
  | with_reducible refine r_nil ?_
  | with_reducible refine r_test ?_
  | with_reducible refine r_B ?_
  | with_reducible refine r_and ?_
  | with_reducible refine r_or ?_
  | with_reducible refine r_not ?_
  | with_reducible refine r_andV ?_
  | with_reducible refine r_orV ?_
  | with_reducible refine r_notV ?_
  | with_reducible refine r_if ?_
  | with_reducible refine r_tup ?_
  | with_reducible refine r_lst ?_
  | with_reducible refine r_c ?_
  | with_reducible refine r_lc ?_
  | with_reducible refine r_chain ?_
  | with_reducible refine r_iT ?_
  | with_reducible refine r_iL ?_
  | with_reducible refine r_iR1 ?_
  | with_reducible refine r_iR2 ?_
  | with_reducible refine r_iR3 ?_
  | with_reducible refine r_asgG ?_
  | with_reducible refine r_gSub ?_
  | with_reducible refine r_for ?_
  | with_reducible refine r_smeth ?_
  | with_reducible refine r_par ?_
  | with_reducible refine r_parK ?_
  | with_reducible refine r_gCons ?_
  | with_reducible refine r_gNil ?_
  | with_reducible refine r_gName ?_
  | with_reducible refine r_intI ?_
  | with_reducible refine r_intB ?_
  | with_reducible refine r_absI ?_
  | with_reducible refine r_k ?_
  | with_reducible refine r_kV ?_
  | ((with_reducible show tVar _ _ _ _); refine r_var3 ?_ (by rfl))
  | with_reducible refine r_I0 ?_
  | with_reducible refine r_U ?_
  | with_reducible refine r_eqI ?_
  | with_reducible refine r_neI ?_
  | dsimp only)))
theorem len_l {K : PySem.W.Frag} {H : Hp} {Q : VK} {t : Addr} {xs : List V} (h : H t = some (.lst xs)) (q : Q (.int xs.length) H) : lenK K Q [.ref t] H := ⟨t, xs, rfl, .inl (SqL.of h), q⟩
theorem len_x {K : PySem.W.Frag} {H : Hp} {Q : VK} {t : Addr} {r : List Int} (h : IL H t r) (q : Q (.int r.length) H) : lenK K Q [.ref t] H := by
  rcases h with h | h
  · exact ⟨t, _, rfl, .inl (SqL.of h), by rw [List.length_map]; exact q⟩
  · exact ⟨t, _, rfl, .inr (SqT.of h), by rw [List.length_map]; exact q⟩
theorem ints_l {K : PySem.W.Frag} {H : Hp} {Q : VK} {t : Addr} {r : List Int} (h : IL H t r) (hl : r.length ≤ 1000) (k : ∀ H', Ex H H' → Q (.bl true) H') : spInts K [.ref t] H Q E0 := by
  refine .inl ⟨r.map V.int, ⟨t, rfl, h⟩, by rw [List.length_map]; omega, fun y hy => ?_, ?_⟩
  · obtain ⟨c, _, rfl⟩ := List.mem_map.mp hy
    exact kn_int c
  · have e : (r.map V.int).all isI = true := by rw [List.all_map]; exact List.all_eq_true.mpr fun _ _ => rfl
    rw [e]
    exact k
theorem Tab.rw {rs : List (List Int)} {d : Nat} (t : Tab rs d) {i : Nat} (hi : i < d) : ∃ r, rs[i]? = some r ∧ r.length = d ∧ ∀ j, j < d → r[j]? = some (en rs i j) := by
  have hl : i < rs.length := by rw [t.len]; exact hi
  refine ⟨rs[i], by simp [hl], t.row _ (List.getElem_mem hl), fun j hj => ?_⟩
  have := t.row _ (List.getElem_mem hl)
  have hj' : j < rs[i].length := by omega
  simp [en, List.getD_eq_getElem?_getD, List.getElem?_eq_getElem hl, List.getElem?_eq_getElem hj']
def spIsT (K : PySem.W.Frag) : Sp := sp1 fun v H Q _ => ∃ (rs : List (List Int)) (d : Nat), RL H v rs ∧ Tab rs d ∧ ∀ H', Ex H H' → Q (.bl true) H'
theorem ok_is_table {P : Program} {w : World} {K : PySem.W.Frag} {mg : Str → Option Value} {base : Heap} (T : Txt K mg) : ∃ fd, FnOk P w K mg base (L2.CX P w) 3 (He.ga K "is_table") fd ["value"] (spIsT K) ∧ Binds K fd ["value"] [] := by
  obtain ⟨fd, F⟩ := T.d_is_table
  obtain ⟨fd_are_integers, F_are_integers, B_are_integers⟩ := ok_are_integers (P := P) (w := w) (base := base) T
  obtain ⟨fd_is_row, F_is_row, B_is_row⟩ := ok_is_row (P := P) (w := w) (base := base) T
  refine ⟨fd, F.ok sc_is_table sp1_len (fun cdv A outer s H vs Q E hr h => ?_), F.bindsN fun _ _ _ _ _ _ us hl => match us, hl with | [_], _ => rfl⟩
  have hr_are_integers : Room 2 _ := hr.mono (by decide)
  have hr_is_row : Room 1 _ := hr.mono (by decide)
  obtain ⟨v, rfl, rs, d, ⟨p, cs, rfl, hp, hla⟩, tb, k⟩ := sp1_is h
  refine ⟨_, (pss_cons (ps_if (PW.pt (pw_or (pt_not (pt_val (pe_call F_is_row hr_is_row (by rfl) T.g_is_row T.k_is_row B_is_row .nil passL (pa_cons (pv 0) pa_nil)))) (pw_or1 (pt_not (pt_val (pe_callB (cr_all rfl) (by rfl) T.b_all (by decide +kernel) (pa_cons (pe_lc (own := [("row", 1)]) (g := gName 1) (tt := tYes)  rfl sc_is_table.nd (pi_list (pv 0)) (blkOk_by (own := [("row", 1)]) (N := ["value", "row", "i", "j"]) (sc := defScope s_is_table) (by decide +kernel)) (fun _ _ _ _ _ => (pg_name (i := 1) sc_is_table.nd rfl (Or.inl rfl))) (fun _ _ _ _ _ => pts_nil) (fun _ _ _ _ _ => (pe_and (pe_call F_are_integers hr_are_integers (by rfl) T.g_are_integers T.k_are_integers B_are_integers .nil passL (pa_cons (pv 1) pa_nil)) (pe_one (pe_cmpR op_eq (pe_callB (kx_lens rfl) (by rfl) T.b_len PySem.boot_len (pa_cons (pv 1) pa_nil)) (pe_callB (kx_lens rfl) (by rfl) T.b_len PySem.boot_len (pa_cons (pv 0) pa_nil)) (nomark _)))))) pa_nil))))))) (pss_one (ps_ret pe_bl)) pss_nil)
      (pss_one (ps_ret (pe_callB (cr_all rfl) (by rfl) T.b_all (by decide +kernel) (pa_cons (pe_lc2 (own := [("i", 2), ("j", 3)]) (vs1 := [3]) (g := gName 2) (tt := tYes) (g1 := gName 3) (tt1 := tYes) rfl sc_is_table.nd (pi_range1 (by rfl) T.b_range (pa_cons (pe_callB (kx_lens rfl) (by rfl) T.b_len PySem.boot_len (pa_cons (pv 0) pa_nil)) pa_nil)) (blkOk_by (own := [("i", 2), ("j", 3)]) (N := ["value", "row", "i", "j"]) (sc := defScope s_is_table) (by decide +kernel)) (by decide) (fun _ _ _ _ _ => (pg_name (i := 2) sc_is_table.nd rfl (Or.inl rfl))) (fun _ _ _ _ _ => pts_nil) (fun _ _ _ _ _ => (pi_range1 (by rfl) T.b_range (pa_cons (pv 2) pa_nil))) (fun _ _ _ _ _ => (pg_name (i := 3) sc_is_table.nd rfl (Or.inl rfl))) (fun _ _ _ _ _ => pts_nil) (fun _ _ _ _ _ => (pe_cmpR op_eq (pe_ix (kx_ixs (K := K) rfl) (pe_ix (kx_ixl rfl) (pv 0) (pv 2) (fun _ _ => rfl)) (pv 3) (fun _ _ => rfl)) (pe_ix (kx_ixs (K := K) rfl) (pe_ix (kx_ixl rfl) (pv 0) (pv 3) (fun _ _ => rfl)) (pv 2) (fun _ _ => rfl)) (nomark _)))) pa_nil))))), ?_⟩
  have lcs : cs.length = d := by rw [hla.1]; exact tb.len
  have d1 := tb.d1
  have d3 := tb.d3
  walk_at "rd"
  refine ⟨true, Sq.row ⟨p, rfl, .inl hp⟩, fun H1 e1 => ?_⟩
  walk_at "rd"
  refine ite_f rfl ?_
  walk_at "rd"
  have hp1 := e1 _ _ hp
  refine ⟨p, rfl, ⟨_, SqL.of hp1⟩, ?_⟩
  refine r_lcM (n := cs.length) (k := 1) (by simpa using walk_list (xs := cs.map V.ref)) (fun i => .bl true) (by omega) (fun H' e => SqL.of (e _ _ hp1)) (fun _ => rfl) ?_ ?_
  · rintro i y H2 H3 hi e2 ⟨rfl, hy⟩
    refine ⟨Ex.refl _, fun H4 e4 R kR => ?_⟩
    obtain ⟨t, ht, rfl⟩ := ref_at hy
    obtain ⟨r, hr', hrow⟩ := (hla.ex ((e1.trans e2).trans e4)).at ht
    have lr := tb.row r (List.mem_of_getElem? hr')
    walk_at "rd"
    refine ints_l hrow (by omega) fun H5 e5 => ?_
    refine ⟨_, rfl, ite_t rfl ?_⟩
    walk_at "rd"
    refine len_x (hrow.ex e5) ?_
    walk_at "rd"
    refine len_l (e5 _ _ (e4 _ _ (e2 _ _ hp1))) ?_
    rw [List.length_map, lr, lcs]
    refine r_eq rfl ?_
    rw [decide_eq_true rfl]
    exact kR _ e5
  intro D H2 hD e2 h2
  walk_at "rd"
  refine ⟨D, List.replicate cs.length true, rfl, SqL.of (by rw [h2, List.map_replicate, List.map_const', List.length_range]), ?_⟩
  have eall : (List.replicate cs.length true).all id = true := by simp
  rw [eall]
  walk_at "rd"
  refine ite_f rfl ?_
  walk_at "rd"
  refine r_lc2 ?_
  walk_at "rd"
  have hp2 := e2 _ _ hp1
  refine len_l hp2 ?_
  rw [List.length_map, lcs]
  walk_at "rd"
  refine ⟨_, rfl, by omega, by omega, ?_⟩
  rw [Int.toNat_natCast]
  refine r_lc2P (n := d) (k := 2) (k1 := 3) (walk_range (lo := 0) (n := d)) (fun i => (List.range i).map fun _ => V.bl true) (by omega) (fun i hi => by simp; omega) (fun _ _ => trivial) (fun _ => rfl) (fun _ _ => rfl) ?_ ?_
  · rintro i y H3 H4 hi e3 ⟨rfl, rfl⟩
    refine ⟨Ex.refl _, fun R kR => ?_⟩
    walk_at "rd"
    refine ⟨_, rfl, by omega, by omega, kR _ ⟨_, _, by rw [show ((0 : Int) + (i : Nat)).toNat = ((List.range i).map fun _ => V.bl true).length by simp]; exact walk_range, fun _ _ => trivial, ?_⟩⟩
    rintro j z H5 H6 hj e5 ⟨rfl, rfl⟩
    refine ⟨Ex.refl _, fun N hN => ?_⟩
    have hj' : j < i := by simpa using hj
    obtain ⟨ri, hri, lri, gri⟩ := tb.rw hi
    obtain ⟨rj, hrj, lrj, grj⟩ := tb.rw (show j < d by omega)
    have hla5 := hla.ex ((e1.trans e2).trans e5)
    have hp5 := e5 _ _ hp2
    obtain ⟨ti, hti, hwi⟩ := hla5.col hri
    obtain ⟨tj, htj, hwj⟩ := hla5.col hrj
    walk_at "rd"
    refine r_ixL hp5 (v := .ref ti) (by rw [Int.zero_add]; exact atI_nat (by rw [List.getElem?_map, hti]; rfl)) ?_
    walk_at "rd"
    refine ix_row hwi (by rw [Int.zero_add]) (gri j (by omega)) ?_
    walk_at "rd"
    refine r_ixL hp5 (v := .ref tj) (by rw [Int.zero_add]; exact atI_nat (by rw [List.getElem?_map, htj]; rfl)) ?_
    walk_at "rd"
    refine ix_row hwj (by rw [Int.zero_add]) (grj i hi) ?_
    refine r_eq rfl ?_
    have := hN _ (Ex.refl _)
    rw [show ((List.range i).map fun _ => V.bl true).getD j .non = V.bl true by simp [List.getD_eq_getElem?_getD, hj']] at this
    rw [tb.sym i j hi (by omega), decide_eq_true rfl]
    exact this
  · intro D2 H3 hD2 e3 h3
    have ef : GS.flatV (fun i => (List.range i).map fun _ => V.bl true) d = (List.replicate (GS.flatV (fun i => (List.range i).map fun _ => V.bl true) d).length true).map V.bl := by
      refine List.ext_getElem (by simp) fun m h1 h2 => ?_
      have : (GS.flatV (fun i => (List.range i).map fun _ => V.bl true) d)[m] = V.bl true := by
        have hm := List.getElem_mem h1
        unfold GS.flatV at hm ⊢
        obtain ⟨l, hl, hm'⟩ := List.mem_flatten.mp hm
        obtain ⟨i, _, rfl⟩ := List.mem_map.mp hl
        obtain ⟨_, _, e⟩ := List.mem_map.mp hm'
        exact e.symm
      rw [this]
      simp
    rw [ef] at h3
    refine ⟨D2, _, rfl, SqL.of h3, ?_⟩
    have eall : ∀ m, (List.replicate m true).all id = true := fun m => by simp
    rw [eall]
    exact k H3 ((e1.trans e2).trans e3)

end K36
namespace K36
open PySem PySem.Spec PyProof.Rows L2 GS TL
local macro_rules | `(tactic| walk_at "rd") => `(tactic| (repeat (first
  | with_reducible refine r_next ?_
  | with_reducible refine r_seq ?_
  | with_reducible refine r_ret ?_
  | with_reducible refine r_ifS ?_
  | with_reducible refine r_asg ?_
  | with_reducible refine r_drop ?_
  | with_reducible refine r_op ?_
  | with_reducible refine r_un ?_
  | with_reducible refine r_cbInt ?_
  | with_reducible refine r_cbAbs ?_
  | with_reducible refine r_cbLen ?_
  | with_reducible refine r_cbList ?_
  | with_reducible refine r_cbTup ?_
  | with_reducible refine r_iEnT ?_
  | with_reducible refine r_iEnL ?_
  | with_reducible refine r_zipA ?_
  | with_reducible refine r_zipX ?_
  | with_reducible refine r_augS ?_
  | with_reducible refine r_cb ?_
  | with_reducible refine r_call ?_
  | with_reducible refine r_make ?_
  | with_reducible refine r_callN0 ?_
  | with_reducible refine r_makeK0 ?_
  | with_reducible refine r_makeS ?_
  | with_reducible refine r_callS ?_
  | with_reducible refine r_cons ?_
  | with_reducible refine r_nil ?_
  | with_reducible refine r_test ?_
  | with_reducible refine r_B ?_
  | with_reducible refine r_and ?_
  | with_reducible refine r_or ?_
  | with_reducible refine r_not ?_
  | with_reducible refine r_andV ?_
  | with_reducible refine r_orV ?_
  | with_reducible refine r_notV ?_
  | with_reducible refine r_if ?_
  | with_reducible refine r_tup ?_
  | with_reducible refine r_lst ?_
  | with_reducible refine r_c ?_
  | with_reducible refine r_lc ?_
  | with_reducible refine r_chain ?_
  | with_reducible refine r_iT ?_
  | with_reducible refine r_iL ?_
  | with_reducible refine r_iR1 ?_
  | with_reducible refine r_iR2 ?_
  | with_reducible refine r_iR3 ?_
  | with_reducible refine r_asgG ?_
  | with_reducible refine r_gSub ?_
  | with_reducible refine r_for ?_
  | with_reducible refine r_smeth ?_
  | with_reducible refine r_par ?_
  | with_reducible refine r_parK ?_
  | with_reducible refine r_gCons ?_
  | with_reducible refine r_gNil ?_
  | with_reducible refine r_gName ?_
  | with_reducible refine r_intI ?_
  | with_reducible refine r_intB ?_
  | with_reducible refine r_absI ?_
  | with_reducible refine r_k ?_
  | with_reducible refine r_kV ?_
  | ((with_reducible show tVar _ _ _ _); refine r_var3 ?_ (by rfl))
  | with_reducible refine r_I0 ?_
  | with_reducible refine r_U ?_
  | with_reducible refine r_eqI ?_
  | with_reducible refine r_neI ?_
  | dsimp only)))
local macro_rules | `(tactic| walk_at "rx") => `(tactic| (repeat (first
  | with_reducible refine r_next ?_
  | with_reducible refine r_ret ?_
  | with_reducible refine r_ifS ?_
  | with_reducible refine r_asg ?_
  | with_reducible refine r_drop ?_
  | with_reducible refine r_op ?_
  | with_reducible refine r_un ?_
  | with_reducible refine r_cbInt ?_
  | with_reducible refine r_cbAbs ?_
  | with_reducible refine r_cbLen ?_
  | with_reducible refine r_cbList ?_
  | with_reducible refine r_cbTup ?_
  | with_reducible refine r_iEnT ?_
  | with_reducible refine r_iEnL ?_
  | with_reducible refine r_zipA ?_
  | with_reducible refine r_zipX ?_
  | with_reducible refine r_augS ?_
  | with_reducible refine r_cb ?_
  | with_reducible refine r_call ?_
  | with_reducible refine r_make ?_
  | with_reducible refine r_callN0 ?_
  | with_reducible refine r_makeK0 ?_
  | with_reducible refine r_makeS ?_
  | with_reducible refine r_callS ?_
  | with_reducible refine r_cons ?_
  | with_reducible refine r_nil ?_
  | with_reducible refine r_test ?_
  | with_reducible refine r_B ?_
  | with_reducible refine r_and ?_
  | with_reducible refine r_or ?_
  | with_reducible refine r_not ?_
  | with_reducible refine r_andV ?_
  | with_reducible refine r_orV ?_
  | with_reducible refine r_notV ?_
  | with_reducible refine r_if ?_
  | with_reducible refine r_tup ?_
  | with_reducible refine r_lst ?_
  | with_reducible refine r_c ?_
  | with_reducible refine r_lc ?_
  | with_reducible refine r_chain ?_
  | with_reducible refine r_iT ?_
  | with_reducible refine r_iL ?_
  | with_reducible refine r_iR1 ?_
  | with_reducible refine r_iR2 ?_
  | with_reducible refine r_iR3 ?_
  | with_reducible refine r_asgG ?_
  | with_reducible refine r_gSub ?_
  | with_reducible refine r_for ?_
  | with_reducible refine r_smeth ?_
  | with_reducible refine r_par ?_
  | with_reducible refine r_parK ?_
  | with_reducible refine r_gCons ?_
  | with_reducible refine r_gNil ?_
  | with_reducible refine r_gName ?_
  | with_reducible refine r_intI ?_
  | with_reducible refine r_intB ?_
  | with_reducible refine r_absI ?_
  | with_reducible refine r_k ?_
  | with_reducible refine r_kV ?_
  | ((with_reducible show tVar _ _ _ _); refine r_var3 ?_ (by rfl))
  | with_reducible refine r_I0 ?_
  | with_reducible refine r_U ?_
  | with_reducible refine r_eqI ?_
  | with_reducible refine r_neI ?_
  | dsimp only)))
theorem r_slX {K : PySem.W.Frag} {H : Hp} {Q : VK} {t : Addr} {r : List Int} {n : Nat} (h : IL H t r) (hn : n < r.length) (q : ∀ p H', H p = none → Ex H H' → IL H' p (r.take n) → Q (.ref p) H') : rSlL K (.ref t) none (some (n : Int)) H Q ∨ rSlT K (.ref t) none (some (n : Int)) H Q := by
  rcases h with h | h
  · exact .inl ⟨t, _, rfl, SqL.of h, fun p hp => q p _ hp (Ex.new hp) (.inl (by rw [upd_same, cut_tk]))⟩
  · exact .inr ⟨t, _, rfl, SqT.of h, fun z => by have := z.2; rw [HT.sIx_nat, List.length_map] at this; omega, fun p hp => q p _ hp (Ex.new hp) (.inr (by rw [upd_same, cut_tk]))⟩
theorem r_cat {H : Hp} {Q : VK} {l b : Addr} {xs zs : List V} (h1 : H l = some (.lst xs)) (h2 : H b = some (.lst zs)) (hz : xs.length + zs.length ≤ 50000) (q : ∀ p H', H p = none → Ex H H' → H' p = some (.lst (xs ++ zs)) → Q (.ref p) H') : rCat (.ref l) (.ref b) H Q :=
  ⟨l, b, xs, zs, rfl, rfl, h1, h2, sz_le (by omega), fun p hp => q p _ hp (Ex.new hp) upd_same⟩
theorem rowF_z {rs : List (List Int)} {d n : Nat} (t : Tab rs d) (hn : n < d) : ∀ c ∈ rowF rs n, Z 700 c := by
  have d3 := t.d3
  intro c hc
  rcases List.mem_cons.mp hc with rfl | hc
  · exact Z.mono (n := 10) (by unfold Z; decide) (by decide)
  rcases List.mem_cons.mp hc with rfl | hc
  · obtain ⟨r, hr, _, gr⟩ := t.rw hn
    have := t.z r (List.mem_of_getElem? hr) _ (List.mem_of_getElem? (gr n hn))
    unfold Z at *
    rw [Int.natAbs_neg]
    exact Nat.lt_of_lt_of_le this (Nat.pow_le_pow_right (by decide) (by decide))
  · obtain ⟨k, hk, rfl⟩ := List.mem_map.mp hc
    have hk := List.mem_range.mp hk
    have := (dot_z (n := 320) (m := 320) (by rw [pw_len t hn]; omega) (fun c h => (pw_z t (n := n) (k / 2) c h).mono (by omega)) fun c h => (pw_z t (n := n) ((k + 1) / 2) c h).mono (by omega)).mono (m := 700) (by decide)
    unfold Z at *
    rw [Int.natAbs_neg]
    exact this
def spRF (K : PySem.W.Frag) : Sp := sp2 fun v w H Q _ => ∃ (rs : List (List Int)) (d n : Nat), RL H v rs ∧ Tab rs d ∧ w = .int n ∧ n < d ∧ ∀ p H', H p = none → Ex H H' → H' p = some (.lst ((rowF rs n).map V.int)) → Q (.ref p) H'
theorem ok_row_factors {P : Program} {w : World} {K : PySem.W.Frag} {mg : Str → Option Value} {base : Heap} (T : Txt K mg) : ∃ fd, FnOk P w K mg base (L2.CX P w) 3 (He.ga K "row_factors") fd ["table", "size"] (spRF K) ∧ Binds K fd ["table", "size"] [] := by
  obtain ⟨fd, F⟩ := T.d_row_factors
  obtain ⟨fd_product_sum, F_product_sum, B_product_sum⟩ := ok_product_sum (P := P) (w := w) (base := base) T
  obtain ⟨fd_table_times, F_table_times, B_table_times⟩ := ok_table_times (P := P) (w := w) (base := base) T
  refine ⟨fd, F.ok sc_row_factors sp2_len (fun cdv A outer s H vs Q E hr h => ?_), F.bindsN fun _ _ _ _ _ _ us hl => match us, hl with | [_, _], _ => rfl⟩
  have hr_product_sum : Room 1 _ := hr.mono (by decide)
  have hr_table_times : Room 2 _ := hr.mono (by decide)
  obtain ⟨v, w', rfl, rs, d, n, ⟨p, cs, rfl, hp, hla⟩, tb, rfl, hn, k⟩ := sp2_is h
  refine ⟨_, (pss_cons (ps_set (i := 2) sc_row_factors.nd rfl (Or.inl rfl) (pe_slice sl_list (pv 0) po_none (po_some (pv 1))))
      (pss_cons (ps_set (i := 3) sc_row_factors.nd rfl (Or.inr rfl) (pe_lst (pa_cons (pe_slice (SlR.or sl_list sl_tup) (pe_ix (kx_ixl rfl) (pv 0) (pv 1) (fun _ _ => rfl)) po_none (po_some (pv 1))) pa_nil)))
      (pss_cons (ps_for (passes_of rfl) rfl (pi_range1 (by rfl) T.b_range (pa_cons (pe_op op_fdivW (pv 1) pe_int) pa_nil)) (pg_name (i := 4) sc_row_factors.nd rfl (Or.inl rfl)) (pss_one (ps_expr (pe_bm PySem.F.plainAttrs_list PySem.F.slot_list_append PySem.F.type_list_append mt_append (pv 3) (pa_cons (pe_call F_table_times hr_table_times (by rfl) T.g_table_times T.k_table_times B_table_times .nil passL (pa_cons (pv 2) (pa_cons (pe_ix (kx_ixl rfl) (pv 3) (pe_un un_neg pe_int) (fun _ _ => rfl)) pa_nil))) pa_nil)))))
      (pss_cons (ps_setLc (i := 5) (own := [("k", 6)]) (g := gName 6) (tt := tYes)  rfl sc_row_factors.nd rfl rfl (sw_true rfl rfl rfl (by decide +kernel)) (pi_range1 (by rfl) T.b_range (pa_cons (pv 1) pa_nil)) (blkOk_by (own := [("k", 6)]) (N := ["table", "size", "ahead", "powers", "_", "products", "k", "number"]) (sc := defScope s_row_factors) (by decide +kernel)) (fun _ _ _ _ _ => (pg_name (i := 6) sc_row_factors.nd rfl (Or.inl rfl))) (fun _ _ _ _ _ => pts_nil) (fun _ _ _ _ _ => (pe_call F_product_sum hr_product_sum (by rfl) T.g_product_sum T.k_product_sum B_product_sum .nil passL (pa_cons (pe_ix (kx_ixl rfl) (pv 3) (pe_op op_fdivW (pv 6) pe_int) (fun _ _ => rfl)) (pa_cons (pe_ix (kx_ixl rfl) (pv 3) (pe_op op_fdivW (pe_op op_add (pv 6) pe_int) pe_int) (fun _ _ => rfl)) pa_nil)))))
      (pss_one (ps_ret (pe_op op_cat (pe_lst (pa_cons pe_int (pa_cons (pe_un un_neg (pe_ix ix_seq (pe_ix (kx_ixl rfl) (pv 0) (pv 1) (fun _ _ => rfl)) (pv 1) (fun _ _ => rfl))) pa_nil))) (pe_lc (own := [("number", 7)]) (g := gName 7) (tt := tYes)  rfl sc_row_factors.nd (pi_list (pv 5)) (blkOk_by (own := [("number", 7)]) (N := ["table", "size", "ahead", "powers", "_", "products", "k", "number"]) (sc := defScope s_row_factors) (by decide +kernel)) (fun _ _ _ _ _ => (pg_name (i := 7) sc_row_factors.nd rfl (Or.inl rfl))) (fun _ _ _ _ _ => pts_nil) (fun _ _ _ _ _ => (pe_un un_neg (pv 7))))))))))), ?_⟩
  have lcs : cs.length = d := by rw [hla.1]; exact tb.len
  have d1 := tb.d1
  have d3 := tb.d3
  obtain ⟨rn, hrn, lrn, grn⟩ := tb.rw hn
  walk_at "rd"
  refine ⟨_, rfl, _, rfl, _, rfl, r_slL hp (cut_tk V.ref cs n) fun A H1 hA e1 h1 => ?_⟩
  have laA := (hla.ex e1).take n
  walk_at "rd"
  have hp1 := e1 _ _ hp
  obtain ⟨tn', htn, hwn⟩ := (hla.ex e1).col hrn
  refine ⟨_, rfl, _, rfl, r_ixL hp1 (v := .ref tn') (atI_nat (by rw [List.getElem?_map, htn]; rfl)) ⟨_, rfl, _, rfl, r_slX hwn (by omega) fun B H2 hB e2 h2 => ?_⟩⟩
  walk_at "rd"
  refine r_newL (sz_le (by simp)) fun P H3 hP e3 h3 => ?_
  have epw : pw rs n 0 = rn.take n := by show (rs.getD n []).take n = _; rw [List.getD_eq_getElem?_getD, hrn]; rfl
  have e13 := e1.trans (e2.trans e3)
  have laP : RA H3 [B] [pw rs n 0] := RA.cons (by rw [epw]; exact h2.ex e3) RA.nil
  have laA3 : RA H3 (cs.take n) (rs.take n) := laA.ex (e2.trans e3)
  have hA3 : H3 A = some (.lst ((cs.take n).map V.ref)) := (e2.trans e3) _ _ h1
  have hp3 := (e2.trans e3) _ _ hp1
  have hPB : P ∉ [B] := fun z => by rw [List.mem_singleton.mp z] at hP; exact h2.ne hP
  have hPf : H P = none := (e1.trans e2).free hP
  walk_at "rd"
  refine r_I (wide_div (b := 10) (by decide) (by decide) (by decide) (by decide)) ?_
  walk_at "rd"
  have ediv : (((n : Nat) : Int) / 2) = ((n / 2 : Nat) : Int) := rfl
  rw [ediv]
  refine ⟨_, rfl, by omega, by omega, ?_⟩
  rw [Int.toNat_natCast]
  have tk : ∀ r ∈ rs.take n, r ∈ rs := fun r h => List.mem_of_mem_take h
  refine for_of (walk_range (lo := 0) (n := n / 2)) (fun i σ' H' => ∃ ps s4, σ' = [some (.ref p), some (.int n), some (.ref A), some (.ref P), s4, none, none, none] ∧ Ex H H' ∧ H' A = some (.lst ((cs.take n).map V.ref)) ∧ RA H' (cs.take n) (rs.take n) ∧ H' P = some (.lst (ps.map V.ref)) ∧ P ∉ ps ∧ P ∉ cs.take n ∧ P ≠ A ∧ RA H' ps ((List.range (i + 1)).map (pw rs n))) ⟨[B], none, rfl, e13, hA3, laA3, h3, hPB, fun z => ?_, fun z => ?_, laP⟩ (fun _ _ _ _ _ => trivial) ?_ ?_
  · obtain ⟨j, hj⟩ := List.getElem?_of_mem z
    obtain ⟨_, _, hx⟩ := laA.at hj
    exact (hx.ex e2).ne hP
  · rw [z, e2 _ _ h1] at hP
    cases hP
  · rintro i x σ' H4 H5 hi ⟨ps, s4, rfl, e4, hA4, laA4, hP4, nP, nPc, nPA, laP4⟩ ⟨rfl, rfl⟩
    have lps : ps.length = i + 1 := by rw [laP4.1]; simp
    refine r_gName ?_
    walk_at "rd"
    refine r_bm ?_
    walk_at "rd"
    refine ⟨tyL hP4, ?_⟩
    walk_at "rd"
    have hlast : ps[i]? = some (ps[i]'(by omega)) := by simp
    generalize (ps[i]'(by omega)) = pl at hlast
    obtain ⟨rl, hrl, hwl⟩ := laP4.at hlast
    have erl : rl = pw rs n i := by
      rw [List.getElem?_map, List.getElem?_range (by omega)] at hrl
      exact (Option.some.inj hrl).symm
    subst erl
    refine r_ixL hP4 (v := .ref pl) (by
      show (ixN (ps.map V.ref).length (-1)).bind _ = _
      rw [List.length_map, lps]
      have : ixN (i + 1) (-1) = some i := by unfold ixN; simp; omega
      rw [this]
      show (ps.map V.ref)[i]? = _
      rw [List.getElem?_map, hlast]
      rfl) ?_
    walk_at "rd"
    refine ⟨rs.take n, pl, pw rs n i, ⟨A, cs.take n, rfl, hA4, laA4⟩, rfl, hwl, by simp; omega, fun r hr => by rw [tb.row r (tk r hr)]; omega, fun r hr c hc => (tb.z r (tk r hr) c hc).mono (by decide), fun c hc => (pw_z tb i c hc).mono (by omega), fun q H6 hq e6 h6 => ?_⟩
    walk_at "rd"
    refine r_app (e6 _ _ hP4) (by rw [List.length_map]; omega) ?_
    walk_at "rd"
    have nqP : P ≠ q := fun z => by rw [← z, hP4] at hq; cases hq
    refine ⟨ps ++ [q], _, rfl, fun a o ha => ?_, ?_, (laA4.ex e6).upd nPc, by rw [upd_same, List.map_append]; rfl, fun z => ?_, nPc, nPA, ?_⟩
    · rw [upd_ne (ne_of_none ha hPf)]
      exact e6 _ _ (e4 _ _ ha)
    · rw [upd_ne (fun z => nPA z.symm)]
      exact e6 _ _ hA4
    · rcases List.mem_append.mp z with z | z
      · exact nP z
      · exact nqP (List.mem_singleton.mp z)
    · rw [List.range_succ, List.map_append]
      refine RA.upd (RA.app (laP4.ex e6) (RA.cons (.inl h6) RA.nil)) fun z => ?_
      rcases List.mem_append.mp z with z | z
      · exact nP z
      · exact nqP (List.mem_singleton.mp z)
  · rintro σ' H4 ⟨ps, s4, rfl, e4, hA4, laA4, hP4, nP, nPc, nPA, laP4⟩
    have lps : ps.length = n / 2 + 1 := by rw [laP4.1]; simp
    have pget : ∀ j, j ≤ n / 2 → ∃ t, ps[j]? = some t ∧ IL H4 t (pw rs n j) := fun j hj => by
      obtain ⟨t, ht, hw⟩ := laP4.col (j := j) (r := pw rs n j) (by rw [List.getElem?_map, List.getElem?_range (by omega)]; rfl)
      exact ⟨t, ht, hw⟩
    walk_at "rd"
    refine ⟨_, rfl, by omega, by omega, ?_⟩
    rw [Int.toNat_natCast]
    refine r_lcM (n := n) (k := 6) walk_range (fun i => .int (dotL (pw rs n (i / 2)) (pw rs n ((i + 1) / 2)))) (by omega) (fun _ _ => trivial) (fun _ => rfl) ?_ ?_
    · rintro i y H5 H6 hi e5 ⟨rfl, rfl⟩
      refine ⟨Ex.refl _, fun H7 e7 R kR => ?_⟩
      obtain ⟨t1, ht1, hw1⟩ := pget (i / 2) (by omega)
      obtain ⟨t2, ht2, hw2⟩ := pget ((i + 1) / 2) (by omega)
      have e57 := e5.trans e7
      have i0 : (0 : Int) + (i : Nat) = ((i : Nat) : Int) := Int.zero_add _
      walk_at "rd"
      rw [i0]
      refine r_I (wide_div (b := 10) (by decide) (by decide) (by decide) (by decide)) ?_
      walk_at "rd"
      refine r_ixL (e57 _ _ hP4) (v := .ref t1) (by rw [show (((i : Nat) : Int) / 2) = ((i / 2 : Nat) : Int) from rfl]; exact atI_nat (by rw [List.getElem?_map, ht1]; rfl)) ?_
      walk_at "rd"
      refine r_I (wide_div (b := 10) (by decide) (by decide) (by decide) (by decide)) ?_
      walk_at "rd"
      refine r_ixL (e57 _ _ hP4) (v := .ref t2) (by rw [show ((((i : Nat) : Int) + 1) / 2) = (((i + 1) / 2 : Nat) : Int) from rfl]; exact atI_nat (by rw [List.getElem?_map, ht2]; rfl)) ?_
      walk_at "rd"
      obtain ⟨b1, s1⟩ := (hw1.ex e57).sq
      obtain ⟨b2, s2⟩ := (hw2.ex e57).sq
      exact ⟨b1, b2, t1, t2, _, _, rfl, rfl, s1, s2, by rw [pw_len tb hn]; omega, fun c hc => (pw_z tb _ c hc).mono (by omega), fun c hc => (pw_z tb _ c hc).mono (by omega), fun H8 e8 => kR H8 e8⟩
    · intro D H5 hD e5 h5
      have e5H := e4.trans e5
      walk_at "rd"
      obtain ⟨tn2, htn2, hwn2⟩ := (hla.ex e5H).col hrn
      refine r_ixL (e5H _ _ hp) (v := .ref tn2) (atI_nat (by rw [List.getElem?_map, htn2]; rfl)) ?_
      walk_at "rd"
      refine ix_row hwn2 rfl (grn n hn) ?_
      walk_at "rd"
      refine r_newL (sz_le (by simp)) fun F H6 hF e6 h6 => ?_
      walk_at "rd"
      have h56 := e6 _ _ h5
      refine ⟨D, rfl, ⟨_, SqL.of h56⟩, ?_⟩
      let prods : List Int := (List.range n).map fun i => dotL (pw rs n (i / 2)) (pw rs n ((i + 1) / 2))
      have hpr : H6 D = some (.lst (prods.map V.int)) := by rw [h56, List.map_map]; rfl
      have lpr : prods.length = n := by simp [prods]
      refine r_lcM (n := n) (k := 7) (by have := walk_list (K := K) (a := D) (xs := prods.map V.int); rwa [List.length_map, lpr] at this) (fun i => .int (-(prods.getD i 0))) (by omega) (fun H' e => SqL.of (e _ _ hpr)) (fun _ => rfl) ?_ ?_
      · rintro i y H7 H8 hi e7 ⟨rfl, hy⟩
        refine ⟨Ex.refl _, fun H9 e9 R kR => ?_⟩
        obtain ⟨c, hc, rfl⟩ := int_at hy
        walk_at "rd"
        rw [List.getD_eq_getElem?_getD, hc] at kR
        exact kR _ (Ex.refl _)
      · intro G H7 hG e7 h7
        refine r_cat (e7 _ _ h6) h7 (by simp; omega) fun q H8 hq e8 h8 => ?_
        refine k q H8 ((e5H.trans (e6.trans e7)).free hq) (((e5H.trans e6).trans e7).trans e8) ?_
        rw [h8]
        have e : (List.range n).map (fun i => V.int (-(prods.getD i 0))) = ((List.range n).map fun k => -(dotL (pw rs n (k / 2)) (pw rs n ((k + 1) / 2)))).map V.int := by
          rw [List.map_map]
          refine List.map_congr_left fun i hi => ?_
          have hi := List.mem_range.mp hi
          show V.int (-(prods.getD i 0)) = V.int _
          rw [List.getD_eq_getElem?_getD, List.getElem?_map, List.getElem?_range hi]
          rfl
        rw [e]
        rfl

end K36
namespace K36
open PySem PySem.Spec PyProof.Rows L2 GS TL
local macro_rules | `(tactic| walk_at "rd") => `(tactic| (repeat (first
  | with_reducible refine r_next ?_
  | with_reducible refine r_seq ?_
  | with_reducible refine r_ret ?_
  | with_reducible refine r_ifS ?_
  | with_reducible refine r_asg ?_
  | with_reducible refine r_drop ?_
  | with_reducible refine r_op ?_
  | with_reducible refine r_un ?_
  | with_reducible refine r_cbInt ?_
  | with_reducible refine r_cbAbs ?_
  | with_reducible refine r_cbLen ?_
  | with_reducible refine r_cbList ?_
  | with_reducible refine r_cbTup ?_
  | with_reducible refine r_iEnT ?_
  | with_reducible refine r_iEnL ?_
  | with_reducible refine r_zipA ?_
  | with_reducible refine r_zipX ?_
  | with_reducible refine r_augS ?_
  | with_reducible refine r_cb ?_
  | with_reducible refine r_call ?_
  | with_reducible refine r_make ?_
  | with_reducible refine r_callN0 ?_
  | with_reducible refine r_makeK0 ?_
  | with_reducible refine r_makeS ?_
  | with_reducible refine r_callS ?_
  | with_reducible refine r_cons ?_
  | with_reducible refine r_nil ?_
  | with_reducible refine r_test ?_
  | with_reducible refine r_B ?_
  | with_reducible refine r_and ?_
  | with_reducible refine r_or ?_
  | with_reducible refine r_not ?_
  | with_reducible refine r_andV ?_
  | with_reducible refine r_orV ?_
  | with_reducible refine r_notV ?_
  | with_reducible refine r_if ?_
  | with_reducible refine r_tup ?_
  | with_reducible refine r_lst ?_
  | with_reducible refine r_c ?_
  | with_reducible refine r_lc ?_
  | with_reducible refine r_chain ?_
  | with_reducible refine r_iT ?_
  | with_reducible refine r_iL ?_
  | with_reducible refine r_iR1 ?_
  | with_reducible refine r_iR2 ?_
  | with_reducible refine r_iR3 ?_
  | with_reducible refine r_asgG ?_
  | with_reducible refine r_gSub ?_
  | with_reducible refine r_for ?_
  | with_reducible refine r_smeth ?_
  | with_reducible refine r_par ?_
  | with_reducible refine r_parK ?_
  | with_reducible refine r_gCons ?_
  | with_reducible refine r_gNil ?_
  | with_reducible refine r_gName ?_
  | with_reducible refine r_intI ?_
  | with_reducible refine r_intB ?_
  | with_reducible refine r_absI ?_
  | with_reducible refine r_k ?_
  | with_reducible refine r_kV ?_
  | ((with_reducible show tVar _ _ _ _); refine r_var3 ?_ (by rfl))
  | with_reducible refine r_I0 ?_
  | with_reducible refine r_U ?_
  | with_reducible refine r_eqI ?_
  | with_reducible refine r_neI ?_
  | dsimp only)))
local macro_rules | `(tactic| walk_at "rx") => `(tactic| (repeat (first
  | with_reducible refine r_next ?_
  | with_reducible refine r_ret ?_
  | with_reducible refine r_ifS ?_
  | with_reducible refine r_asg ?_
  | with_reducible refine r_drop ?_
  | with_reducible refine r_op ?_
  | with_reducible refine r_un ?_
  | with_reducible refine r_cbInt ?_
  | with_reducible refine r_cbAbs ?_
  | with_reducible refine r_cbLen ?_
  | with_reducible refine r_cbList ?_
  | with_reducible refine r_cbTup ?_
  | with_reducible refine r_iEnT ?_
  | with_reducible refine r_iEnL ?_
  | with_reducible refine r_zipA ?_
  | with_reducible refine r_zipX ?_
  | with_reducible refine r_augS ?_
  | with_reducible refine r_cb ?_
  | with_reducible refine r_call ?_
  | with_reducible refine r_make ?_
  | with_reducible refine r_callN0 ?_
  | with_reducible refine r_makeK0 ?_
  | with_reducible refine r_makeS ?_
  | with_reducible refine r_callS ?_
  | with_reducible refine r_cons ?_
  | with_reducible refine r_nil ?_
  | with_reducible refine r_test ?_
  | with_reducible refine r_B ?_
  | with_reducible refine r_and ?_
  | with_reducible refine r_or ?_
  | with_reducible refine r_not ?_
  | with_reducible refine r_andV ?_
  | with_reducible refine r_orV ?_
  | with_reducible refine r_notV ?_
  | with_reducible refine r_if ?_
  | with_reducible refine r_tup ?_
  | with_reducible refine r_lst ?_
  | with_reducible refine r_c ?_
  | with_reducible refine r_lc ?_
  | with_reducible refine r_chain ?_
  | with_reducible refine r_iT ?_
  | with_reducible refine r_iL ?_
  | with_reducible refine r_iR1 ?_
  | with_reducible refine r_iR2 ?_
  | with_reducible refine r_iR3 ?_
  | with_reducible refine r_asgG ?_
  | with_reducible refine r_gSub ?_
  | with_reducible refine r_for ?_
  | with_reducible refine r_smeth ?_
  | with_reducible refine r_par ?_
  | with_reducible refine r_parK ?_
  | with_reducible refine r_gCons ?_
  | with_reducible refine r_gNil ?_
  | with_reducible refine r_gName ?_
  | with_reducible refine r_intI ?_
  | with_reducible refine r_intB ?_
  | with_reducible refine r_absI ?_
  | with_reducible refine r_k ?_
  | with_reducible refine r_kV ?_
  | ((with_reducible show tVar _ _ _ _); refine r_var3 ?_ (by rfl))
  | with_reducible refine r_I0 ?_
  | with_reducible refine r_U ?_
  | with_reducible refine r_eqI ?_
  | with_reducible refine r_neI ?_
  | dsimp only)))
theorem tn_z {rs : List (List Int)} {d : Nat} (t : Tab rs d) : ∀ n, n ≤ d → ∀ c ∈ tn rs n, Z (10 + 720 * n) c
  | 0, _, c, hc => by
    rw [List.mem_singleton.mp hc]
    exact Z.mono (n := 10) (by unfold Z; decide) (by decide)
  | n + 1, hn, c, hc => by
    have d3 := t.d3
    obtain ⟨a, ha, rfl⟩ := List.mem_map.mp hc
    have l : ∀ m, (tn rs m).length = m + 1 := fun m => by cases m <;> simp [tn]
    exact (dot_z (n := 10 + 720 * n) (m := 700) (by rw [l]; omega) (tn_z t n (by omega)) fun c h => rowF_z t (by omega) c (List.mem_of_mem_take (List.mem_reverse.mp h))).mono (by omega)
theorem tn_len (rs : List (List Int)) (m : Nat) : (tn rs m).length = m + 1 := by cases m <;> simp [tn]
theorem tn_head (rs : List (List Int)) : ∀ m, (tn rs m).headD 0 = 1
  | 0 => rfl
  | m + 1 => by
    have h := tn_head rs m
    have l := tn_len rs m
    cases q : tn rs m with
    | nil => rw [q] at l; simp at l
    | cons a r =>
      rw [q] at h
      have ha : a = 1 := h
      subst ha
      have e : (tn rs (m + 1)).headD 0 = dotL (tn rs m) ((rowF rs m).take 1).reverse := by
        show ((List.range (m + 2)).map _).headD 0 = _
        rw [show m + 2 = (m + 1) + 1 from rfl, List.range_succ_eq_map]
        rfl
      rw [e, q]
      simp [rowF, dotL]
def spTN (K : PySem.W.Frag) : Sp := sp1 fun v H Q _ => ∃ (rs : List (List Int)) (d : Nat), RL H v rs ∧ Tab rs d ∧ ∀ p H', H p = none → Ex H H' → H' p = some (.lst ((tn rs d).map V.int)) → Q (.ref p) H'
theorem ok_table_numbers {P : Program} {w : World} {K : PySem.W.Frag} {mg : Str → Option Value} {base : Heap} (T : Txt K mg) : ∃ fd, FnOk P w K mg base (L2.CX P w) 4 (He.ga K "table_numbers") fd ["table"] (spTN K) ∧ Binds K fd ["table"] [] := by
  obtain ⟨fd, F⟩ := T.d_table_numbers
  obtain ⟨fd_product_sum, F_product_sum, B_product_sum⟩ := ok_product_sum (P := P) (w := w) (base := base) T
  obtain ⟨fd_row_factors, F_row_factors, B_row_factors⟩ := ok_row_factors (P := P) (w := w) (base := base) T
  refine ⟨fd, F.ok sc_table_numbers sp1_len (fun cdv A outer s H vs Q E hr h => ?_), F.bindsN fun _ _ _ _ _ _ us hl => match us, hl with | [_], _ => rfl⟩
  have hr_product_sum : Room 1 _ := hr.mono (by decide)
  have hr_row_factors : Room 3 _ := hr.mono (by decide)
  obtain ⟨v, rfl, rs, d, ⟨p, cs, rfl, hp, hla⟩, tb, k⟩ := sp1_is h
  refine ⟨_, (pss_cons (ps_set (i := 1) sc_table_numbers.nd rfl (Or.inr rfl) (pe_lst (pa_cons pe_int pa_nil)))
      (pss_cons (ps_for (passes_of rfl) rfl (pi_range1 (by rfl) T.b_range (pa_cons (pe_callB (kx_lens rfl) (by rfl) T.b_len PySem.boot_len (pa_cons (pv 0) pa_nil)) pa_nil)) (pg_name (i := 2) sc_table_numbers.nd rfl (Or.inl rfl)) (pss_cons (ps_set (i := 3) sc_table_numbers.nd rfl (Or.inr rfl) (pe_call F_row_factors hr_row_factors (by rfl) T.g_row_factors T.k_row_factors B_row_factors .nil passL (pa_cons (pv 0) (pa_cons (pv 2) pa_nil))))
      (pss_one (ps_set (i := 1) sc_table_numbers.nd rfl (Or.inr rfl) (pe_lc (own := [("at", 4)]) (g := gName 4) (tt := tYes)  rfl sc_table_numbers.nd (pi_range1 (by rfl) T.b_range (pa_cons (pe_op op_add (pv 2) pe_int) pa_nil)) (blkOk_by (own := [("at", 4)]) (N := ["table", "numbers", "size", "factors", "at"]) (sc := defScope s_table_numbers) (by decide +kernel)) (fun _ _ _ _ _ => (pg_name (i := 4) sc_table_numbers.nd rfl (Or.inl rfl))) (fun _ _ _ _ _ => pts_nil) (fun _ _ _ _ _ => (pe_call F_product_sum hr_product_sum (by rfl) T.g_product_sum T.k_product_sum B_product_sum .nil passL (pa_cons (pv 1) (pa_cons (pe_revF (K := K) rfl (pv 3) (pv 4)) pa_nil)))))))))
      (pss_one (ps_ret (pv 1))))), ?_⟩
  have lcs : cs.length = d := by rw [hla.1]; exact tb.len
  have d1 := tb.d1
  have d3 := tb.d3
  walk_at "rd"
  refine r_newL (sz_le (by simp)) fun N0 H1 hN0 e1 h1 => ?_
  walk_at "rd"
  refine len_l (e1 _ _ hp) ?_
  rw [List.length_map, lcs]
  walk_at "rd"
  refine ⟨_, rfl, by omega, by omega, ?_⟩
  rw [Int.toNat_natCast]
  refine for_of (walk_range (lo := 0) (n := d)) (fun i σ' H' => ∃ q s2 s3, σ' = [some (.ref p), some (.ref q), s2, s3, none] ∧ H q = none ∧ Ex H H' ∧ H' q = some (.lst ((tn rs i).map V.int))) ⟨N0, none, none, rfl, hN0, e1, h1⟩ (fun _ _ _ _ _ => trivial) ?_ ?_
  · rintro i x σ' H3 H2 hi ⟨q, s2, s3, rfl, hq, e2, h2⟩ ⟨rfl, rfl⟩
    refine r_gName ?_
    walk_at "rd"
    refine ⟨rs, d, i, ⟨p, cs, rfl, e2 _ _ hp, hla.ex e2⟩, tb, congrArg V.int (Int.zero_add _), hi, fun F H4 hF e4 h4 => ?_⟩
    walk_at "rd"
    refine ⟨((i + 2 : Nat) : Int), by rw [show ((0 : Int) + (i : Nat) + 2) = ((i + 2 : Nat) : Int) by push_cast; omega], by omega, by omega, ?_⟩
    rw [Int.toNat_natCast]
    refine r_lcM (n := i + 2) (k := 4) walk_range (fun a => .int (dotL (tn rs i) ((rowF rs i).take (a + 1)).reverse)) (by omega) (fun _ _ => trivial) (fun _ => rfl) ?_ ?_
    · rintro a y H5 H6 ha e5 ⟨rfl, rfl⟩
      refine ⟨Ex.refl _, fun H7 e7 R kR => ?_⟩
      have e47 := e5.trans e7
      walk_at "rd"
      refine r_revF ?_
      walk_at "rd"
      refine ⟨_, rfl, F, _, a, rfl, Int.zero_add _, SqL.of (e47 _ _ h4), fun r hr => ?_⟩
      have e8 : Ex H7 (upd H7 r (.lst (((rowF rs i).map V.int |>.take (a + 1)).reverse))) := Ex.new hr
      have h8 : (upd H7 r (.lst (((rowF rs i).map V.int |>.take (a + 1)).reverse))) r = some (.lst ((((rowF rs i).take (a + 1)).reverse).map V.int)) := by rw [upd_same, List.map_reverse, List.map_take]
      generalize upd H7 r (.lst (((rowF rs i).map V.int |>.take (a + 1)).reverse)) = H8 at e8 h8 ⊢
      walk_at "rd"
      exact ⟨false, false, q, r, tn rs i, ((rowF rs i).take (a + 1)).reverse, rfl, rfl, SqL.of (e8 _ _ (e47 _ _ (e4 _ _ h2))), SqL.of h8, by rw [tn_len]; omega, fun c hc => (tn_z tb i (by omega) c hc).mono (by omega), fun c hc => (rowF_z tb hi c (List.mem_of_mem_take (List.mem_reverse.mp hc))).mono (by decide), fun H9 e9 => kR H9 (e8.trans e9)⟩
    · intro D H5 hD e5 h5
      walk_at "rd"
      refine ⟨D, _, _, rfl, (e2.trans e4).free hD, (e2.trans e4).trans e5, ?_⟩
      rw [h5]
      show _ = some (HO.lst (((List.range (i + 2)).map _).map V.int))
      rw [List.map_map]
      rfl
  · rintro σ' H2 ⟨q, s2, s3, rfl, hq, e2, h2⟩
    walk_at "rd"
    exact k q H2 hq e2 h2
def spTab (K : PySem.W.Frag) : Sp := sp1 fun v H Q _ => ∃ (rs : List (List Int)) (d : Nat), RL H v rs ∧ Tab rs d ∧ ∀ p H', H p = none → Ex H H' → Pl K H' p (tn rs d) → Q (.ref p) H'
theorem ok_table_poly {P : Program} {w : World} {K : PySem.W.Frag} {mg : Str → Option Value} {base : Heap} (T : Txt K mg) : ∃ fd, FnOk P w K mg base (L2.CX P w) 5 (He.ga K "table_poly") fd ["table"] (spTab K) ∧ Binds K fd ["table"] [] ∧ KBn K fd ["table"] 0 ["table"] (pm [0]) (pm [0]) := by
  obtain ⟨fd, F⟩ := T.d_table_poly
  obtain ⟨fd_Poly_init, F_Poly_init, B_Poly_init⟩ := ok_Poly_init (P := P) (w := w) (base := base) T
  obtain ⟨fd_table_numbers, F_table_numbers, B_table_numbers⟩ := ok_table_numbers (P := P) (w := w) (base := base) T
  obtain ⟨fd_is_table, F_is_table, B_is_table⟩ := ok_is_table (P := P) (w := w) (base := base) T
  obtain ⟨fd_BadNumber_init, F_BadNumber_init, B_BadNumber_init⟩ := ok_BadNumber_init (P := P) (w := w) (base := base) T
  refine ⟨fd, F.ok sc_table_poly sp1_len (fun cdv A outer s H vs Q E hr h => ?_), F.bindsN fun _ _ _ _ _ _ us hl => match us, hl with | [_], _ => rfl, kb_of F 0 ["table"] [0] (fun _ _ _ _ _ _ us ws h1 h2 => match us, ws, h1, h2 with | [], [_], _, _ => rfl)⟩
  have hr_Poly_init : Room 4 _ := hr.mono (by decide)
  have hr_table_numbers : Room 4 _ := hr.mono (by decide)
  have hr_is_table : Room 3 _ := hr.mono (by decide)
  have hr_BadNumber_init : Room 2 _ := hr.mono (by decide)
  obtain ⟨v, rfl, rs, d, ⟨p, cs, rfl, hp, hla⟩, tb, k⟩ := sp1_is h
  refine ⟨_, (pss_cons (ps_if (PW.pt (pw_or (pt_not (pt_val (pe_call F_is_table hr_is_table (by rfl) T.g_is_table T.k_is_table B_is_table .nil passL (pa_cons (pv 0) pa_nil)))) (pw_or1 (pt_not (pt_chain op_le op_le pe_int (pe_callB (kx_lens rfl) (by rfl) T.b_len PySem.boot_len (pa_cons (pv 0) pa_nil)) (pe_gint rfl T.c_MOST_ROWS)))))) (pss_one (ps_raise rfl (takes_of rfl rfl rfl rfl) (pmk_oex T.e_BadNumber.o T.e_BadNumber.i T.e_BadNumber.t F_BadNumber_init hr_BadNumber_init B_BadNumber_init .nil passL rfl T.g_BadNumber (pa_cons pe_str pa_nil)))) pss_nil)
      (pss_one (ps_ret (pe_make T.mk_Poly F_Poly_init hr_Poly_init (by rfl) T.g_Poly B_Poly_init .nil passL (pa_cons (pe_call F_table_numbers hr_table_numbers (by rfl) T.g_table_numbers T.k_table_numbers B_table_numbers .nil passL (pa_cons (pv 0) pa_nil)) pa_nil))))), ?_⟩
  have lcs : cs.length = d := by rw [hla.1]; exact tb.len
  have d1 := tb.d1
  have d3 := tb.d3
  walk_at "rd"
  refine ⟨rs, d, ⟨p, cs, rfl, hp, hla⟩, tb, fun H1 e1 => ?_⟩
  refine ⟨_, rfl, ite_f rfl ?_⟩
  walk_at "rd"
  refine len_l (e1 _ _ hp) ?_
  rw [List.length_map, lcs]
  refine ⟨_, _, rfl, rfl, _, rfl, ?_⟩
  refine ite_t (decide_eq_true (by omega)) ?_
  walk_at "rd"
  refine ite_f (by simp; omega) ?_
  walk_at "rd"
  refine ⟨rs, d, ⟨p, cs, rfl, e1 _ _ hp, hla.ex e1⟩, tb, fun A H2 hA e2 h2 => ?_⟩
  walk_at "rd"
  refine r_Poly ⟨A, rfl, .inl h2⟩ ⟨by rw [tn_len]; omega, by rw [tn_len]; omega, by rw [tn_head]; decide⟩ fun q H3 hq e3 hpl => ?_
  exact k q H3 ((e1.trans e2).free hq) ((e1.trans e2).trans e3) hpl

end K36
namespace K36
open PySem PySem.Spec PyProof.Rows L2 GS TL
local macro_rules | `(tactic| walk_at "rd") => `(tactic| (repeat (first
  | with_reducible refine r_next ?_
  | with_reducible refine r_seq ?_
  | with_reducible refine r_ret ?_
  | with_reducible refine r_ifS ?_
  | with_reducible refine r_asg ?_
  | with_reducible refine r_drop ?_
  | with_reducible refine r_op ?_
  | with_reducible refine r_un ?_
  | with_reducible refine r_cbInt ?_
  | with_reducible refine r_cbAbs ?_
  | with_reducible refine r_cbLen ?_
  | with_reducible refine r_cbList ?_
  | with_reducible refine r_cbTup ?_
  | with_reducible refine r_iEnT ?_
  | with_reducible refine r_iEnL ?_
  | with_reducible refine r_zipA ?_
  | with_reducible refine r_zipX ?_
  | with_reducible refine r_augS ?_
  | with_reducible refine r_cb ?_
  | with_reducible refine r_call ?_
  | with_reducible refine r_make ?_
  | with_reducible refine r_callN0 ?_
  | with_reducible refine r_makeK0 ?_
  | with_reducible refine r_makeS ?_
  | with_reducible refine r_callS ?_
  | with_reducible refine r_cons ?_
  | with_reducible refine r_nil ?_
  | with_reducible refine r_test ?_
  | with_reducible refine r_B ?_
  | with_reducible refine r_and ?_
  | with_reducible refine r_or ?_
  | with_reducible refine r_not ?_
  | with_reducible refine r_andV ?_
  | with_reducible refine r_orV ?_
  | with_reducible refine r_notV ?_
  | with_reducible refine r_if ?_
  | with_reducible refine r_tup ?_
  | with_reducible refine r_lst ?_
  | with_reducible refine r_c ?_
  | with_reducible refine r_lc ?_
  | with_reducible refine r_chain ?_
  | with_reducible refine r_iT ?_
  | with_reducible refine r_iL ?_
  | with_reducible refine r_iR1 ?_
  | with_reducible refine r_iR2 ?_
  | with_reducible refine r_iR3 ?_
  | with_reducible refine r_asgG ?_
  | with_reducible refine r_gSub ?_
  | with_reducible refine r_for ?_
  | with_reducible refine r_smeth ?_
  | with_reducible refine r_par ?_
  | with_reducible refine r_parK ?_
  | with_reducible refine r_gCons ?_
  | with_reducible refine r_gNil ?_
  | with_reducible refine r_gName ?_
  | with_reducible refine r_intI ?_
  | with_reducible refine r_intB ?_
  | with_reducible refine r_absI ?_
  | with_reducible refine r_k ?_
  | with_reducible refine r_kV ?_
  | ((with_reducible show tVar _ _ _ _); refine r_var3 ?_ (by rfl))
  | with_reducible refine r_I0 ?_
  | with_reducible refine r_U ?_
  | with_reducible refine r_eqI ?_
  | with_reducible refine r_neI ?_
  | dsimp only)))
local macro_rules | `(tactic| walk_at "rx") => `(tactic| (repeat (first
  | with_reducible refine r_next ?_
  | with_reducible refine r_ret ?_
  | with_reducible refine r_ifS ?_
  | with_reducible refine r_asg ?_
  | with_reducible refine r_drop ?_
  | with_reducible refine r_op ?_
  | with_reducible refine r_un ?_
  | with_reducible refine r_cbInt ?_
  | with_reducible refine r_cbAbs ?_
  | with_reducible refine r_cbLen ?_
  | with_reducible refine r_cbList ?_
  | with_reducible refine r_cbTup ?_
  | with_reducible refine r_iEnT ?_
  | with_reducible refine r_iEnL ?_
  | with_reducible refine r_zipA ?_
  | with_reducible refine r_zipX ?_
  | with_reducible refine r_augS ?_
  | with_reducible refine r_cb ?_
  | with_reducible refine r_call ?_
  | with_reducible refine r_make ?_
  | with_reducible refine r_callN0 ?_
  | with_reducible refine r_makeK0 ?_
  | with_reducible refine r_makeS ?_
  | with_reducible refine r_callS ?_
  | with_reducible refine r_cons ?_
  | with_reducible refine r_nil ?_
  | with_reducible refine r_test ?_
  | with_reducible refine r_B ?_
  | with_reducible refine r_and ?_
  | with_reducible refine r_or ?_
  | with_reducible refine r_not ?_
  | with_reducible refine r_andV ?_
  | with_reducible refine r_orV ?_
  | with_reducible refine r_notV ?_
  | with_reducible refine r_if ?_
  | with_reducible refine r_tup ?_
  | with_reducible refine r_lst ?_
  | with_reducible refine r_c ?_
  | with_reducible refine r_lc ?_
  | with_reducible refine r_chain ?_
  | with_reducible refine r_iT ?_
  | with_reducible refine r_iL ?_
  | with_reducible refine r_iR1 ?_
  | with_reducible refine r_iR2 ?_
  | with_reducible refine r_iR3 ?_
  | with_reducible refine r_asgG ?_
  | with_reducible refine r_gSub ?_
  | with_reducible refine r_for ?_
  | with_reducible refine r_smeth ?_
  | with_reducible refine r_par ?_
  | with_reducible refine r_parK ?_
  | with_reducible refine r_gCons ?_
  | with_reducible refine r_gNil ?_
  | with_reducible refine r_gName ?_
  | with_reducible refine r_intI ?_
  | with_reducible refine r_intB ?_
  | with_reducible refine r_absI ?_
  | with_reducible refine r_k ?_
  | with_reducible refine r_kV ?_
  | ((with_reducible show tVar _ _ _ _); refine r_var3 ?_ (by rfl))
  | with_reducible refine r_I0 ?_
  | with_reducible refine r_U ?_
  | with_reducible refine r_eqI ?_
  | with_reducible refine r_neI ?_
  | dsimp only)))
theorem Z.of {n : Nat} {i j : Int} (h0 : 0 ≤ i) (h : i ≤ j) (hj : Z n j) : Z n i := by
  unfold Z at *
  omega
theorem Z.small {i : Int} (h : i.natAbs < 10000000000) : Z 34 i := Nat.lt_trans h (by decide)
theorem pow1018 : (10 : Int) ^ (18 : Int).toNat = 1000000000000000000 := rfl
theorem p10 (k : Nat) (h : k ≤ 100000) : CPowW 10 (k : Int) := cpow_of (n := 4) (k := k) (by decide) (by omega)
/-! ### the bag -/
def spBag (K : PySem.W.Frag) : Sp := sp1 fun v H Q _ => ∃ (L : Addr) (xs : List Int), v = .ref L ∧ SqL K H L (xs.map V.int) ∧ (∀ x ∈ xs, Z 2000000 x) ∧ ∀ b H', Ex H H' → H b = none → Bag H' b 0 → Q (.ref b) H'
theorem cut_map (xs : List Int) (n : Nat) : cutV (xs.map V.int) none (some (n : Int)) = (xs.take n).map V.int := by
  unfold cutV
  rw [HT.sIx_none, HT.sIx_nat, List.drop_zero, List.length_map, Nat.sub_zero, List.map_take]
  by_cases c : n ≤ xs.length
  · rw [Nat.min_eq_left c]
  · rw [Nat.min_eq_right (by omega), List.take_of_length_le (by simp), List.take_of_length_le (by simp; omega)]
theorem ok__law_crate {P : Program} {w : World} {K : PySem.W.Frag} {mg : Str → Option Value} {base : Heap} (T : Txt K mg) : ∃ fd, FnOk P w K mg base (L2.CX P w) 1 (He.ga K "_law_crate") fd ["script"] (spBag K) ∧ Binds K fd ["script"] [] := by
  obtain ⟨fd, F⟩ := T.d__law_crate
  refine ⟨fd, F.ok sc__law_crate sp1_len (fun cdv A outer s H vs Q E hr h => ?_), F.bindsN fun _ _ _ _ _ _ us hl => match us, hl with | [_], _ => rfl⟩
  obtain ⟨v, rfl, L, xs, rfl, hL, hz, k⟩ := sp1_is h
  refine ⟨_, (pss_one (ps_ret (pe_lst (pa_cons (pe_lc (own := [("cell", 1)]) (g := gName 1) (tt := tYes)  rfl sc__law_crate.nd (pi_list (pe_slice sl_list (pv 0) po_none (po_some pe_int))) (blkOk_by (own := [("cell", 1)]) (N := ["script", "cell"]) (sc := defScope s__law_crate) (by decide +kernel)) (fun _ _ _ _ _ => (pg_name (i := 1) sc__law_crate.nd rfl (Or.inl rfl))) (fun _ _ _ _ _ => pts_nil) (fun _ _ _ _ _ => (pe_callTy call_int1 (by rfl) T.b_int (by decide +kernel) (pa_cons (pv 1) pa_nil)))) (pa_cons pe_int (pa_cons pe_int pa_nil)))))), ?_⟩
  walk_at "rd"
  refine ⟨V.ref L, rfl, 63, rfl, L, _, rfl, hL, fun p hp => ⟨p, rfl, ⟨_, SqL.of upd_same⟩, ?_⟩⟩
  rw [show (63 : Int) = ((63 : Nat) : Int) from rfl, cut_map]
  have hn : (xs.take 63).length ≤ 63 := by rw [List.length_take]; omega
  have e0 : Ex H (upd H p (.lst ((xs.take 63).map V.int))) := Ex.new hp
  have h0 : (upd H p (.lst ((xs.take 63).map V.int))) p = some (.lst ((xs.take 63).map V.int)) := upd_same
  generalize upd H p (.lst ((xs.take 63).map V.int)) = H0 at e0 h0 ⊢
  generalize hy : xs.take 63 = ys at hn h0
  refine r_lcM (n := ys.length) (k := 1) (by simpa using walk_list (xs := ys.map V.int)) (fun j => .int (ys.getD j 0)) (by omega) (fun H' e => SqL.of (e _ _ h0)) (fun _ => rfl) ?_ ?_
  · rintro j y H1 H' hj e1 ⟨rfl, hy⟩
    refine ⟨Ex.refl _, fun H3 e3 R r => ?_⟩
    have : y = .int (ys.getD j 0) := by
      have := hy
      rw [List.getElem?_map] at this
      rw [List.getD_eq_getElem?_getD]
      cases q : ys[j]? with
      | none => rw [q] at this; cases this
      | some a => rw [q] at this; exact (Option.some.inj this).symm
    subst this
    walk_at "rd"
    exact r H3 (Ex.refl _)
  · intro q H2 hq e2 hl
    rw [range_map] at hl
    walk_at "rd"
    refine r_newL (sz_le (by simp)) fun b H3 hb e3 h3 => ?_
    have hbH : H b = none := (e0.trans e2).free hb
    refine k b H3 ((e0.trans e2).trans e3) hbH ⟨q, ys, 0, 0, h3, e3 _ _ hl, ?_, Int.le_refl _, Int.le_refl _, Int.le_refl _, (by omega), fun x hx => hz x ?_⟩
    · exact ne_of_none hl hb
    · rw [← hy] at hx
      exact List.mem_of_mem_take hx
theorem ok__law_lift {P : Program} {w : World} {K : PySem.W.Frag} {mg : Str → Option Value} {base : Heap} (T : Txt K mg) : ∃ fd, FnOk P w K mg base (L2.CX P w) 1 (He.ga K "_law_lift") fd ["crate", "many"] (spDrawG) ∧ Binds K fd ["crate", "many"] [] := by
  obtain ⟨fd, F⟩ := T.d__law_lift
  refine ⟨fd, F.ok sc__law_lift sp2_len (fun cdv A outer s H vs Q E hr h => ?_), F.bindsN fun _ _ _ _ _ _ us hl => match us, hl with | [_, _], _ => rfl⟩
  obtain ⟨b0, m0, rfl, b, m, n, rfl, rfl, m1, mz, hn, hbag, k⟩ := sp2_is h
  refine ⟨_, (pss_cons (ps_if (pt_cmpR op_gt (pe_ix (kx_ixl rfl) (pv 0) pe_int (fun _ _ => rfl)) pe_int (nomark _)) (pss_cons (ps_set (i := 2) sc__law_lift.nd rfl (Or.inl rfl) (pe_ix (kx_ixl rfl) (pv 0) pe_int (fun _ _ => rfl)))
      (pss_cons (ps_asg (pe_op op_fdivW (pe_callTy call_int1 (by rfl) T.b_int (by decide +kernel) (pa_cons (pv 2) pa_nil)) (pv 1)) (pg_sub (pv 0) pe_int set_list))
      (pss_one (ps_ret (pe_op op_mod (pe_callTy call_int1 (by rfl) T.b_int (by decide +kernel) (pa_cons (pv 2) pa_nil)) (pv 1)))))) pss_nil)
      (pss_cons (ps_set (i := 3) sc__law_lift.nd rfl (Or.inl rfl) (pe_ix (kx_ixl rfl) (pv 0) pe_int (fun _ _ => rfl)))
      (pss_cons (ps_asg (pe_op op_add (pv 3) pe_int) (pg_sub (pv 0) pe_int set_list))
      (pss_cons (ps_set (i := 4) sc__law_lift.nd rfl (Or.inl rfl) (pe_op op_add (pe_op op_mulB pe_int (pv 3)) pe_int))
      (pss_cons (ps_if (pt_cmpR (op_neD hr.units) (pe_ix (kx_ixl rfl) (pv 0) pe_int (fun _ _ => rfl)) (pe_lst pa_nil) (nomark _)) (pss_one (ps_set (i := 4) sc__law_lift.nd rfl (Or.inl rfl) (pe_ix (kx_ixl rfl) (pe_ix (kx_ixl rfl) (pv 0) pe_int (fun _ _ => rfl)) (pe_op op_mod (pe_callTy call_int1 (by rfl) T.b_int (by decide +kernel) (pa_cons (pv 3) pa_nil)) (pe_callB (kx_lens rfl) (by rfl) T.b_len PySem.boot_len (pa_cons (pe_ix (kx_ixl rfl) (pv 0) pe_int (fun _ _ => rfl)) pa_nil))) (fun _ _ => rfl)))) pss_nil)
      (pss_cons (ps_if (PW.pt (pw_and (pt_cmpR op_lt (pv 3) (pe_callB (kx_lens rfl) (by rfl) T.b_len PySem.boot_len (pa_cons (pe_ix (kx_ixl rfl) (pv 0) pe_int (fun _ _ => rfl)) pa_nil)) (nomark _)) (pw_and1 (pt_cmpR op_ge (pe_callB call_abs (by rfl) T.b_abs (by decide +kernel) (pa_cons (pv 4) pa_nil)) (pe_op op_powW pe_int pe_int) (nomark _))))) (pss_cons (ps_set (i := 2) sc__law_lift.nd rfl (Or.inl rfl) (pe_op op_add (pe_op op_mulB pe_int (pe_op op_sub (pe_callB call_abs (by rfl) T.b_abs (by decide +kernel) (pa_cons (pv 4) pa_nil)) (pe_op op_powW pe_int pe_int))) (pe_callTy call_int1 (by rfl) T.b_int (by decide +kernel) (pa_cons (pe_cmpR op_lt (pv 4) pe_int (nomark _)) pa_nil))))
      (pss_cons (ps_asg (pe_op op_fdivW (pe_callTy call_int1 (by rfl) T.b_int (by decide +kernel) (pa_cons (pv 2) pa_nil)) (pv 1)) (pg_sub (pv 0) pe_int set_list))
      (pss_one (ps_ret (pe_op op_mod (pe_callTy call_int1 (by rfl) T.b_int (by decide +kernel) (pa_cons (pv 2) pa_nil)) (pv 1)))))) pss_nil)
      (pss_cons (ps_set (i := 5) sc__law_lift.nd rfl (Or.inl rfl) (pe_op op_mod (pe_callTy call_int1 (by rfl) T.b_int (by decide +kernel) (pa_cons (pe_op op_powW (pe_op op_add (pe_op op_add (pe_op op_mod (pe_callTy call_int1 (by rfl) T.b_int (by decide +kernel) (pa_cons (pv 4) pa_nil)) pe_int) (pe_op op_mulB pe_int (pv 3))) pe_int) pe_int) pa_nil)) pe_int))
      (pss_cons (ps_set (i := 5) sc__law_lift.nd rfl (Or.inl rfl) (pe_op op_mod (pe_callTy call_int1 (by rfl) T.b_int (by decide +kernel) (pa_cons (pe_op op_powW (pe_op op_add (pe_op op_add (pe_op op_mulB (pv 5) (pe_op op_add (pe_op op_mulB pe_int (pv 3)) pe_int)) (pe_op op_mulB (pe_op op_mulB pe_int (pv 3)) (pv 3))) pe_int) pe_int) pa_nil)) pe_int))
      (pss_one (ps_ret (pe_op op_mod (pe_callTy call_int1 (by rfl) T.b_int (by decide +kernel) (pa_cons (pe_op op_fdivW (pv 5) pe_int) pa_nil)) (pv 1)))))))))))), ?_⟩
  obtain ⟨L, xs, a, l, hb, hL, hne, ha, han, hl, hx, hz⟩ := hbag.is
  have cd : ∀ i : Int, CDivW i m := fun i => wide_div m1 mz (by decide) (by decide)
  have fin : ∀ (H' : Hp) (x y r : Int), Bu b H H' → H' b = some (.lst [.ref L, .int y, .int x]) → 0 ≤ y → y ≤ n + 1 → 0 ≤ x → 0 ≤ r → r < m → Q (.int r) H' := fun H' x y r hbu hat y0 y1 x0 r0 r1 =>
    k r H' r0 r1 ⟨hbu, fun L' _ _ h => by rw [hb] at h; cases h; exact ⟨_, _, hat⟩⟩ ⟨L, xs, y, x, hat, hbu _ _ hne hL, hne, y0, y1, x0, hx, hz⟩
  have mn : ∀ i : Int, 0 ≤ i % m := fun i => Int.emod_nonneg _ (by omega)
  have ml : ∀ i : Int, i % m < m := fun i => Int.emod_lt_of_pos _ m1
  have dn : ∀ i : Int, 0 ≤ i → 0 ≤ i / m := fun i hi => Int.ediv_nonneg hi (by omega)
  walk_at "rd"
  refine r_ixL hb (v := .int l) rfl ?_
  walk_at "rd"
  by_cases c : 0 < l
  · refine ite_t (decide_eq_true c) ?_
    walk_at "rd"
    refine r_ixL hb (v := .int l) rfl ?_
    walk_at "rd"
    refine r_I (cd l) ?_
    walk_at "rd"
    refine r_setL hb (n := 2) rfl ?_
    walk_at "rd"
    refine r_I m1 ?_
    exact fin _ (l / m) a _ Bu.upd upd_same ha (by omega) (dn l hl) (mn l) (ml l)
  · refine ite_f (decide_eq_false c) ?_
    walk_at "rd"
    refine r_ixL hb (v := .int a) rfl ?_
    walk_at "rd"
    refine r_setL hb (n := 1) rfl ?_
    have za : Z 34 a := Z.small (by omega)
    have hL1 : ∀ o, (upd H b o) L = some (.lst (xs.map V.int)) := fun o => by rw [upd_ne hne]; exact hL
    have hB1 : Bu b H (upd H b (.lst ([V.ref L, .int a, .int l].set 1 (.int (a + 1))))) := Bu.upd
    have hb1 : (upd H b (.lst ([V.ref L, .int a, .int l].set 1 (.int (a + 1))))) b = some (.lst [.ref L, .int (a + 1), .int l]) := upd_same
    have hL1 := hB1 _ _ hne hL
    generalize upd H b _ = H1 at hB1 hb1 hL1 ⊢
    walk_at "rd"
    refine r_I (mulB_of (a := 34) (b := 34) (by decide) za (by decide) (by decide) (by decide)) ?_
    walk_at "rx"
    have z0 : Z 60 (60257 * a + 2939) := by
      unfold Z
      have : (2 : Nat) ^ 60 = 1152921504606846976 := rfl
      omega
    refine r_seqJ (fun σ' H' => ∃ cell, Z 2000000 cell ∧ Ex H1 H' ∧ σ' = [some (.ref b), some (.int m), none, some (.int a), some (.int cell), none]) (fun N hN => ?_) ?_
    · walk_at "rd"
      refine r_ixL hb1 (v := .ref L) rfl ?_
      walk_at "rd"
      refine r_newL (sz_le (by simp)) fun q H2 hq e2 h2 => ?_
      refine r_neInts (xs := xs) (ys := []) (e2 _ _ hL1) h2 ?_
      walk_at "rd"
      by_cases cx : xs = []
      · refine ite_f (by simp [cx]) ?_
        exact hN _ _ ⟨_, z0.mono (by decide), e2, rfl⟩
      · refine ite_t (by simp [cx]) ?_
        walk_at "rd"
        refine r_ixL (e2 _ _ hb1) (v := .ref L) rfl ?_
        walk_at "rd"
        refine r_ixL (e2 _ _ hb1) (v := .ref L) rfl ?_
        walk_at "rd"
        refine r_lenL (e2 _ _ hL1) ?_
        have hpos : 0 < xs.length := List.length_pos_iff.mpr cx
        rw [List.length_map]
        refine r_I (by omega) ?_
        obtain ⟨j, hj⟩ : ∃ j : Nat, a % (xs.length : Int) = (j : Int) := ⟨(a % (xs.length : Int)).toNat, by have := Int.emod_nonneg a (show (xs.length : Int) ≠ 0 by omega); omega⟩
        have hjl : j < xs.length := by have := Int.emod_lt_of_pos a (show (0 : Int) < xs.length by omega); omega
        rw [hj]
        refine r_ixL (e2 _ _ hL1) (v := .int xs[j]) (atI_nat (by rw [List.getElem?_map]; simp [hjl])) ?_
        walk_at "rd"
        exact hN _ _ ⟨xs[j], hz _ (List.getElem_mem hjl), e2, rfl⟩
    · rintro σ' H2 ⟨cell, zc, e2, rfl⟩
      have hb2 := e2 _ _ hb1
      have hL2 := e2 _ _ hL1
      have hB2 : Bu b H H2 := hB1.trans (Bu.of e2)
      refine r_seqJ (fun σ' H' => H' = H2 ∧ σ' = [some (.ref b), some (.int m), none, some (.int a), some (.int cell), none]) (fun N hN => ?_) ?_
      · walk_at "rd"
        refine r_ixL hb2 (v := .ref L) rfl ?_
        walk_at "rd"
        refine r_lenL hL2 ?_
        walk_at "rd"
        refine ite_b (fun _ => ?_) fun _ => ?_
        · walk_at "rd"
          refine r_pow (p10 18 (by decide)) pow1018 ?_
          walk_at "rd"
          refine ite_b (fun c2 => ?_) fun _ => ?_
          · have c3 : (1000000000000000000 : Int) ≤ (if cell < 0 then -cell else cell) := of_decide_eq_true c2
            have zd : Z 2000001 ((if cell < 0 then -cell else cell) - 1000000000000000000) := by
              refine Z.sub ?_ (Z.mono (n := 64) (by unfold Z; decide) (by decide))
              unfold Z at *
              split <;> omega
            walk_at "rd"
            refine r_pow (p10 18 (by decide)) pow1018 ?_
            walk_at "rd"
            refine r_I (mulB_of (i := 2) (a := 2) (by decide) zd (by decide) (by decide) (by decide)) ?_
            walk_at "rd"
            have hl2 : 0 ≤ 2 * ((if cell < 0 then -cell else cell) - 1000000000000000000) + (if decide (cell < 0) = true then 1 else 0) := by split <;> omega
            generalize 2 * ((if cell < 0 then -cell else cell) - 1000000000000000000) + (if decide (cell < 0) = true then 1 else 0) = t at hl2 ⊢
            refine r_I (cd t) ?_
            walk_at "rd"
            refine r_setL hb2 (n := 2) rfl ?_
            walk_at "rd"
            refine r_I m1 ?_
            exact fin _ (t / m) (a + 1) _ (hB2.trans Bu.upd) upd_same (by omega) (by omega) (dn t hl2) (mn t) (ml t)
          · exact hN _ _ ⟨rfl, rfl⟩
        · exact hN _ _ ⟨rfl, rfl⟩
      · rintro σ' H3 ⟨rfl, rfl⟩
        have pm : ∀ (i M : Int), 0 < M → M < 2147483648 → Z 34 (i % M) := fun i M h1 h2 => Z.small (by have := Int.emod_nonneg i (show M ≠ 0 by omega); have := Int.emod_lt_of_pos i h1; omega)
        walk_at "rd"
        refine r_I (by decide) ?_
        walk_at "rd"
        refine r_I (mulB_of (a := 34) (b := 34) (by decide) za (by decide) (by decide) (by decide)) ?_
        walk_at "rd"
        have z1 : Z 70 (cell % 2147483489 + 72089 * a + 2939) := by
          have := pm cell 2147483489 (by decide) (by decide)
          unfold Z at *
          have e1 : (2 : Nat) ^ 70 = 1180591620717411303424 := rfl
          have e2 : (2 : Nat) ^ 34 = 17179869184 := rfl
          omega
        refine r_I (cpow_of (n := 70) (k := 5) z1 (by decide)) ?_
        walk_at "rd"
        refine r_I (by decide) ?_
        walk_at "rd"
        refine r_I (mulB_of (a := 34) (b := 34) (by decide) za (by decide) (by decide) (by decide)) ?_
        walk_at "rd"
        generalize hx1 : (cell % 2147483489 + 72089 * a + 2939) ^ ((5 : Nat) : Int).toNat % 2147483497 = x1
        have zx1 : Z 34 x1 := by rw [← hx1]; exact pm _ _ (by decide) (by decide)
        have z2 : Z 40 (2 * a + 2861) := by
          unfold Z
          have e1 : (2 : Nat) ^ 40 = 1099511627776 := rfl
          omega
        refine r_I (mulB_of zx1 z2 (by decide) (by decide) (by decide)) ?_
        walk_at "rd"
        refine r_I (mulB_of (a := 34) (b := 34) (by decide) za (by decide) (by decide) (by decide)) ?_
        walk_at "rd"
        have z3 : Z 60 (60257 * a) := by
          unfold Z
          have : (2 : Nat) ^ 60 = 1152921504606846976 := rfl
          omega
        refine r_I (mulB_of z3 za (by decide) (by decide) (by decide)) ?_
        walk_at "rd"
        have z4 : Z 120 (x1 * (2 * a + 2861) + 60257 * a * a + 72089) := by
          refine (((zx1.mul z2).mono (m := 100) (by decide)).add ((z3.mul za).mono (m := 100) (by decide))).mono (m := 110) (by decide) |>.add (Z.mono (n := 34) (by unfold Z; decide) (by decide)) |>.mono (by decide)
        refine r_I (cpow_of (n := 120) (k := 3) z4 (by decide)) ?_
        walk_at "rd"
        refine r_I (by decide) ?_
        walk_at "rd"
        refine r_I (wide_div (b := 10) (by decide) (by decide) (by decide) (by decide)) ?_
        walk_at "rd"
        refine r_I m1 ?_
        exact fin _ l (a + 1) _ hB2 hb2 (by omega) (by omega) hl (mn _) (ml _)

end K36
namespace K36
open PySem PySem.Spec PyProof.Rows L2 GS TL
local macro_rules | `(tactic| walk_at "rd") => `(tactic| (repeat (first
  | with_reducible refine r_next ?_
  | with_reducible refine r_seq ?_
  | with_reducible refine r_ret ?_
  | with_reducible refine r_ifS ?_
  | with_reducible refine r_asg ?_
  | with_reducible refine r_drop ?_
  | with_reducible refine r_op ?_
  | with_reducible refine r_un ?_
  | with_reducible refine r_cbInt ?_
  | with_reducible refine r_cbAbs ?_
  | with_reducible refine r_cbLen ?_
  | with_reducible refine r_cbList ?_
  | with_reducible refine r_cbTup ?_
  | with_reducible refine r_iEnT ?_
  | with_reducible refine r_iEnL ?_
  | with_reducible refine r_zipA ?_
  | with_reducible refine r_zipX ?_
  | with_reducible refine r_augS ?_
  | with_reducible refine r_cb ?_
  | with_reducible refine r_call ?_
  | with_reducible refine r_make ?_
  | with_reducible refine r_callN0 ?_
  | with_reducible refine r_makeK0 ?_
  | with_reducible refine r_makeS ?_
  | with_reducible refine r_callS ?_
  | with_reducible refine r_cons ?_
  | with_reducible refine r_nil ?_
  | with_reducible refine r_test ?_
  | with_reducible refine r_B ?_
  | with_reducible refine r_and ?_
  | with_reducible refine r_or ?_
  | with_reducible refine r_not ?_
  | with_reducible refine r_andV ?_
  | with_reducible refine r_orV ?_
  | with_reducible refine r_notV ?_
  | with_reducible refine r_if ?_
  | with_reducible refine r_tup ?_
  | with_reducible refine r_lst ?_
  | with_reducible refine r_c ?_
  | with_reducible refine r_lc ?_
  | with_reducible refine r_chain ?_
  | with_reducible refine r_iT ?_
  | with_reducible refine r_iL ?_
  | with_reducible refine r_iR1 ?_
  | with_reducible refine r_iR2 ?_
  | with_reducible refine r_iR3 ?_
  | with_reducible refine r_asgG ?_
  | with_reducible refine r_gSub ?_
  | with_reducible refine r_for ?_
  | with_reducible refine r_smeth ?_
  | with_reducible refine r_par ?_
  | with_reducible refine r_parK ?_
  | with_reducible refine r_gCons ?_
  | with_reducible refine r_gNil ?_
  | with_reducible refine r_gName ?_
  | with_reducible refine r_intI ?_
  | with_reducible refine r_intB ?_
  | with_reducible refine r_absI ?_
  | with_reducible refine r_k ?_
  | with_reducible refine r_kV ?_
  | ((with_reducible show tVar _ _ _ _); refine r_var3 ?_ (by rfl))
  | with_reducible refine r_I0 ?_
  | with_reducible refine r_U ?_
  | with_reducible refine r_eqI ?_
  | with_reducible refine r_neI ?_
  | with_reducible refine r_F ?_
  | dsimp only)))
local macro_rules | `(tactic| walk_at "rx") => `(tactic| (repeat (first
  | with_reducible refine r_next ?_
  | with_reducible refine r_ret ?_
  | with_reducible refine r_ifS ?_
  | with_reducible refine r_asg ?_
  | with_reducible refine r_drop ?_
  | with_reducible refine r_op ?_
  | with_reducible refine r_un ?_
  | with_reducible refine r_cbInt ?_
  | with_reducible refine r_cbAbs ?_
  | with_reducible refine r_cbLen ?_
  | with_reducible refine r_cbList ?_
  | with_reducible refine r_cbTup ?_
  | with_reducible refine r_iEnT ?_
  | with_reducible refine r_iEnL ?_
  | with_reducible refine r_zipA ?_
  | with_reducible refine r_zipX ?_
  | with_reducible refine r_augS ?_
  | with_reducible refine r_cb ?_
  | with_reducible refine r_call ?_
  | with_reducible refine r_make ?_
  | with_reducible refine r_callN0 ?_
  | with_reducible refine r_makeK0 ?_
  | with_reducible refine r_makeS ?_
  | with_reducible refine r_callS ?_
  | with_reducible refine r_cons ?_
  | with_reducible refine r_nil ?_
  | with_reducible refine r_test ?_
  | with_reducible refine r_B ?_
  | with_reducible refine r_and ?_
  | with_reducible refine r_or ?_
  | with_reducible refine r_not ?_
  | with_reducible refine r_andV ?_
  | with_reducible refine r_orV ?_
  | with_reducible refine r_notV ?_
  | with_reducible refine r_if ?_
  | with_reducible refine r_tup ?_
  | with_reducible refine r_lst ?_
  | with_reducible refine r_c ?_
  | with_reducible refine r_lc ?_
  | with_reducible refine r_chain ?_
  | with_reducible refine r_iT ?_
  | with_reducible refine r_iL ?_
  | with_reducible refine r_iR1 ?_
  | with_reducible refine r_iR2 ?_
  | with_reducible refine r_iR3 ?_
  | with_reducible refine r_asgG ?_
  | with_reducible refine r_gSub ?_
  | with_reducible refine r_for ?_
  | with_reducible refine r_smeth ?_
  | with_reducible refine r_par ?_
  | with_reducible refine r_parK ?_
  | with_reducible refine r_gCons ?_
  | with_reducible refine r_gNil ?_
  | with_reducible refine r_gName ?_
  | with_reducible refine r_intI ?_
  | with_reducible refine r_intB ?_
  | with_reducible refine r_absI ?_
  | with_reducible refine r_k ?_
  | with_reducible refine r_kV ?_
  | ((with_reducible show tVar _ _ _ _); refine r_var3 ?_ (by rfl))
  | with_reducible refine r_I0 ?_
  | with_reducible refine r_U ?_
  | with_reducible refine r_eqI ?_
  | with_reducible refine r_neI ?_
  | with_reducible refine r_F ?_
  | dsimp only)))
/-! ### what is drawn -/
def spPick : Sp := sp2 fun b l H Q _ => ∃ (p : Addr) (n : Int) (L : Addr) (xs : List V), b = .ref p ∧ l = .ref L ∧ H L = some (.lst xs) ∧ L ≠ p ∧ xs ≠ [] ∧ xs.length ≤ 1000 ∧ n ≤ 100000 ∧ Bag H p n ∧ ∀ v H', v ∈ xs → Bg p H H' → Bag H' p (n + 1) → Q v H'
theorem ok__law_choose {P : Program} {w : World} {K : PySem.W.Frag} {mg : Str → Option Value} {base : Heap} (T : Txt K mg) : ∃ fd, FnOk P w K mg base (L2.CX P w) 2 (He.ga K "_law_choose") fd ["crate", "some"] (spPick) ∧ Binds K fd ["crate", "some"] [] := by
  obtain ⟨fd, F⟩ := T.d__law_choose
  obtain ⟨fd__law_lift, F__law_lift, B__law_lift⟩ := ok__law_lift (P := P) (w := w) (base := base) T
  refine ⟨fd, F.ok sc__law_choose sp2_len (fun cdv A outer s H vs Q E hr h => ?_), F.bindsN fun _ _ _ _ _ _ us hl => match us, hl with | [_, _], _ => rfl⟩
  have hr__law_lift : Room 1 _ := hr.mono (by decide)
  obtain ⟨b0, l0, rfl, p, n, L, xs, rfl, rfl, hL, hne, hx, hl, hn, hb, k⟩ := sp2_is h
  refine ⟨_, (pss_one (ps_ret (pe_ix (kx_ixl rfl) (pv 1) (pe_call F__law_lift hr__law_lift (by rfl) T.g__law_lift T.k__law_lift B__law_lift .nil passL (pa_cons (pv 0) (pa_cons (pe_callB (kx_lens rfl) (by rfl) T.b_len PySem.boot_len (pa_cons (pv 1) pa_nil)) pa_nil))) (fun _ _ => rfl)))), ?_⟩
  walk_at "rd"
  refine r_lenL hL ?_
  walk_at "rd"
  have h0 : 0 < xs.length := List.length_pos_iff.mpr hx
  refine r_DrawG hb hn (by omega) (Z.mono (n := 34) (Z.small (by omega)) (by decide)) fun r H' r0 r1 bu hb' => ?_
  walk_at "rd"
  have hj : r.toNat < xs.length := by omega
  have er : r = (r.toNat : Int) := by omega
  rw [er]
  refine r_ixL (bu.at_ hne hL) (v := xs[r.toNat]) (atI_nat (by simp [hj])) ?_
  exact k _ H' (List.getElem_mem hj) bu hb'
/-- one of a list that was just laid -/
theorem r_One {H H0 : Hp} {Q : VK} {E : XK} {p L : Addr} {n : Int} {xs : List V} (hb : Bag H p n) (hL : H L = some (.lst xs)) (no : ∀ l x y, HO.lst xs ≠ .lst [.ref l, .int x, .int y]) (hx : xs ≠ []) (hl : xs.length ≤ 1000) (hn : n ≤ 100000) (k : ∀ v H', v ∈ xs → Bg p H H' → Bag H' p (n + 1) → Q v H') : spPick ([.ref p, .ref L] ++ []) H Q E :=
  ⟨p, n, L, xs, rfl, rfl, hL, hb.ne hL no, hx, hl, hn, hb, k⟩
theorem zsm {i : Int} (h : i.natAbs < 10000000000) : Z 1000 i := Z.mono (n := 34) (Z.small h) (by decide)
theorem Bg.free {p D : Addr} {H H' : Hp} {n : Int} (g : Bg p H H') (hb : Bag H p n) (hD : H' D = none) : H D = none := by
  cases e : H D with
  | none => rfl
  | some o =>
    have np : D ≠ p := by
      rintro rfl
      obtain ⟨L, xs, x, y, h1, _⟩ := hb.is
      obtain ⟨x', y', h'⟩ := g.2 L _ _ h1
      rw [hD] at h'
      cases h'
    rw [g.at_ np e] at hD
    cases hD
/-! ### the law's own sums -/
theorem gl_cons (n : Int) (ns : List Int) (h : 0 < n) : GM.gl (n :: ns) = GM.glF n ns := by
  unfold GM.gl GM.glF
  rw [List.foldl_cons]
  congr 1
  show ((Nat.gcd (0 : Int).natAbs n.natAbs : Nat) : Int) = n
  rw [show (0 : Int).natAbs = 0 from rfl, Nat.gcd_zero_left]
  omega
theorem r_whileI {tt : TT} {tb : TS} {D : Ends} {σ : L2.St} {H : Hp} (W : Nat → L2.St → Hp → Prop) (m0 : Nat) (h0 : W m0 σ H) (h : ∀ m σ H, W m σ H → tt σ H fun b H1 => if b = true then ∃ N : L2.St → Hp → Prop, (∀ σ' H', N σ' H' → ∃ m', m' < m ∧ W m' σ' H') ∧ tb { D with nx := N, ct := N, bk := D.nx } σ H1 else D.nx σ H1) : tWhile tt tb D σ H := ⟨W, ⟨m0, h0⟩, h⟩
def spLowest (K : PySem.W.Frag) : Sp := sp1 fun v H Q _ => ∃ (a : Addr) (ns : List Int), v = .ref a ∧ H a = some (.lst (ns.map V.int)) ∧ ns.length ≤ 100 ∧ 0 < ns.headD 0 ∧ (∀ c ∈ ns, Z 6000 c) ∧ ∀ t H', Ex H H' → H' t = some (.tup ((GM.low ns).map V.int)) → Q (.ref t) H'
theorem cut_tail (n : Int) (r : List Int) : cutV ((n :: r).map V.int) (some 1) none = r.map V.int := by
  unfold cutV
  rw [show (1 : Int) = ((1 : Nat) : Int) from rfl, HT.sIx_nat, HT.sIx_none]
  simp
  rw [← List.map_take, List.take_length]
theorem ok__law_lowest {P : Program} {w : World} {K : PySem.W.Frag} {mg : Str → Option Value} {base : Heap} (T : Txt K mg) : ∃ fd, FnOk P w K mg base (L2.CX P w) 1 (He.ga K "_law_lowest") fd ["numbers"] (spLowest K) ∧ Binds K fd ["numbers"] [] := by
  obtain ⟨fd, F⟩ := T.d__law_lowest
  refine ⟨fd, F.ok sc__law_lowest sp1_len (fun cdv A outer s H vs Q E hr h => ?_), F.bindsN fun _ _ _ _ _ _ us hl => match us, hl with | [_], _ => rfl⟩
  obtain ⟨v, rfl, a, ns, rfl, ha, hl, hp, hz, k⟩ := sp1_is h
  refine ⟨_, (pss_cons (ps_set (i := 1) sc__law_lowest.nd rfl (Or.inr rfl) (pe_ix (kx_ixl rfl) (pv 0) pe_int (fun _ _ => rfl)))
      (pss_cons (ps_for (passes_of rfl) rfl (pi_list (pe_slice sl_list (pv 0) (po_some pe_int) po_none)) (pg_name (i := 2) sc__law_lowest.nd rfl (Or.inl rfl)) (pss_cons (ps_set (i := 3) sc__law_lowest.nd rfl (Or.inl rfl) (pe_callB call_abs (by rfl) T.b_abs (by decide +kernel) (pa_cons (pv 2) pa_nil)))
      (pss_one (ps_while (passes_of rfl) (pt_cmpR op_gt (pv 3) pe_int (nomark _)) (pss_one (ps_asg (pe_tup (pa_cons (pv 3) (pa_cons (pe_op op_mod (pe_callTy call_int1 (by rfl) T.b_int (by decide +kernel) (pa_cons (pv 1) pa_nil)) (pv 3)) pa_nil))) (pg_tup rfl (pgs_cons (pg_name (i := 1) sc__law_lowest.nd rfl (Or.inr rfl)) (pgs_cons (pg_name (i := 3) sc__law_lowest.nd rfl (Or.inl rfl)) pgs_nil)))))))))
      (pss_one (ps_ret (pe_callTy (kx_tupOf (K := K) rfl) (by rfl) T.b_tuple (by decide +kernel) (pa_cons (pe_lc (own := [("number", 2)]) (g := gName 2) (tt := tYes)  rfl sc__law_lowest.nd (pi_list (pv 0)) (blkOk_by (own := [("number", 2)]) (N := ["numbers", "by", "number", "rest"]) (sc := defScope s__law_lowest) (by decide +kernel)) (fun _ _ _ _ _ => (pg_name (i := 2) sc__law_lowest.nd rfl (Or.inl rfl))) (fun _ _ _ _ _ => pts_nil) (fun _ _ _ _ _ => (pe_op op_fdivW (pv 2) (pv 1)))) pa_nil)))))), ?_⟩
  obtain ⟨n0, r, rfl⟩ : ∃ n0 r, ns = n0 :: r := by
    cases ns with
    | nil => exact absurd hp (by decide)
    | cons n r => exact ⟨n, r, rfl⟩
  have hp : 0 < n0 := hp
  walk_at "rd"
  refine r_ixL ha (v := .int n0) (atI_nat (j := 0) rfl) ?_
  walk_at "rd"
  refine r_sl ?_
  walk_at "rd"
  refine r_part ?_
  walk_at "rd"
  refine ⟨1, rfl, r_noPart ?_⟩
  refine ⟨a, _, rfl, SqL.of ha, fun B hB => ?_⟩
  rw [cut_tail]
  have e1 : Ex H (upd H B (.lst (r.map V.int))) := Ex.new hB
  have h1 : (upd H B (.lst (r.map V.int))) B = some (.lst (r.map V.int)) := upd_same
  generalize upd H B (.lst (r.map V.int)) = H1 at e1 h1 ⊢
  walk_at "rd"
  refine ⟨B, rfl, ⟨_, SqL.of h1⟩, ?_⟩
  have pos : ∀ i, 0 < GM.glF n0 (r.take i) := fun i => by
    rw [← gl_cons n0 _ hp]
    exact GM.gl_pos hp
  have zs : ∀ i, Z 6000 (GM.glF n0 (r.take i)) := fun i => by
    rw [← gl_cons n0 _ hp]
    exact gl_z (ns := n0 :: r.take i) hp fun c hc => hz c (by
      rcases List.mem_cons.mp hc with rfl | hc
      · exact List.mem_cons_self
      · exact List.mem_cons_of_mem _ (List.mem_of_mem_take hc))
  refine for_lI (ns := r) (fun i σ H' => Ex H1 H' ∧ ∃ s2 s3, σ = [some (.ref a), some (.int (GM.glF n0 (r.take i))), s2, s3]) ⟨Ex.refl _, _, _, rfl⟩ (fun i σ H' _ p => p.1 _ _ h1) ?_ ?_
  · rintro i c σ H2 hi ⟨e2, s2, s3, rfl⟩
    have hc : c ∈ n0 :: r := List.mem_cons_of_mem _ (List.mem_of_getElem? hi)
    walk_at "rd"
    have nx : GM.glF n0 (r.take (i + 1)) = ((Nat.gcd (GM.glF n0 (r.take i)).natAbs c.natAbs : Nat) : Int) := foldl_take _ _ _ hi
    refine r_whileI (fun m σ' H' => Ex H1 H' ∧ ∃ x y : Int, 0 < x ∧ 0 ≤ y ∧ y.toNat ≤ m ∧ Z 6000 x ∧ Z 6000 y ∧ ((Nat.gcd x.natAbs y.natAbs : Nat) : Int) = GM.glF n0 (r.take (i + 1)) ∧ ∃ s2, σ' = [some (.ref a), some (.int x), s2, some (.int y)]) c.natAbs ?_ ?_
    · refine ⟨e2, _, _, pos i, ?_, ?_, zs i, ?_, ?_, _, rfl⟩
      · split <;> omega
      · split <;> omega
      · have := hz c hc
        unfold Z at *
        split <;> omega
      · rw [nx]
        congr 2
        split <;> omega
    · rintro m σ' H3 ⟨e3, x, y, x0, y0, ym, zx, zy, hg, s2', rfl⟩
      walk_at "rd"
      by_cases c0 : 0 < y
      · refine ite_t (decide_eq_true c0) ?_
        refine ⟨fun σ' H' => Ex H1 H' ∧ ∃ s2, σ' = [some (.ref a), some (.int y), s2, some (.int (x % y))], ?_, ?_⟩
        · rintro σ'' H4 ⟨e4, s2'', rfl⟩
          have a1 := Int.emod_nonneg x (show y ≠ 0 by omega)
          have a2 := Int.emod_lt_of_pos x c0
          refine ⟨(x % y).toNat, by omega, e4, y, x % y, c0, a1, Nat.le_refl _, zy, ?_, ?_, _, rfl⟩
          · unfold Z at *
            omega
          · rw [← hg, Nat.gcd_comm y.natAbs]
            have e : (x % y).natAbs = x.natAbs % y.natAbs := by
              rw [Int.natAbs_emod_of_nonneg (by omega)]
            rw [e, ← Nat.gcd_rec, Nat.gcd_comm]
        · walk_at "rd"
          refine r_I c0 ?_
          walk_at "rd"
          refine r_newT (sz_le (by simp)) fun t H4 _ e4 h4 => ?_
          refine r_gTup h4 rfl (r_gCons (r_gName (r_gCons (r_gName (r_gNil ?_)))))
          exact ⟨e3.trans e4, _, rfl⟩
      · refine ite_f (decide_eq_false c0) ?_
        obtain rfl : y = 0 := by omega
        refine ⟨e3, s2', some (.int 0), ?_⟩
        rw [← hg]
        have : ((Nat.gcd x.natAbs (0 : Int).natAbs : Nat) : Int) = x := by
          rw [show (0 : Int).natAbs = 0 from rfl, Nat.gcd_zero_right]
          omega
        rw [this]
  · rintro σ H2 ⟨e2, s2, s3, rfl⟩
    rw [List.take_length, ← gl_cons n0 r hp]
    walk_at "rd"
    have ha2 := e2 _ _ (e1 _ _ ha)
    refine ⟨a, rfl, ⟨_, SqL.of ha2⟩, ?_⟩
    refine r_lcZ (n := (n0 :: r).length) (by have w' := walk_list (K := K) (a := a) (xs := (n0 :: r).map V.int); rw [List.length_map] at w'; exact w') (GM.low (n0 :: r)) (GM.low_len _) (by omega) (fun H' e => SqL.of (e _ _ ha2)) ?_ ?_
    · rintro i x H3 H4 hi e3 ⟨rfl, g1⟩ N hN
      obtain ⟨n1, hn1, rfl⟩ := int_at (ns := n0 :: r) g1
      refine r_gName ⟨rfl, ?_⟩
      walk_at "rd"
      refine r_I ⟨GM.gl_pos hp, Nat.lt_trans (lg_lt (gl_z (ns := n0 :: r) hp hz) (by decide)) (by decide)⟩ ?_
      have e : (GM.low (n0 :: r)).getD i 0 = n1 / GM.gl (n0 :: r) := by
        rw [List.getD_eq_getElem?_getD, GM.low, List.getElem?_map, hn1]
        rfl
      rw [← e]
      exact hN _ (Ex.refl _)
    · intro D H3 hD e3 h3
      walk_at "rd"
      exact r_tupL (SqL.of h3) fun t H4 _ e4 h4 => k t H4 (e1.trans (e2.trans (e3.trans e4))) h4

end K36
namespace K36
open PySem PySem.Spec PyProof.Rows L2 GS TL
local macro_rules | `(tactic| walk_at "rd") => `(tactic| (repeat (first
  | with_reducible refine r_next ?_
  | with_reducible refine r_seq ?_
  | with_reducible refine r_ret ?_
  | with_reducible refine r_ifS ?_
  | with_reducible refine r_asg ?_
  | with_reducible refine r_drop ?_
  | with_reducible refine r_op ?_
  | with_reducible refine r_un ?_
  | with_reducible refine r_cbInt ?_
  | with_reducible refine r_cbAbs ?_
  | with_reducible refine r_cbLen ?_
  | with_reducible refine r_cbList ?_
  | with_reducible refine r_cbTup ?_
  | with_reducible refine r_iEnT ?_
  | with_reducible refine r_iEnL ?_
  | with_reducible refine r_zipA ?_
  | with_reducible refine r_zipX ?_
  | with_reducible refine r_augS ?_
  | with_reducible refine r_cb ?_
  | with_reducible refine r_call ?_
  | with_reducible refine r_make ?_
  | with_reducible refine r_callN0 ?_
  | with_reducible refine r_makeK0 ?_
  | with_reducible refine r_makeS ?_
  | with_reducible refine r_callS ?_
  | with_reducible refine r_cons ?_
  | with_reducible refine r_nil ?_
  | with_reducible refine r_test ?_
  | with_reducible refine r_B ?_
  | with_reducible refine r_and ?_
  | with_reducible refine r_or ?_
  | with_reducible refine r_not ?_
  | with_reducible refine r_andV ?_
  | with_reducible refine r_orV ?_
  | with_reducible refine r_notV ?_
  | with_reducible refine r_if ?_
  | with_reducible refine r_tup ?_
  | with_reducible refine r_lst ?_
  | with_reducible refine r_c ?_
  | with_reducible refine r_lc ?_
  | with_reducible refine r_chain ?_
  | with_reducible refine r_iT ?_
  | with_reducible refine r_iL ?_
  | with_reducible refine r_iR1 ?_
  | with_reducible refine r_iR2 ?_
  | with_reducible refine r_iR3 ?_
  | with_reducible refine r_asgG ?_
  | with_reducible refine r_gSub ?_
  | with_reducible refine r_for ?_
  | with_reducible refine r_smeth ?_
  | with_reducible refine r_par ?_
  | with_reducible refine r_parK ?_
  | with_reducible refine r_gCons ?_
  | with_reducible refine r_gNil ?_
  | with_reducible refine r_gName ?_
  | with_reducible refine r_intI ?_
  | with_reducible refine r_intB ?_
  | with_reducible refine r_absI ?_
  | with_reducible refine r_k ?_
  | with_reducible refine r_kV ?_
  | ((with_reducible show tVar _ _ _ _); refine r_var3 ?_ (by rfl))
  | with_reducible refine r_I0 ?_
  | with_reducible refine r_U ?_
  | with_reducible refine r_eqI ?_
  | with_reducible refine r_neI ?_
  | with_reducible refine r_F ?_
  | dsimp only)))
local macro_rules | `(tactic| walk_at "rx") => `(tactic| (repeat (first
  | with_reducible refine r_next ?_
  | with_reducible refine r_ret ?_
  | with_reducible refine r_ifS ?_
  | with_reducible refine r_asg ?_
  | with_reducible refine r_drop ?_
  | with_reducible refine r_op ?_
  | with_reducible refine r_un ?_
  | with_reducible refine r_cbInt ?_
  | with_reducible refine r_cbAbs ?_
  | with_reducible refine r_cbLen ?_
  | with_reducible refine r_cbList ?_
  | with_reducible refine r_cbTup ?_
  | with_reducible refine r_iEnT ?_
  | with_reducible refine r_iEnL ?_
  | with_reducible refine r_zipA ?_
  | with_reducible refine r_zipX ?_
  | with_reducible refine r_augS ?_
  | with_reducible refine r_cb ?_
  | with_reducible refine r_call ?_
  | with_reducible refine r_make ?_
  | with_reducible refine r_callN0 ?_
  | with_reducible refine r_makeK0 ?_
  | with_reducible refine r_makeS ?_
  | with_reducible refine r_callS ?_
  | with_reducible refine r_cons ?_
  | with_reducible refine r_nil ?_
  | with_reducible refine r_test ?_
  | with_reducible refine r_B ?_
  | with_reducible refine r_and ?_
  | with_reducible refine r_or ?_
  | with_reducible refine r_not ?_
  | with_reducible refine r_andV ?_
  | with_reducible refine r_orV ?_
  | with_reducible refine r_notV ?_
  | with_reducible refine r_if ?_
  | with_reducible refine r_tup ?_
  | with_reducible refine r_lst ?_
  | with_reducible refine r_c ?_
  | with_reducible refine r_lc ?_
  | with_reducible refine r_chain ?_
  | with_reducible refine r_iT ?_
  | with_reducible refine r_iL ?_
  | with_reducible refine r_iR1 ?_
  | with_reducible refine r_iR2 ?_
  | with_reducible refine r_iR3 ?_
  | with_reducible refine r_asgG ?_
  | with_reducible refine r_gSub ?_
  | with_reducible refine r_for ?_
  | with_reducible refine r_smeth ?_
  | with_reducible refine r_par ?_
  | with_reducible refine r_parK ?_
  | with_reducible refine r_gCons ?_
  | with_reducible refine r_gNil ?_
  | with_reducible refine r_gName ?_
  | with_reducible refine r_intI ?_
  | with_reducible refine r_intB ?_
  | with_reducible refine r_absI ?_
  | with_reducible refine r_k ?_
  | with_reducible refine r_kV ?_
  | ((with_reducible show tVar _ _ _ _); refine r_var3 ?_ (by rfl))
  | with_reducible refine r_I0 ?_
  | with_reducible refine r_U ?_
  | with_reducible refine r_eqI ?_
  | with_reducible refine r_neI ?_
  | with_reducible refine r_F ?_
  | dsimp only)))
/-! ### tables drawn -/
def far12 : Int := 1000000000000
theorem far12_is : far12 = 1000000000000 := rfl
theorem far12_z {m : Int} (h0 : 0 ≤ m) (h : m ≤ 2 * far12 + 1) : Z 1000 m := by
  refine Z.mono (n := 50) ?_ (by decide)
  unfold Z
  have : (2 : Nat) ^ 50 = 1125899906842624 := rfl
  have := far12_is
  omega
def spEntry : Sp := sp2 fun b f H Q _ => ∃ (p : Addr) (n : Int) (far : Int), b = .ref p ∧ f = .int far ∧ 1 ≤ far ∧ far ≤ far12 ∧ n ≤ 90000 ∧ Bag H p n ∧ ∀ r H', -far ≤ r → r ≤ far → Bg p H H' → Bag H' p (n + 1) → Q (.int r) H'
theorem ok__law_entry {P : Program} {w : World} {K : PySem.W.Frag} {mg : Str → Option Value} {base : Heap} (T : Txt K mg) : ∃ fd, FnOk P w K mg base (L2.CX P w) 2 (He.ga K "_law_entry") fd ["crate", "far"] (spEntry) ∧ Binds K fd ["crate", "far"] [] := by
  obtain ⟨fd, F⟩ := T.d__law_entry
  obtain ⟨fd__law_lift, F__law_lift, B__law_lift⟩ := ok__law_lift (P := P) (w := w) (base := base) T
  refine ⟨fd, F.ok sc__law_entry sp2_len (fun cdv A outer s H vs Q E hr h => ?_), F.bindsN fun _ _ _ _ _ _ us hl => match us, hl with | [_, _], _ => rfl⟩
  have hr__law_lift : Room 1 _ := hr.mono (by decide)
  obtain ⟨b0, f0, rfl, p, n, far, rfl, rfl, f0, f1, hn, hb, k⟩ := sp2_is h
  refine ⟨_, (pss_one (ps_ret (pe_op op_sub (pe_call F__law_lift hr__law_lift (by rfl) T.g__law_lift T.k__law_lift B__law_lift .nil passL (pa_cons (pv 0) (pa_cons (pe_op op_add (pe_op op_mulW pe_int (pv 1)) pe_int) pa_nil))) (pv 1)))), ?_⟩
  walk_at "rd"
  have f12 := far12_is
  refine r_I (mulOk (n := 100) (m := 100) (by unfold Z; decide) (by unfold Z; have : (2 : Nat) ^ 100 = 1267650600228229401496703205376 := rfl; omega) (by decide) (by decide) (by decide)) ?_
  walk_at "rd"
  refine r_DrawG hb (by omega) (by omega) (far12_z (by omega) (by omega)) fun r H' r0 r1 g b => ?_
  walk_at "rd"
  exact k _ _ (by omega) (by omega) g b
/-- d rows of d numbers, the same at i, j and j, i -/
structure Sy (rs : List (List Int)) (d : Nat) : Prop where
  len : rs.length = d
  row : ∀ r ∈ rs, r.length = d
  sym : ∀ i j, i < d → j < d → en rs i j = en rs j i
  b : ∀ i j, i < d → j < d → -far12 ≤ en rs i j ∧ en rs i j ≤ far12
def put (rs : List (List Int)) (i j : Nat) (n : Int) : List (List Int) := rs.set i ((rs.getD i []).set j n)
structure Rw (rs : List (List Int)) (d : Nat) : Prop where
  len : rs.length = d
  row : ∀ r ∈ rs, r.length = d
theorem Rw.at {rs : List (List Int)} {d : Nat} (t : Rw rs d) {i : Nat} (hi : i < d) : ∃ r, rs[i]? = some r ∧ rs.getD i [] = r ∧ r.length = d := by
  have hl : i < rs.length := by rw [t.len]; exact hi
  exact ⟨rs[i], by simp [hl], by simp [hl], t.row _ (List.getElem_mem hl)⟩
theorem Rw.put {rs : List (List Int)} {d i j : Nat} {n : Int} (t : Rw rs d) (hi : i < d) : Rw (put rs i j n) d := by
  obtain ⟨r, hr, er, lr⟩ := t.at hi
  refine ⟨by simp [K36.put, t.len], fun q hq => ?_⟩
  rcases List.mem_or_eq_of_mem_set hq with z | z
  · exact t.row q z
  · rw [z, List.length_set, er, lr]
theorem en_put {rs : List (List Int)} {d i j a b : Nat} {n : Int} (t : Rw rs d) (hi : i < d) (hj : j < d) : en (put rs i j n) a b = if a = i ∧ b = j then n else en rs a b := by
  obtain ⟨r, hr, er, lr⟩ := t.at hi
  have hl : i < rs.length := by rw [t.len]; exact hi
  unfold en put
  rw [er]
  by_cases c : a = i
  · subst c
    rw [show (rs.set a (r.set j n)).getD a [] = r.set j n by simp [List.getD_eq_getElem?_getD, hl], er]
    by_cases c2 : b = j
    · subst c2
      rw [if_pos ⟨rfl, rfl⟩]
      simp [List.getD_eq_getElem?_getD, lr, hj]
    · rw [if_neg (fun z => c2 z.2), List.getD_eq_getElem?_getD, List.getElem?_set_ne (fun z => c2 z.symm), List.getD_eq_getElem?_getD]
  · rw [if_neg (fun z => c z.1)]
    congr 1
    rw [List.getD_eq_getElem?_getD, List.getElem?_set_ne (fun z => c z.symm), List.getD_eq_getElem?_getD]
theorem Sy.rw {rs : List (List Int)} {d : Nat} (t : Sy rs d) : Rw rs d := ⟨t.len, t.row⟩
theorem Sy.put2 {rs : List (List Int)} {d i j : Nat} {n : Int} (t : Sy rs d) (hi : i < d) (hj : j < d) (h0 : -far12 ≤ n) (h1 : n ≤ far12) : Sy (put (put rs i j n) j i n) d := by
  have t1 := t.rw.put (j := j) (n := n) hi
  have t2 := t1.put (j := i) (n := n) hj
  refine ⟨t2.len, t2.row, fun a b ha hb => ?_, fun a b ha hb => ?_⟩
  · rw [en_put t1 hj hi, en_put t.rw hi hj, en_put t1 hj hi, en_put t.rw hi hj, t.sym a b ha hb]
    by_cases c1 : a = j ∧ b = i
    · rw [if_pos c1]
      by_cases c3 : b = j ∧ a = i
      · rw [if_pos c3]
      · rw [if_neg c3, if_pos (by omega)]
    · rw [if_neg c1]
      by_cases c2 : a = i ∧ b = j
      · rw [if_pos c2, if_pos (by omega)]
      · rw [if_neg c2, if_neg (by omega), if_neg (by omega)]
  · rw [en_put t1 hj hi, en_put t.rw hi hj]
    have := t.b a b ha hb
    by_cases c1 : a = j ∧ b = i
    · rw [if_pos c1]; omega
    · rw [if_neg c1]
      by_cases c2 : a = i ∧ b = j
      · rw [if_pos c2]; omega
      · rw [if_neg c2]; omega
theorem Sy.zero {d : Nat} : Sy ((List.range d).map fun _ => GM.zr d) d := by
  have z : ∀ i j, i < d → en ((List.range d).map fun _ => GM.zr d) i j = 0 := fun i j hi => by
    simp only [en, List.getD_eq_getElem?_getD, List.getElem?_map, List.getElem?_range hi, Option.map_some, Option.getD_some]
    unfold GM.zr
    by_cases c : j < d
    · simp [c]
    · simp [c]
  have := far12_is
  refine ⟨by simp, fun r hr => ?_, fun i j hi hj => by rw [z i j hi, z j i hj], fun i j hi hj => by rw [z i j hi]; omega⟩
  obtain ⟨_, _, rfl⟩ := List.mem_map.mp hr
  simp [GM.zr]
theorem la_put {H : Hp} {ts : List Addr} {rs : List (List Int)} {i : Nat} {t : Addr} {r : List Int} (h : LA H ts rs) (nd : ts.Nodup) (ht : ts[i]? = some t) : LA (upd H t (.lst (r.map V.int))) ts (rs.set i r) := by
  refine ⟨by simp [h.1], fun j u v h1 h2 => ?_⟩
  rw [List.getElem?_set] at h2
  by_cases e : i = j
  · subst e
    rw [if_pos rfl] at h2
    split at h2
    · cases h2
      rw [ht] at h1
      cases h1
      exact upd_same
    · cases h2
  · rw [if_neg e] at h2
    have hne : u ≠ t := fun z => by
      subst z
      have l1 := (List.getElem?_eq_some_iff.mp ht).1
      exact e ((List.getElem?_inj l1 nd).mp (ht.trans h1.symm))
    rw [upd_ne hne]
    exact h.2 j u v h1 h2
theorem LA.bg {H H' : Hp} {p : Addr} {n : Int} {ts : List Addr} {rs : List (List Int)} (h : LA H ts rs) (hb : Bag H p n) (g : Bg p H H') : LA H' ts rs := ⟨h.1, fun j t r h1 h2 => by
  have := h.2 j t r h1 h2
  refine g.at_ (hb.ne this fun L x y z => ?_) this
  injection z with z
  cases r with
  | nil => cases z
  | cons a r => injection z with z1; cases z1⟩
theorem ls_ne {H : Hp} {p q : Addr} {n : Int} {cs : List Addr} (hb : Bag H p n) (h : H q = some (.lst (cs.map V.ref))) : q ≠ p := hb.ne h fun L x y z => by
  injection z with z
  match cs, z with
  | a :: b :: _, z => injection z with _ z; injection z with z; cases z
def spTable : Sp := sp2 fun b s H Q _ => ∃ (p : Addr) (n : Int) (d : Nat), b = .ref p ∧ s = .int d ∧ 1 ≤ d ∧ d ≤ 4 ∧ n ≤ 80000 ∧ Bag H p n ∧
  ∀ q cs rs H', Bg p H H' → Bag H' p (n + 40) → H' q = some (.lst (cs.map V.ref)) → LA H' cs rs → Sy rs d → Q (.ref q) H'
theorem ok__law_table {P : Program} {w : World} {K : PySem.W.Frag} {mg : Str → Option Value} {base : Heap} (T : Txt K mg) : ∃ fd, FnOk P w K mg base (L2.CX P w) 3 (He.ga K "_law_table") fd ["crate", "size"] (spTable) ∧ Binds K fd ["crate", "size"] [] := by
  obtain ⟨fd, F⟩ := T.d__law_table
  obtain ⟨fd__law_entry, F__law_entry, B__law_entry⟩ := ok__law_entry (P := P) (w := w) (base := base) T
  obtain ⟨fd__law_choose, F__law_choose, B__law_choose⟩ := ok__law_choose (P := P) (w := w) (base := base) T
  obtain ⟨fd__law_lift, F__law_lift, B__law_lift⟩ := ok__law_lift (P := P) (w := w) (base := base) T
  refine ⟨fd, F.ok sc__law_table sp2_len (fun cdv A outer s H vs Q E hr h => ?_), F.bindsN fun _ _ _ _ _ _ us hl => match us, hl with | [_, _], _ => rfl⟩
  have hr__law_entry : Room 2 _ := hr.mono (by decide)
  have hr__law_choose : Room 2 _ := hr.mono (by decide)
  have hr__law_lift : Room 1 _ := hr.mono (by decide)
  obtain ⟨b0, s0, rfl, p, n, d, rfl, rfl, d1, d4, hn, hb, k⟩ := sp2_is h
  refine ⟨_, (pss_cons (ps_par (i := 2) (j := 3) (by rfl) sc__law_table.nd rfl rfl (by decide) rfl rfl (pa_cons (pe_call F__law_lift hr__law_lift (by rfl) T.g__law_lift T.k__law_lift B__law_lift .nil passL (pa_cons (pv 0) (pa_cons pe_int pa_nil))) (pa_cons (pe_call F__law_choose hr__law_choose (by rfl) T.g__law_choose T.k__law_choose B__law_choose .nil passL (pa_cons (pv 0) (pa_cons (pe_lst (pa_cons pe_int (pa_cons pe_int (pa_cons pe_int (pa_cons (pe_op op_powW pe_int pe_int) pa_nil))))) pa_nil))) pa_nil)) (by rfl))
      (pss_cons (ps_setLc (i := 4) (own := [("turn", 5)]) (g := gName 5) (tt := tYes)  rfl sc__law_table.nd rfl rfl (sw_true rfl rfl rfl (by decide +kernel)) (pi_range1 (by rfl) T.b_range (pa_cons (pv 1) pa_nil)) (blkOk_by (own := [("turn", 5)]) (N := ["crate", "size", "way", "far", "rows", "turn", "one", "other", "number"]) (sc := defScope s__law_table) (by decide +kernel)) (fun _ _ _ _ _ => (pg_name (i := 5) sc__law_table.nd rfl (Or.inl rfl))) (fun _ _ _ _ _ => pts_nil) (fun _ _ _ _ _ => (pe_op op_rep (pe_lst (pa_cons pe_int pa_nil)) (pv 1))))
      (pss_cons (ps_for (passes_of rfl) rfl (pi_range1 (by rfl) T.b_range (pa_cons (pv 1) pa_nil)) (pg_name (i := 6) sc__law_table.nd rfl (Or.inl rfl)) (pss_one (ps_for (passes_of rfl) rfl (pi_range1 (by rfl) T.b_range (pa_cons (pe_op op_add (pv 6) pe_int) pa_nil)) (pg_name (i := 7) sc__law_table.nd rfl (Or.inl rfl)) (pss_cons (ps_set (i := 8) sc__law_table.nd rfl (Or.inl rfl) (pe_call F__law_entry hr__law_entry (by rfl) T.g__law_entry T.k__law_entry B__law_entry .nil passL (pa_cons (pv 0) (pa_cons (pv 3) pa_nil))))
      (pss_cons (ps_if (PW.pt (pw_or (PW.pt (pw_and (pt_cmpR op_eq (pv 2) pe_int (nomark _)) (pw_and1 (pt_cmpR op_ne (pv 6) (pv 7) (nomark _))))) (pw_or1 (PW.pt (pw_and (pt_cmpR op_eq (pv 2) pe_int (nomark _)) (pw_and1 (pt_cmpR op_eq (pv 6) (pe_op op_sub (pv 1) pe_int) (nomark _)))))))) (pss_one (ps_set (i := 8) sc__law_table.nd rfl (Or.inl rfl) pe_int)) pss_nil)
      (pss_cons (ps_asg (pv 8) (pg_sub (pe_ix (kx_ixl rfl) (pv 4) (pv 6) (fun _ _ => rfl)) (pv 7) set_list))
      (pss_one (ps_asg (pv 8) (pg_sub (pe_ix (kx_ixl rfl) (pv 4) (pv 7) (fun _ _ => rfl)) (pv 6) set_list)))))))))
      (pss_one (ps_ret (pv 4)))))), ?_⟩
  have f12 := far12_is
  walk_at "rd"
  refine r_DrawG hb (by omega) (by decide) (Z.mono (n := 34) (Z.small (by decide)) (by decide)) fun way H1 w0 w1 g1 b1 => ?_
  walk_at "rd"
  refine r_pow (p10 12 (by decide)) (show (10 : Int) ^ (12 : Int).toNat = far12 from rfl) ?_
  walk_at "rd"
  refine r_newL (sz_le (by simp)) fun t0 H2 ht0 e2 h2 => ?_
  walk_at "rd"
  refine r_One (H0 := H2) (b1.ex e2) h2 (fun _ _ _ z => by cases z) (by simp) (by simp) (by omega) fun v H3 hv g3 b3 => ?_
  obtain ⟨far, rfl, f1, f2⟩ : ∃ far : Int, v = .int far ∧ 1 ≤ far ∧ far ≤ far12 := by
    simp only [List.mem_cons, List.not_mem_nil, or_false] at hv
    rcases hv with rfl | rfl | rfl | rfl <;> exact ⟨_, rfl, by decide, by decide⟩
  walk_at "rd"
  refine ⟨_, rfl, by omega, by omega, ?_⟩
  rw [Int.toNat_natCast]
  refine r_lcLs (n := d) (k := 5) walk_range (fun _ => (GM.zr d).map V.int) (by omega) (fun _ _ => trivial) (fun _ => rfl) ?_ ?_
  · rintro i y H7 H8 hi e7 ⟨rfl, rfl⟩
    refine ⟨Ex.refl _, fun R kR => ?_⟩
    walk_at "rd"
    refine r_newL (sz_le (by simp)) fun z0 H9 hz0 e9 h9 => ?_
    walk_at "rd"
    refine r_zeros h9 rfl (by omega) fun z1 H10 hz1 e10 h10 => ?_
    exact kR z1 H10 (e9.trans e10) (e9.free hz1) h10
  intro q cs H4 hq e4 h4 hlen hnd hnew hrow
  have g4 : Bg p H H4 := ((g1.trans (Bg.of e2)).trans g3).trans (Bg.of e4)
  have b4 : Bag H4 p (n + 2) := (b3.ex e4).le (by omega)
  have ncs : ∀ t ∈ cs, H t = none := fun t ht => Bg.free ((g1.trans (Bg.of e2)).trans g3) hb (hnew t ht)
  have nq : q ∉ cs := (List.nodup_cons.mp hnd).1
  have nd := (List.nodup_cons.mp hnd).2
  have la4 : LA H4 cs ((List.range d).map fun _ => GM.zr d) := la_rows hlen hrow
  clear g1 g3 b1 b3 h2 e2 e4 ht0 hq hrow hnew hnd
  walk_at "rd"
  refine ⟨_, rfl, by omega, by omega, ?_⟩
  rw [Int.toNat_natCast]
  refine for_of (walk_range (lo := 0) (n := d)) (fun i σ' H' => ∃ rs s5 s6 s7 s8, σ' = [some (.ref p), some (.int d), some (.int way), some (.int far), some (.ref q), s5, s6, s7, s8] ∧ Bg p H H' ∧ Bag H' p (n + 2 + 4 * (i : Nat)) ∧ H' q = some (.lst (cs.map V.ref)) ∧ LA H' cs rs ∧ Sy rs d) ⟨_, _, _, _, _, rfl, g4, b4.le (by omega), h4, la4, Sy.zero⟩ (fun _ _ _ _ _ => trivial) ?_ ?_
  · rintro i x σ' H5 H6 hi ⟨rs, s5, s6, s7, s8, rfl, g5, b5, h5, la5, sy5⟩ ⟨rfl, hx⟩
    obtain rfl : x = V.int (i : Nat) := hx.trans (congrArg V.int (Int.zero_add _))
    refine r_gName ?_
    walk_at "rd"
    refine ⟨((i + 1 : Nat) : Int), by push_cast; rfl, by omega, by omega, ?_⟩
    rw [Int.toNat_natCast]
    refine for_of (walk_range (lo := 0) (n := i + 1)) (fun j σ' H' => ∃ rs s7 s8, σ' = [some (.ref p), some (.int d), some (.int way), some (.int far), some (.ref q), s5, some (.int (i : Nat)), s7, s8] ∧ Bg p H H' ∧ Bag H' p (n + 2 + 4 * (i : Nat) + (j : Nat)) ∧ H' q = some (.lst (cs.map V.ref)) ∧ LA H' cs rs ∧ Sy rs d) ⟨_, _, _, rfl, g5, b5.le (by omega), h5, la5, sy5⟩ (fun _ _ _ _ _ => trivial) ?_ ?_
    · rintro j x σ' H7 H8 hj ⟨rs, s7, s8, rfl, g7, b7, h7, la7, sy7⟩ ⟨rfl, hx⟩
      obtain rfl : x = V.int (j : Nat) := hx.trans (congrArg V.int (Int.zero_add _))
      have hjd : j < d := by omega
      refine r_gName ?_
      walk_at "rd"
      refine ⟨p, n + 2 + 4 * (i : Nat) + (j : Nat), far, rfl, rfl, f1, f2, by omega, b7, fun r H9 r0 r1 g9 b9 => ?_⟩
      walk_at "rx"
      refine r_seqJ (fun σ' H' => H' = H9 ∧ ∃ r : Int, -far12 ≤ r ∧ r ≤ far12 ∧ σ' = [some (.ref p), some (.int d), some (.int way), some (.int far), some (.ref q), s5, some (.int (i : Nat)), some (.int (j : Nat)), some (.int r)]) (fun N hN => ?_) ?_
      · walk_at "rd"
        have fz : ∀ z : Int, -far12 ≤ z → z ≤ far12 → N [some (.ref p), some (.int d), some (.int way), some (.int far), some (.ref q), s5, some (.int (i : Nat)), some (.int (j : Nat)), some (.int z)] H9 := fun z z0 z1 => hN _ _ ⟨rfl, z, z0, z1, rfl⟩
        have f0 := fz 0 (by omega) (by omega)
        have fr := fz r (by omega) (by omega)
        clear hN fz
        repeat' (first | exact f0 | exact fr | refine ite_t rfl ?_ | refine ite_f rfl ?_ | refine ite_b (fun _ => ?_) fun _ => ?_ | walk_at "rd")
      rintro σ' H10 ⟨rfl, r, r0, r1, rfl⟩
      have h10 := g9.at_ (ls_ne b7 h7) h7
      have la10 := la7.bg b7 g9
      obtain ⟨ri, hri, eri, lri⟩ := sy7.rw.at hi
      obtain ⟨rj, hrj, erj, lrj⟩ := sy7.rw.at hjd
      obtain ⟨ti, hti, hwi⟩ := la10.col hri
      have nti : H ti = none := ncs ti (List.mem_of_getElem? hti)
      have nqi : ti ≠ q := fun z => nq (by rw [← z]; exact List.mem_of_getElem? hti)
      have la11 := la_put (i := i) (r := ri.set j r) la10 nd hti
      have rw1 := sy7.rw.put (j := j) (n := r) hi
      obtain ⟨rj, hrj, erj, lrj⟩ := rw1.at hjd
      unfold put at hrj
      rw [eri] at hrj
      obtain ⟨tj, htj, hwj⟩ := la11.col hrj
      have ntj : H tj = none := ncs tj (List.mem_of_getElem? htj)
      have nqj : tj ≠ q := fun z => nq (by rw [← z]; exact List.mem_of_getElem? htj)
      have la12 := la_put (i := j) (r := rj.set i r) la11 nd htj
      walk_at "rd"
      refine r_ixL h10 (v := .ref ti) (atI_nat (by rw [List.getElem?_map, hti]; rfl)) ?_
      walk_at "rd"
      refine r_setL hwi (n := j) (by rw [List.length_map, lri]; exact ixN_nat hjd) ?_
      rw [← List.map_set]
      walk_at "rd"
      refine r_ixL (by rw [upd_ne (fun z => nqi z.symm)]; exact h10) (v := .ref tj) (atI_nat (by rw [List.getElem?_map, htj]; rfl)) ?_
      walk_at "rd"
      refine r_setL hwj (n := i) (by rw [List.length_map, lrj]; exact ixN_nat hi) ?_
      rw [← List.map_set]
      have sy := sy7.put2 (n := r) hi hjd r0 r1
      have ep : put (put rs i j r) j i r = (rs.set i (ri.set j r)).set j (rj.set i r) := by
        show (put rs i j r).set j (((put rs i j r).getD j []).set i r) = _
        rw [erj]
        unfold put
        rw [eri]
      rw [ep] at sy
      have g11 : Bg p H (upd H10 ti (.lst ((ri.set j r).map V.int))) := (g7.trans g9).updD hb nti
      have b11 : Bag (upd H10 ti (.lst ((ri.set j r).map V.int))) p (n + 2 + 4 * (i : Nat) + (j : Nat) + 1) := b9.updD hb (g7.trans g9) nti
      exact ⟨_, _, _, rfl, g11.updD hb ntj, (b11.updD hb g11 ntj).le (by push_cast; omega), by rw [upd_ne (fun z => nqj z.symm), upd_ne (fun z => nqi z.symm)]; exact h10, la12, sy⟩
    · rintro σ' H' ⟨rs, s7, s8, rfl, g6, b6, h6, la6, sy6⟩
      exact ⟨rs, _, _, _, _, rfl, g6, b6.le (by push_cast; omega), h6, la6, sy6⟩
  · rintro σ' H' ⟨rs, s5, s6, s7, s8, rfl, g6, b6, h6, la6, sy6⟩
    walk_at "rd"
    exact k q cs rs H' g6 (b6.le (by omega)) h6 la6 sy6

end K36
namespace K36
open PySem PySem.Spec PyProof.Rows L2 GS TL
local macro_rules | `(tactic| walk_at "rd") => `(tactic| (repeat (first
  | with_reducible refine r_next ?_
  | with_reducible refine r_seq ?_
  | with_reducible refine r_ret ?_
  | with_reducible refine r_ifS ?_
  | with_reducible refine r_asg ?_
  | with_reducible refine r_drop ?_
  | with_reducible refine r_op ?_
  | with_reducible refine r_un ?_
  | with_reducible refine r_cbInt ?_
  | with_reducible refine r_cbAbs ?_
  | with_reducible refine r_cbLen ?_
  | with_reducible refine r_cbList ?_
  | with_reducible refine r_cbTup ?_
  | with_reducible refine r_iEnT ?_
  | with_reducible refine r_iEnL ?_
  | with_reducible refine r_zipA ?_
  | with_reducible refine r_zipX ?_
  | with_reducible refine r_augS ?_
  | with_reducible refine r_cb ?_
  | with_reducible refine r_call ?_
  | with_reducible refine r_make ?_
  | with_reducible refine r_callN0 ?_
  | with_reducible refine r_makeK0 ?_
  | with_reducible refine r_makeS ?_
  | with_reducible refine r_callS ?_
  | with_reducible refine r_cons ?_
  | with_reducible refine r_nil ?_
  | with_reducible refine r_test ?_
  | with_reducible refine r_B ?_
  | with_reducible refine r_and ?_
  | with_reducible refine r_or ?_
  | with_reducible refine r_not ?_
  | with_reducible refine r_andV ?_
  | with_reducible refine r_orV ?_
  | with_reducible refine r_notV ?_
  | with_reducible refine r_if ?_
  | with_reducible refine r_tup ?_
  | with_reducible refine r_lst ?_
  | with_reducible refine r_c ?_
  | with_reducible refine r_lc ?_
  | with_reducible refine r_chain ?_
  | with_reducible refine r_iT ?_
  | with_reducible refine r_iL ?_
  | with_reducible refine r_iR1 ?_
  | with_reducible refine r_iR2 ?_
  | with_reducible refine r_iR3 ?_
  | with_reducible refine r_asgG ?_
  | with_reducible refine r_gSub ?_
  | with_reducible refine r_for ?_
  | with_reducible refine r_smeth ?_
  | with_reducible refine r_par ?_
  | with_reducible refine r_parK ?_
  | with_reducible refine r_gCons ?_
  | with_reducible refine r_gNil ?_
  | with_reducible refine r_gName ?_
  | with_reducible refine r_intI ?_
  | with_reducible refine r_intB ?_
  | with_reducible refine r_absI ?_
  | with_reducible refine r_k ?_
  | with_reducible refine r_kV ?_
  | ((with_reducible show tVar _ _ _ _); refine r_var3 ?_ (by rfl))
  | with_reducible refine r_I0 ?_
  | with_reducible refine r_U ?_
  | with_reducible refine r_eqI ?_
  | with_reducible refine r_neI ?_
  | with_reducible refine r_F ?_
  | dsimp only)))
local macro_rules | `(tactic| walk_at "rx") => `(tactic| (repeat (first
  | with_reducible refine r_next ?_
  | with_reducible refine r_ret ?_
  | with_reducible refine r_ifS ?_
  | with_reducible refine r_asg ?_
  | with_reducible refine r_drop ?_
  | with_reducible refine r_op ?_
  | with_reducible refine r_un ?_
  | with_reducible refine r_cbInt ?_
  | with_reducible refine r_cbAbs ?_
  | with_reducible refine r_cbLen ?_
  | with_reducible refine r_cbList ?_
  | with_reducible refine r_cbTup ?_
  | with_reducible refine r_iEnT ?_
  | with_reducible refine r_iEnL ?_
  | with_reducible refine r_zipA ?_
  | with_reducible refine r_zipX ?_
  | with_reducible refine r_augS ?_
  | with_reducible refine r_cb ?_
  | with_reducible refine r_call ?_
  | with_reducible refine r_make ?_
  | with_reducible refine r_callN0 ?_
  | with_reducible refine r_makeK0 ?_
  | with_reducible refine r_makeS ?_
  | with_reducible refine r_callS ?_
  | with_reducible refine r_cons ?_
  | with_reducible refine r_nil ?_
  | with_reducible refine r_test ?_
  | with_reducible refine r_B ?_
  | with_reducible refine r_and ?_
  | with_reducible refine r_or ?_
  | with_reducible refine r_not ?_
  | with_reducible refine r_andV ?_
  | with_reducible refine r_orV ?_
  | with_reducible refine r_notV ?_
  | with_reducible refine r_if ?_
  | with_reducible refine r_tup ?_
  | with_reducible refine r_lst ?_
  | with_reducible refine r_c ?_
  | with_reducible refine r_lc ?_
  | with_reducible refine r_chain ?_
  | with_reducible refine r_iT ?_
  | with_reducible refine r_iL ?_
  | with_reducible refine r_iR1 ?_
  | with_reducible refine r_iR2 ?_
  | with_reducible refine r_iR3 ?_
  | with_reducible refine r_asgG ?_
  | with_reducible refine r_gSub ?_
  | with_reducible refine r_for ?_
  | with_reducible refine r_smeth ?_
  | with_reducible refine r_par ?_
  | with_reducible refine r_parK ?_
  | with_reducible refine r_gCons ?_
  | with_reducible refine r_gNil ?_
  | with_reducible refine r_gName ?_
  | with_reducible refine r_intI ?_
  | with_reducible refine r_intB ?_
  | with_reducible refine r_absI ?_
  | with_reducible refine r_k ?_
  | with_reducible refine r_kV ?_
  | ((with_reducible show tVar _ _ _ _); refine r_var3 ?_ (by rfl))
  | with_reducible refine r_I0 ?_
  | with_reducible refine r_U ?_
  | with_reducible refine r_eqI ?_
  | with_reducible refine r_neI ?_
  | with_reducible refine r_F ?_
  | dsimp only)))
/-! ### determinants by rows -/
theorem LA.tail {H : Hp} {t : Addr} {ts : List Addr} {r : List Int} {rs : List (List Int)} (h : LA H (t :: ts) (r :: rs)) : H t = some (.lst (r.map V.int)) ∧ LA H ts rs := ⟨h.2 0 t r rfl rfl, by simpa using h.1, fun j t' r' h1 h2 => h.2 (j + 1) t' r' (by simpa using h1) (by simpa using h2)⟩
def dRowL (rs : List (List Int)) : List PyData := rs.map fun r => .list (r.map PyData.int)
theorem dp_rowsL {K : PySem.W.Frag} {H : Hp} : ∀ {ts : List Addr} {rs : List (List Int)}, LA H ts rs → DpAll K H (ts.map V.ref) (dRowL rs)
  | [], [], _ => .nil
  | _ :: _, _ :: _, h => .cons (.lst (SqL.of h.tail.1) (dp_ints _)) (dp_rowsL h.tail.2)
  | [], _ :: _, h => by have := h.1; simp at this
  | _ :: _, [], h => by have := h.1; simp at this
theorem can_rowsL : ∀ rs : List (List Int), PyData.canLayAll0 (dRowL rs) = true
  | [] => rfl
  | r :: rs => by
    show (PyData.canLayAll0 (r.map PyData.int) && PyData.canLayAll0 (dRowL rs)) = true
    rw [can_ints, can_rowsL rs]
    rfl
theorem depth_rowsL : ∀ rs : List (List Int), PyData.depthAll (dRowL rs) ≤ 1
  | [] => Nat.zero_le _
  | r :: rs => by
    show max (PyData.depthAll (r.map PyData.int) + 1) (PyData.depthAll (dRowL rs)) ≤ 1
    rw [depth_ints]
    have := depth_rowsL rs
    omega
theorem shaped_rowsL (rs : List (List Int)) : SeqAt.shaped (.list (dRowL rs)) = true := by
  show (PyData.canLayAll0 (dRowL rs) && decide (PyData.depthAll (dRowL rs) + 1 ≤ 64)) = true
  rw [can_rowsL, decide_eq_true (by have := depth_rowsL rs; omega)]
  rfl
theorem eqv_rowsL : ∀ rs qs : List (List Int), PyData.eqvAll (dRowL rs) (dRowL qs) = decide (rs = qs)
  | [], [] => rfl
  | [], q :: qs => rfl
  | r :: rs, [] => rfl
  | r :: rs, q :: qs => by
    show (PyData.eqvAll (r.map PyData.int) (q.map PyData.int) && PyData.eqvAll (dRowL rs) (dRowL qs)) = _
    rw [eqv_ints, eqv_rowsL rs qs]
    by_cases c : r = q <;> simp [c]
theorem r_eqLL {K : PySem.W.Frag} {H : Hp} {Q : VK} {p q : Addr} {ts us : List Addr} {rs qs : List (List Int)} (h1 : H p = some (.lst (ts.map V.ref))) (g1 : LA H ts rs) (h2 : H q = some (.lst (us.map V.ref))) (g2 : LA H us qs) (k : Q (.bl (decide (rs = qs))) H) : rEqD K (.ref p) (.ref q) H Q := by
  refine ⟨_, _, .lst (SqL.of h1) (dp_rowsL g1), .lst (SqL.of h2) (dp_rowsL g2), shaped_rowsL rs, shaped_rowsL qs, ?_⟩
  show Q (.bl (PyData.eqvAll (dRowL rs) (dRowL qs))) H
  rw [eqv_rowsL]
  exact k
def cutC (rs : List (List Int)) (a : Nat) : List (List Int) := rs.map fun r => r.take a ++ r.drop (a + 1)
def sgn (a : Nat) : Int := if a % 2 = 0 then 1 else -1
theorem sgn_s (a : Nat) : sgn (a + 1) = -sgn a := by
  unfold sgn
  by_cases c : a % 2 = 0
  · rw [if_pos c, if_neg (by omega)]
  · rw [if_neg c, if_pos (by omega)]; rfl
theorem sgn_z (a : Nat) : Z 4 (sgn a) := by
  unfold sgn
  split <;> (unfold Z; decide)
def worN : Nat → List (List Int) → Int
  | 0, _ => 1
  | n + 1, rs => ((List.range (n + 1)).map fun a => sgn a * (rs.getD 0 []).getD a 0 * worN n (cutC (rs.drop 1) a)).sum
/-- d rows of d numbers, each of m bits at most -/
structure Sz (rs : List (List Int)) (d m : Nat) : Prop where
  len : rs.length = d
  row : ∀ r ∈ rs, r.length = d
  z : ∀ r ∈ rs, ∀ c ∈ r, Z m c
theorem Sz.cut {rs : List (List Int)} {r : List Int} {d m : Nat} (h : Sz (r :: rs) (d + 1) m) {a : Nat} (ha : a < d + 1) : Sz (cutC rs a) d m := by
  refine ⟨by have := h.len; simpa [cutC] using this, fun q hq => ?_, fun q hq c hc => ?_⟩
  · obtain ⟨s, hs, rfl⟩ := List.mem_map.mp hq
    have := h.row s (List.mem_cons_of_mem _ hs)
    simp [this]
    omega
  · obtain ⟨s, hs, rfl⟩ := List.mem_map.mp hq
    have hz := h.z s (List.mem_cons_of_mem _ hs)
    rcases List.mem_append.mp hc with hc | hc
    · exact hz c (List.mem_of_mem_take hc)
    · exact hz c (List.mem_of_mem_drop hc)
theorem worN_z : ∀ (n : Nat) (rs : List (List Int)), n ≤ 4 → Sz rs n 100 → Z (10 + 120 * n) (worN n rs)
  | 0, _, _, _ => by
    show Z _ 1
    unfold Z
    decide
  | n + 1, rs, hn, h => by
    obtain ⟨r, q, rfl⟩ : ∃ r q, rs = r :: q := by
      cases rs with
      | nil => exact absurd h.len (by simp)
      | cons r q => exact ⟨r, q, rfl⟩
    refine (sum_z (n := 4 + 100 + (10 + 120 * n)) _ 6 (by simp; omega) fun c hc => ?_).mono (by omega)
    obtain ⟨a, ha, rfl⟩ := List.mem_map.mp hc
    have ha := List.mem_range.mp ha
    have lr := h.row r List.mem_cons_self
    have zr : Z 100 (r.getD a 0) := h.z r List.mem_cons_self _ (List.mem_of_getElem? (i := a) (by rw [List.getD_eq_getElem?_getD]; simp [lr, ha]))
    exact ((sgn_z a).mul zr).mul (worN_z n _ (by omega) (h.cut ha))
theorem cut_tlR (c : Addr) (cs : List Addr) : cutV ((c :: cs).map V.ref) (some 1) none = cs.map V.ref := by
  unfold cutV
  rw [show (1 : Int) = ((1 : Nat) : Int) from rfl, HT.sIx_nat, HT.sIx_none]
  simp
  rw [← List.map_take, List.take_length]
theorem cut_dr (ns : List Int) (k : Nat) (h : k ≤ ns.length) : cutV (ns.map V.int) (some (k : Int)) none = (ns.drop k).map V.int := by
  unfold cutV
  rw [HT.sIx_none, HT.sIx_nat, List.length_map, Nat.min_eq_left h, List.take_of_length_le (by simp), List.map_drop]
def spWor (K : PySem.W.Frag) (m : Nat) : Sp := sp1 fun v H Q _ => ∃ (rs : List (List Int)) (n : Nat), LL H v rs ∧ Sz rs n 100 ∧ n ≤ m ∧ m ≤ 4 ∧ ∀ H', Ex H H' → Q (.int (worN n rs)) H'
theorem ok__law_worthA {P : Program} {w : World} {K : PySem.W.Frag} {mg : Str → Option Value} {base : Heap} (T : Txt K mg) : ∃ fd, FnOk P w K mg base (L2.CX P w) 1 (He.ga K "_law_worth") fd ["rows"] (spWor K 0) ∧ Binds K fd ["rows"] [] := by
  obtain ⟨fd, F⟩ := T.d__law_worth
  refine ⟨fd, F.ok sc__law_worth sp1_len (fun cdv A outer s H vs Q E hr h => ?_), F.bindsN fun _ _ _ _ _ _ us hl => match us, hl with | [_], _ => rfl⟩
  obtain ⟨v, rfl, rs, n, ⟨p, cs, rfl, hp, hla⟩, sz, hn, hm, k⟩ := sp1_is h
  refine ⟨_, (pss_cons (ps_if (pt_cmpR (op_eqD hr.units) (pv 0) (pe_lst pa_nil) (nomark _)) (pss_one (ps_ret pe_int)) pss_nil)
      (pss_cons (ps_asg (pe_tup (pa_cons pe_int (pa_cons pe_int pa_nil))) (pg_tup rfl (pgs_cons (pg_name (i := 1) sc__law_worth.nd rfl (Or.inl rfl)) (pgs_cons (pg_name (i := 2) sc__law_worth.nd rfl (Or.inl rfl)) pgs_nil))))
      (pss_cons (ps_for (passes_of rfl) rfl (pi_enum (by rfl) T.b_enumerate (pa_cons (pe_ix (kx_ixl rfl) (pv 0) pe_int (fun _ _ => rfl)) pa_nil)) (pg_tup rfl (pgs_cons (pg_name (i := 3) sc__law_worth.nd rfl (Or.inr rfl)) (pgs_cons (pg_name (i := 4) sc__law_worth.nd rfl (Or.inl rfl)) pgs_nil))) (pss_cons (ps_if (pt_cmpR op_ne (pv 4) pe_int (nomark _)) (pss_one ps_never) pss_nil)
      (pss_one (ps_set (i := 2) sc__law_worth.nd rfl (Or.inl rfl) (pe_un un_neg (pv 2))))))
      (pss_one (ps_ret (pv 1)))))), ?_⟩
  obtain rfl : n = 0 := by omega
  obtain rfl : rs = [] := List.length_eq_zero_iff.mp sz.len
  walk_at "rd"
  refine r_newL (Nat.zero_le _) fun B H1 hB e1 h1 => ?_
  refine r_eqLL (us := []) (qs := []) (e1 _ _ hp) (hla.ex e1) h1 LA.nil ?_
  refine ⟨_, rfl, ite_t rfl ?_⟩
  walk_at "rd"
  exact k _ e1
theorem ok__law_worthB {P : Program} {w : World} {K : PySem.W.Frag} {mg : Str → Option Value} {base : Heap} (T : Txt K mg) : ∃ fd, FnOk P w K mg base (L2.CX P w) 2 (He.ga K "_law_worth") fd ["rows"] (spWor K 1) ∧ Binds K fd ["rows"] [] := by
  obtain ⟨fd, F⟩ := T.d__law_worth
  refine ⟨fd, F.ok sc__law_worth sp1_len (fun cdv A outer s H vs Q E hr h => ?_), F.bindsN fun _ _ _ _ _ _ us hl => match us, hl with | [_], _ => rfl⟩
  obtain ⟨v, rfl, rs, n, ⟨p, cs, rfl, hp, hla⟩, sz, hn, hm, k⟩ := sp1_is h
  obtain ⟨fd__law_worth, F__law_worth, B__law_worth⟩ := ok__law_worthA (P := P) (w := w) (base := base) T
  have hr__law_worth : Room 1 _ := hr.mono (by decide)
  refine ⟨_, (pss_cons (ps_if (pt_cmpR (op_eqD hr.units) (pv 0) (pe_lst pa_nil) (nomark _)) (pss_one (ps_ret pe_int)) pss_nil)
      (pss_cons (ps_asg (pe_tup (pa_cons pe_int (pa_cons pe_int pa_nil))) (pg_tup rfl (pgs_cons (pg_name (i := 1) sc__law_worth.nd rfl (Or.inl rfl)) (pgs_cons (pg_name (i := 2) sc__law_worth.nd rfl (Or.inl rfl)) pgs_nil))))
      (pss_cons (ps_for (passes_of rfl) rfl (pi_enum (by rfl) T.b_enumerate (pa_cons (pe_ix (kx_ixl rfl) (pv 0) pe_int (fun _ _ => rfl)) pa_nil)) (pg_tup rfl (pgs_cons (pg_name (i := 3) sc__law_worth.nd rfl (Or.inr rfl)) (pgs_cons (pg_name (i := 4) sc__law_worth.nd rfl (Or.inl rfl)) pgs_nil))) (pss_cons (ps_if (pt_cmpR op_ne (pv 4) pe_int (nomark _)) (pss_one (ps_set (i := 1) sc__law_worth.nd rfl (Or.inl rfl) (pe_op op_add (pv 1) (pe_op op_mulW (pe_op op_mulW (pv 2) (pv 4)) (pe_call F__law_worth hr__law_worth (by rfl) T.g__law_worth T.k__law_worth B__law_worth .nil passL (pa_cons (pe_lc (own := [("row", 5)]) (g := gName 5) (tt := tYes)  rfl sc__law_worth.nd (pi_list (pe_slice sl_list (pv 0) (po_some pe_int) po_none)) (blkOk_by (own := [("row", 5)]) (N := ["rows", "total", "sign", "at", "number", "row"]) (sc := defScope s__law_worth) (by decide +kernel)) (fun _ _ _ _ _ => (pg_name (i := 5) sc__law_worth.nd rfl (Or.inl rfl))) (fun _ _ _ _ _ => pts_nil) (fun _ _ _ _ _ => (pe_op op_cat (pe_slice (kx_sll (K := K) rfl) (pv 5) po_none (po_some (pv 3))) (pe_slice (kx_sll (K := K) rfl) (pv 5) (po_some (pe_op op_add (pv 3) pe_int)) po_none)))) pa_nil)))))) pss_nil)
      (pss_one (ps_set (i := 2) sc__law_worth.nd rfl (Or.inl rfl) (pe_un un_neg (pv 2))))))
      (pss_one (ps_ret (pv 1)))))), ?_⟩
  walk_at "rd"
  refine r_newL (Nat.zero_le _) fun B H1 hB e1 h1 => ?_
  refine r_eqLL (us := []) (qs := []) (e1 _ _ hp) (hla.ex e1) h1 LA.nil ?_
  refine ⟨_, rfl, ?_⟩
  cases n with
  | zero =>
    obtain rfl : rs = [] := List.length_eq_zero_iff.mp sz.len
    refine ite_t rfl ?_
    walk_at "rd"
    exact k _ e1
  | succ n =>
  obtain ⟨r0, q0, rfl⟩ : ∃ r q, rs = r :: q := by
    cases rs with
    | nil => exact absurd sz.len (by simp)
    | cons r q => exact ⟨r, q, rfl⟩
  obtain ⟨t0, cs, rfl⟩ : ∃ t ts, cs = t :: ts := by
    cases cs with
    | nil => exact absurd hla.1 (by simp)
    | cons t ts => exact ⟨t, ts, rfl⟩
  obtain ⟨hw0, hlt⟩ := hla.tail
  have l0 := sz.row r0 List.mem_cons_self
  have lcs : cs.length = n := by have := hla.1; have := sz.len; simp at *; omega
  refine ite_f (by simp) ?_
  walk_at "rd"
  refine r_newT (sz_le (by simp)) fun t1 H2 ht1 e2 h2 => ?_
  refine r_gTup h2 rfl (r_gCons (r_gName (r_gCons (r_gName (r_gNil ?_)))))
  walk_at "rd"
  have e02 := e1.trans e2
  refine r_ixL (e02 _ _ hp) (v := .ref t0) (atI_nat (j := 0) rfl) ?_
  walk_at "rd"
  refine ⟨t0, _, rfl, SqL.of (e02 _ _ hw0), ?_⟩
  let term : Nat → Int := fun a => sgn a * r0.getD a 0 * worN n (cutC q0 a)
  refine for_of (by have := walk_enum (K := K) (a := t0) (xs := r0.map V.int); rwa [List.length_map, l0] at this) (n := n + 1) (fun i σ' H' => ∃ s3 s4, σ' = [some (.ref p), some (.int ((List.range i).map term).sum), some (.int (sgn i)), s3, s4, none] ∧ Ex H2 H') ⟨none, none, rfl, Ex.refl _⟩ (fun _ _ _ _ ⟨_, _, _, e⟩ => SqL.of ((e02.trans e) _ _ hw0)) ?_ ?_
  · rintro i x σ' H3 H4 hi ⟨s3, s4, rfl, e3⟩ ⟨T0, x1, x2, rfl, hT, rfl, g1, g2⟩
    cases g1
    obtain ⟨c, hc, rfl⟩ := int_at g2
    refine r_gTup upd_same rfl (r_gCons (r_gName (r_gCons (r_gName (r_gNil ?_)))))
    have e4 : Ex H3 (upd H3 T0 (.tup [.int (i : Nat), .int c])) := Ex.new hT
    generalize upd H3 T0 (.tup [.int (i : Nat), .int c]) = H4 at e4 ⊢
    have zc := sz.z r0 List.mem_cons_self c (List.mem_of_getElem? hc)
    have et : term i = sgn i * c * worN n (cutC q0 i) := by
      show sgn i * r0.getD i 0 * _ = _
      rw [List.getD_eq_getElem?_getD, hc]
      rfl
    have es : ((List.range (i + 1)).map term).sum = ((List.range i).map term).sum + term i := by simp [List.range_succ]
    have e04 := e02.trans (e3.trans e4)
    walk_at "rx"
    refine r_seqJ (fun σ' H' => Ex H2 H' ∧ σ' = [some (.ref p), some (.int ((List.range (i + 1)).map term).sum), some (.int (sgn i)), some (.int (i : Nat)), some (.int c), none]) (fun N hN => ?_) ?_
    · walk_at "rd"
      by_cases c0 : c = 0
      · refine ite_f (by simp [c0]) ?_
        walk_at "rd"
        refine hN _ _ ⟨e3.trans e4, ?_⟩
        rw [es, et, c0]
        simp
      refine ite_t (by simp [c0]) ?_
      walk_at "rd"
      refine r_I (mulOk (sgn_z i) zc (by decide) (by decide) (by decide)) ?_
      walk_at "rd"
      refine r_sl ?_
      walk_at "rd"
      refine r_part ?_
      walk_at "rd"
      refine ⟨1, rfl, r_noPart ?_⟩
      refine ⟨p, _, rfl, SqL.of (e04 _ _ hp), fun D hD => ?_⟩
      rw [cut_tlR]
      have e5 : Ex H4 (upd H4 D (.lst (cs.map V.ref))) := Ex.new hD
      have h5 : (upd H4 D (.lst (cs.map V.ref))) D = some (.lst (cs.map V.ref)) := upd_same
      generalize upd H4 D (.lst (cs.map V.ref)) = H5 at e5 h5 ⊢
      refine ⟨D, rfl, ⟨_, SqL.of h5⟩, ?_⟩
      have e05 := e04.trans e5
      have lq : q0.length = n := by rw [← hlt.1]; exact lcs
      refine r_lcLs (n := cs.length) (k := 5) (by simpa using walk_list (xs := cs.map V.ref)) (fun j => ((cutC q0 i).getD j []).map V.int) (by omega) (fun H' e => SqL.of (e _ _ h5)) (fun _ => rfl) ?_ ?_
      · rintro j y H6 H7 hj e6 ⟨rfl, hy⟩
        refine ⟨Ex.refl _, fun R kR => ?_⟩
        obtain ⟨t, ht, rfl⟩ := ref_at hy
        obtain ⟨s, hs, hw⟩ := (hlt.ex (e05.trans e6)).at ht
        have ls := sz.row s (List.mem_cons_of_mem _ (List.mem_of_getElem? hs))
        have es' : (cutC q0 i).getD j [] = s.take i ++ s.drop (i + 1) := by
          unfold cutC
          rw [List.getD_eq_getElem?_getD, List.getElem?_map, hs]
          rfl
        rw [es'] at kR
        walk_at "rd"
        refine ⟨_, rfl, _, rfl, _, rfl, r_slL hw (cut_tk V.int s i) fun A H9 hA e9 h9 => ?_⟩
        refine r_sl ?_
        walk_at "rd"
        refine r_part ?_
        walk_at "rd"
        refine ⟨_, rfl, r_noPart ?_⟩
        refine ⟨t, _, rfl, SqL.of (e9 _ _ hw), fun G hG => ?_⟩
        rw [show (((i : Nat) : Int) + 1) = ((i + 1 : Nat) : Int) by push_cast; rfl, cut_dr s (i + 1) (by omega)]
        have e12 : Ex H9 (upd H9 G (.lst ((s.drop (i + 1)).map V.int))) := Ex.new hG
        have h12 : (upd H9 G (.lst ((s.drop (i + 1)).map V.int))) G = some (.lst ((s.drop (i + 1)).map V.int)) := upd_same
        generalize upd H9 G (.lst ((s.drop (i + 1)).map V.int)) = H12 at e12 h12 ⊢
        refine r_cat (e12 _ _ h9) h12 (by simp; omega) fun M H13 hM e13 h13 => ?_
        refine kR M H13 ((e9.trans e12).trans e13) ((e9.trans e12).free hM) ?_
        rw [h13, List.map_append]
      · intro M ts H8 hM e8 h8 hlen hnd hnew hrow
        have la8 : LA H8 ts (cutC q0 i) := by
          refine ⟨by rw [hlen, lcs]; simp [cutC, lq], fun j t r ht hr => ?_⟩
          rw [hrow j t ht, List.getD_eq_getElem?_getD, hr]
          rfl
        have szc := sz.cut hi
        refine ⟨cutC q0 i, n, ⟨M, ts, rfl, h8, la8⟩, szc, by omega, by omega, fun H9 e9 => ?_⟩
        walk_at "rd"
        refine r_I (mulOk ((sgn_z i).mul zc) (worN_z n _ (by omega) szc) (by decide) (by omega) (by omega)) ?_
        walk_at "rd"
        refine hN _ _ ⟨((e3.trans e4).trans e5).trans (e8.trans e9), ?_⟩
        rw [es, et]
        rfl
    rintro σ' H5 ⟨e5, rfl⟩
    walk_at "rd"
    refine ⟨some (.int (i : Nat)), some (.int c), ?_, e5⟩
    rw [sgn_s]
    rfl
  · rintro σ' H3 ⟨s3, s4, rfl, e3⟩
    walk_at "rd"
    exact k _ (e02.trans e3)
theorem ok__law_worthC {P : Program} {w : World} {K : PySem.W.Frag} {mg : Str → Option Value} {base : Heap} (T : Txt K mg) : ∃ fd, FnOk P w K mg base (L2.CX P w) 3 (He.ga K "_law_worth") fd ["rows"] (spWor K 2) ∧ Binds K fd ["rows"] [] := by
  obtain ⟨fd, F⟩ := T.d__law_worth
  refine ⟨fd, F.ok sc__law_worth sp1_len (fun cdv A outer s H vs Q E hr h => ?_), F.bindsN fun _ _ _ _ _ _ us hl => match us, hl with | [_], _ => rfl⟩
  obtain ⟨v, rfl, rs, n, ⟨p, cs, rfl, hp, hla⟩, sz, hn, hm, k⟩ := sp1_is h
  obtain ⟨fd__law_worth, F__law_worth, B__law_worth⟩ := ok__law_worthB (P := P) (w := w) (base := base) T
  have hr__law_worth : Room 2 _ := hr.mono (by decide)
  refine ⟨_, (pss_cons (ps_if (pt_cmpR (op_eqD hr.units) (pv 0) (pe_lst pa_nil) (nomark _)) (pss_one (ps_ret pe_int)) pss_nil)
      (pss_cons (ps_asg (pe_tup (pa_cons pe_int (pa_cons pe_int pa_nil))) (pg_tup rfl (pgs_cons (pg_name (i := 1) sc__law_worth.nd rfl (Or.inl rfl)) (pgs_cons (pg_name (i := 2) sc__law_worth.nd rfl (Or.inl rfl)) pgs_nil))))
      (pss_cons (ps_for (passes_of rfl) rfl (pi_enum (by rfl) T.b_enumerate (pa_cons (pe_ix (kx_ixl rfl) (pv 0) pe_int (fun _ _ => rfl)) pa_nil)) (pg_tup rfl (pgs_cons (pg_name (i := 3) sc__law_worth.nd rfl (Or.inr rfl)) (pgs_cons (pg_name (i := 4) sc__law_worth.nd rfl (Or.inl rfl)) pgs_nil))) (pss_cons (ps_if (pt_cmpR op_ne (pv 4) pe_int (nomark _)) (pss_one (ps_set (i := 1) sc__law_worth.nd rfl (Or.inl rfl) (pe_op op_add (pv 1) (pe_op op_mulW (pe_op op_mulW (pv 2) (pv 4)) (pe_call F__law_worth hr__law_worth (by rfl) T.g__law_worth T.k__law_worth B__law_worth .nil passL (pa_cons (pe_lc (own := [("row", 5)]) (g := gName 5) (tt := tYes)  rfl sc__law_worth.nd (pi_list (pe_slice sl_list (pv 0) (po_some pe_int) po_none)) (blkOk_by (own := [("row", 5)]) (N := ["rows", "total", "sign", "at", "number", "row"]) (sc := defScope s__law_worth) (by decide +kernel)) (fun _ _ _ _ _ => (pg_name (i := 5) sc__law_worth.nd rfl (Or.inl rfl))) (fun _ _ _ _ _ => pts_nil) (fun _ _ _ _ _ => (pe_op op_cat (pe_slice (kx_sll (K := K) rfl) (pv 5) po_none (po_some (pv 3))) (pe_slice (kx_sll (K := K) rfl) (pv 5) (po_some (pe_op op_add (pv 3) pe_int)) po_none)))) pa_nil)))))) pss_nil)
      (pss_one (ps_set (i := 2) sc__law_worth.nd rfl (Or.inl rfl) (pe_un un_neg (pv 2))))))
      (pss_one (ps_ret (pv 1)))))), ?_⟩
  walk_at "rd"
  refine r_newL (Nat.zero_le _) fun B H1 hB e1 h1 => ?_
  refine r_eqLL (us := []) (qs := []) (e1 _ _ hp) (hla.ex e1) h1 LA.nil ?_
  refine ⟨_, rfl, ?_⟩
  cases n with
  | zero =>
    obtain rfl : rs = [] := List.length_eq_zero_iff.mp sz.len
    refine ite_t rfl ?_
    walk_at "rd"
    exact k _ e1
  | succ n =>
  obtain ⟨r0, q0, rfl⟩ : ∃ r q, rs = r :: q := by
    cases rs with
    | nil => exact absurd sz.len (by simp)
    | cons r q => exact ⟨r, q, rfl⟩
  obtain ⟨t0, cs, rfl⟩ : ∃ t ts, cs = t :: ts := by
    cases cs with
    | nil => exact absurd hla.1 (by simp)
    | cons t ts => exact ⟨t, ts, rfl⟩
  obtain ⟨hw0, hlt⟩ := hla.tail
  have l0 := sz.row r0 List.mem_cons_self
  have lcs : cs.length = n := by have := hla.1; have := sz.len; simp at *; omega
  refine ite_f (by simp) ?_
  walk_at "rd"
  refine r_newT (sz_le (by simp)) fun t1 H2 ht1 e2 h2 => ?_
  refine r_gTup h2 rfl (r_gCons (r_gName (r_gCons (r_gName (r_gNil ?_)))))
  walk_at "rd"
  have e02 := e1.trans e2
  refine r_ixL (e02 _ _ hp) (v := .ref t0) (atI_nat (j := 0) rfl) ?_
  walk_at "rd"
  refine ⟨t0, _, rfl, SqL.of (e02 _ _ hw0), ?_⟩
  let term : Nat → Int := fun a => sgn a * r0.getD a 0 * worN n (cutC q0 a)
  refine for_of (by have := walk_enum (K := K) (a := t0) (xs := r0.map V.int); rwa [List.length_map, l0] at this) (n := n + 1) (fun i σ' H' => ∃ s3 s4, σ' = [some (.ref p), some (.int ((List.range i).map term).sum), some (.int (sgn i)), s3, s4, none] ∧ Ex H2 H') ⟨none, none, rfl, Ex.refl _⟩ (fun _ _ _ _ ⟨_, _, _, e⟩ => SqL.of ((e02.trans e) _ _ hw0)) ?_ ?_
  · rintro i x σ' H3 H4 hi ⟨s3, s4, rfl, e3⟩ ⟨T0, x1, x2, rfl, hT, rfl, g1, g2⟩
    cases g1
    obtain ⟨c, hc, rfl⟩ := int_at g2
    refine r_gTup upd_same rfl (r_gCons (r_gName (r_gCons (r_gName (r_gNil ?_)))))
    have e4 : Ex H3 (upd H3 T0 (.tup [.int (i : Nat), .int c])) := Ex.new hT
    generalize upd H3 T0 (.tup [.int (i : Nat), .int c]) = H4 at e4 ⊢
    have zc := sz.z r0 List.mem_cons_self c (List.mem_of_getElem? hc)
    have et : term i = sgn i * c * worN n (cutC q0 i) := by
      show sgn i * r0.getD i 0 * _ = _
      rw [List.getD_eq_getElem?_getD, hc]
      rfl
    have es : ((List.range (i + 1)).map term).sum = ((List.range i).map term).sum + term i := by simp [List.range_succ]
    have e04 := e02.trans (e3.trans e4)
    walk_at "rx"
    refine r_seqJ (fun σ' H' => Ex H2 H' ∧ σ' = [some (.ref p), some (.int ((List.range (i + 1)).map term).sum), some (.int (sgn i)), some (.int (i : Nat)), some (.int c), none]) (fun N hN => ?_) ?_
    · walk_at "rd"
      by_cases c0 : c = 0
      · refine ite_f (by simp [c0]) ?_
        walk_at "rd"
        refine hN _ _ ⟨e3.trans e4, ?_⟩
        rw [es, et, c0]
        simp
      refine ite_t (by simp [c0]) ?_
      walk_at "rd"
      refine r_I (mulOk (sgn_z i) zc (by decide) (by decide) (by decide)) ?_
      walk_at "rd"
      refine r_sl ?_
      walk_at "rd"
      refine r_part ?_
      walk_at "rd"
      refine ⟨1, rfl, r_noPart ?_⟩
      refine ⟨p, _, rfl, SqL.of (e04 _ _ hp), fun D hD => ?_⟩
      rw [cut_tlR]
      have e5 : Ex H4 (upd H4 D (.lst (cs.map V.ref))) := Ex.new hD
      have h5 : (upd H4 D (.lst (cs.map V.ref))) D = some (.lst (cs.map V.ref)) := upd_same
      generalize upd H4 D (.lst (cs.map V.ref)) = H5 at e5 h5 ⊢
      refine ⟨D, rfl, ⟨_, SqL.of h5⟩, ?_⟩
      have e05 := e04.trans e5
      have lq : q0.length = n := by rw [← hlt.1]; exact lcs
      refine r_lcLs (n := cs.length) (k := 5) (by simpa using walk_list (xs := cs.map V.ref)) (fun j => ((cutC q0 i).getD j []).map V.int) (by omega) (fun H' e => SqL.of (e _ _ h5)) (fun _ => rfl) ?_ ?_
      · rintro j y H6 H7 hj e6 ⟨rfl, hy⟩
        refine ⟨Ex.refl _, fun R kR => ?_⟩
        obtain ⟨t, ht, rfl⟩ := ref_at hy
        obtain ⟨s, hs, hw⟩ := (hlt.ex (e05.trans e6)).at ht
        have ls := sz.row s (List.mem_cons_of_mem _ (List.mem_of_getElem? hs))
        have es' : (cutC q0 i).getD j [] = s.take i ++ s.drop (i + 1) := by
          unfold cutC
          rw [List.getD_eq_getElem?_getD, List.getElem?_map, hs]
          rfl
        rw [es'] at kR
        walk_at "rd"
        refine ⟨_, rfl, _, rfl, _, rfl, r_slL hw (cut_tk V.int s i) fun A H9 hA e9 h9 => ?_⟩
        refine r_sl ?_
        walk_at "rd"
        refine r_part ?_
        walk_at "rd"
        refine ⟨_, rfl, r_noPart ?_⟩
        refine ⟨t, _, rfl, SqL.of (e9 _ _ hw), fun G hG => ?_⟩
        rw [show (((i : Nat) : Int) + 1) = ((i + 1 : Nat) : Int) by push_cast; rfl, cut_dr s (i + 1) (by omega)]
        have e12 : Ex H9 (upd H9 G (.lst ((s.drop (i + 1)).map V.int))) := Ex.new hG
        have h12 : (upd H9 G (.lst ((s.drop (i + 1)).map V.int))) G = some (.lst ((s.drop (i + 1)).map V.int)) := upd_same
        generalize upd H9 G (.lst ((s.drop (i + 1)).map V.int)) = H12 at e12 h12 ⊢
        refine r_cat (e12 _ _ h9) h12 (by simp; omega) fun M H13 hM e13 h13 => ?_
        refine kR M H13 ((e9.trans e12).trans e13) ((e9.trans e12).free hM) ?_
        rw [h13, List.map_append]
      · intro M ts H8 hM e8 h8 hlen hnd hnew hrow
        have la8 : LA H8 ts (cutC q0 i) := by
          refine ⟨by rw [hlen, lcs]; simp [cutC, lq], fun j t r ht hr => ?_⟩
          rw [hrow j t ht, List.getD_eq_getElem?_getD, hr]
          rfl
        have szc := sz.cut hi
        refine ⟨cutC q0 i, n, ⟨M, ts, rfl, h8, la8⟩, szc, by omega, by omega, fun H9 e9 => ?_⟩
        walk_at "rd"
        refine r_I (mulOk ((sgn_z i).mul zc) (worN_z n _ (by omega) szc) (by decide) (by omega) (by omega)) ?_
        walk_at "rd"
        refine hN _ _ ⟨((e3.trans e4).trans e5).trans (e8.trans e9), ?_⟩
        rw [es, et]
        rfl
    rintro σ' H5 ⟨e5, rfl⟩
    walk_at "rd"
    refine ⟨some (.int (i : Nat)), some (.int c), ?_, e5⟩
    rw [sgn_s]
    rfl
  · rintro σ' H3 ⟨s3, s4, rfl, e3⟩
    walk_at "rd"
    exact k _ (e02.trans e3)
theorem ok__law_worth0 {P : Program} {w : World} {K : PySem.W.Frag} {mg : Str → Option Value} {base : Heap} (T : Txt K mg) : ∃ fd, FnOk P w K mg base (L2.CX P w) 4 (He.ga K "_law_worth") fd ["rows"] (spWor K 3) ∧ Binds K fd ["rows"] [] := by
  obtain ⟨fd, F⟩ := T.d__law_worth
  refine ⟨fd, F.ok sc__law_worth sp1_len (fun cdv A outer s H vs Q E hr h => ?_), F.bindsN fun _ _ _ _ _ _ us hl => match us, hl with | [_], _ => rfl⟩
  obtain ⟨v, rfl, rs, n, ⟨p, cs, rfl, hp, hla⟩, sz, hn, hm, k⟩ := sp1_is h
  obtain ⟨fd__law_worth, F__law_worth, B__law_worth⟩ := ok__law_worthC (P := P) (w := w) (base := base) T
  have hr__law_worth : Room 3 _ := hr.mono (by decide)
  refine ⟨_, (pss_cons (ps_if (pt_cmpR (op_eqD hr.units) (pv 0) (pe_lst pa_nil) (nomark _)) (pss_one (ps_ret pe_int)) pss_nil)
      (pss_cons (ps_asg (pe_tup (pa_cons pe_int (pa_cons pe_int pa_nil))) (pg_tup rfl (pgs_cons (pg_name (i := 1) sc__law_worth.nd rfl (Or.inl rfl)) (pgs_cons (pg_name (i := 2) sc__law_worth.nd rfl (Or.inl rfl)) pgs_nil))))
      (pss_cons (ps_for (passes_of rfl) rfl (pi_enum (by rfl) T.b_enumerate (pa_cons (pe_ix (kx_ixl rfl) (pv 0) pe_int (fun _ _ => rfl)) pa_nil)) (pg_tup rfl (pgs_cons (pg_name (i := 3) sc__law_worth.nd rfl (Or.inr rfl)) (pgs_cons (pg_name (i := 4) sc__law_worth.nd rfl (Or.inl rfl)) pgs_nil))) (pss_cons (ps_if (pt_cmpR op_ne (pv 4) pe_int (nomark _)) (pss_one (ps_set (i := 1) sc__law_worth.nd rfl (Or.inl rfl) (pe_op op_add (pv 1) (pe_op op_mulW (pe_op op_mulW (pv 2) (pv 4)) (pe_call F__law_worth hr__law_worth (by rfl) T.g__law_worth T.k__law_worth B__law_worth .nil passL (pa_cons (pe_lc (own := [("row", 5)]) (g := gName 5) (tt := tYes)  rfl sc__law_worth.nd (pi_list (pe_slice sl_list (pv 0) (po_some pe_int) po_none)) (blkOk_by (own := [("row", 5)]) (N := ["rows", "total", "sign", "at", "number", "row"]) (sc := defScope s__law_worth) (by decide +kernel)) (fun _ _ _ _ _ => (pg_name (i := 5) sc__law_worth.nd rfl (Or.inl rfl))) (fun _ _ _ _ _ => pts_nil) (fun _ _ _ _ _ => (pe_op op_cat (pe_slice (kx_sll (K := K) rfl) (pv 5) po_none (po_some (pv 3))) (pe_slice (kx_sll (K := K) rfl) (pv 5) (po_some (pe_op op_add (pv 3) pe_int)) po_none)))) pa_nil)))))) pss_nil)
      (pss_one (ps_set (i := 2) sc__law_worth.nd rfl (Or.inl rfl) (pe_un un_neg (pv 2))))))
      (pss_one (ps_ret (pv 1)))))), ?_⟩
  walk_at "rd"
  refine r_newL (Nat.zero_le _) fun B H1 hB e1 h1 => ?_
  refine r_eqLL (us := []) (qs := []) (e1 _ _ hp) (hla.ex e1) h1 LA.nil ?_
  refine ⟨_, rfl, ?_⟩
  cases n with
  | zero =>
    obtain rfl : rs = [] := List.length_eq_zero_iff.mp sz.len
    refine ite_t rfl ?_
    walk_at "rd"
    exact k _ e1
  | succ n =>
  obtain ⟨r0, q0, rfl⟩ : ∃ r q, rs = r :: q := by
    cases rs with
    | nil => exact absurd sz.len (by simp)
    | cons r q => exact ⟨r, q, rfl⟩
  obtain ⟨t0, cs, rfl⟩ : ∃ t ts, cs = t :: ts := by
    cases cs with
    | nil => exact absurd hla.1 (by simp)
    | cons t ts => exact ⟨t, ts, rfl⟩
  obtain ⟨hw0, hlt⟩ := hla.tail
  have l0 := sz.row r0 List.mem_cons_self
  have lcs : cs.length = n := by have := hla.1; have := sz.len; simp at *; omega
  refine ite_f (by simp) ?_
  walk_at "rd"
  refine r_newT (sz_le (by simp)) fun t1 H2 ht1 e2 h2 => ?_
  refine r_gTup h2 rfl (r_gCons (r_gName (r_gCons (r_gName (r_gNil ?_)))))
  walk_at "rd"
  have e02 := e1.trans e2
  refine r_ixL (e02 _ _ hp) (v := .ref t0) (atI_nat (j := 0) rfl) ?_
  walk_at "rd"
  refine ⟨t0, _, rfl, SqL.of (e02 _ _ hw0), ?_⟩
  let term : Nat → Int := fun a => sgn a * r0.getD a 0 * worN n (cutC q0 a)
  refine for_of (by have := walk_enum (K := K) (a := t0) (xs := r0.map V.int); rwa [List.length_map, l0] at this) (n := n + 1) (fun i σ' H' => ∃ s3 s4, σ' = [some (.ref p), some (.int ((List.range i).map term).sum), some (.int (sgn i)), s3, s4, none] ∧ Ex H2 H') ⟨none, none, rfl, Ex.refl _⟩ (fun _ _ _ _ ⟨_, _, _, e⟩ => SqL.of ((e02.trans e) _ _ hw0)) ?_ ?_
  · rintro i x σ' H3 H4 hi ⟨s3, s4, rfl, e3⟩ ⟨T0, x1, x2, rfl, hT, rfl, g1, g2⟩
    cases g1
    obtain ⟨c, hc, rfl⟩ := int_at g2
    refine r_gTup upd_same rfl (r_gCons (r_gName (r_gCons (r_gName (r_gNil ?_)))))
    have e4 : Ex H3 (upd H3 T0 (.tup [.int (i : Nat), .int c])) := Ex.new hT
    generalize upd H3 T0 (.tup [.int (i : Nat), .int c]) = H4 at e4 ⊢
    have zc := sz.z r0 List.mem_cons_self c (List.mem_of_getElem? hc)
    have et : term i = sgn i * c * worN n (cutC q0 i) := by
      show sgn i * r0.getD i 0 * _ = _
      rw [List.getD_eq_getElem?_getD, hc]
      rfl
    have es : ((List.range (i + 1)).map term).sum = ((List.range i).map term).sum + term i := by simp [List.range_succ]
    have e04 := e02.trans (e3.trans e4)
    walk_at "rx"
    refine r_seqJ (fun σ' H' => Ex H2 H' ∧ σ' = [some (.ref p), some (.int ((List.range (i + 1)).map term).sum), some (.int (sgn i)), some (.int (i : Nat)), some (.int c), none]) (fun N hN => ?_) ?_
    · walk_at "rd"
      by_cases c0 : c = 0
      · refine ite_f (by simp [c0]) ?_
        walk_at "rd"
        refine hN _ _ ⟨e3.trans e4, ?_⟩
        rw [es, et, c0]
        simp
      refine ite_t (by simp [c0]) ?_
      walk_at "rd"
      refine r_I (mulOk (sgn_z i) zc (by decide) (by decide) (by decide)) ?_
      walk_at "rd"
      refine r_sl ?_
      walk_at "rd"
      refine r_part ?_
      walk_at "rd"
      refine ⟨1, rfl, r_noPart ?_⟩
      refine ⟨p, _, rfl, SqL.of (e04 _ _ hp), fun D hD => ?_⟩
      rw [cut_tlR]
      have e5 : Ex H4 (upd H4 D (.lst (cs.map V.ref))) := Ex.new hD
      have h5 : (upd H4 D (.lst (cs.map V.ref))) D = some (.lst (cs.map V.ref)) := upd_same
      generalize upd H4 D (.lst (cs.map V.ref)) = H5 at e5 h5 ⊢
      refine ⟨D, rfl, ⟨_, SqL.of h5⟩, ?_⟩
      have e05 := e04.trans e5
      have lq : q0.length = n := by rw [← hlt.1]; exact lcs
      refine r_lcLs (n := cs.length) (k := 5) (by simpa using walk_list (xs := cs.map V.ref)) (fun j => ((cutC q0 i).getD j []).map V.int) (by omega) (fun H' e => SqL.of (e _ _ h5)) (fun _ => rfl) ?_ ?_
      · rintro j y H6 H7 hj e6 ⟨rfl, hy⟩
        refine ⟨Ex.refl _, fun R kR => ?_⟩
        obtain ⟨t, ht, rfl⟩ := ref_at hy
        obtain ⟨s, hs, hw⟩ := (hlt.ex (e05.trans e6)).at ht
        have ls := sz.row s (List.mem_cons_of_mem _ (List.mem_of_getElem? hs))
        have es' : (cutC q0 i).getD j [] = s.take i ++ s.drop (i + 1) := by
          unfold cutC
          rw [List.getD_eq_getElem?_getD, List.getElem?_map, hs]
          rfl
        rw [es'] at kR
        walk_at "rd"
        refine ⟨_, rfl, _, rfl, _, rfl, r_slL hw (cut_tk V.int s i) fun A H9 hA e9 h9 => ?_⟩
        refine r_sl ?_
        walk_at "rd"
        refine r_part ?_
        walk_at "rd"
        refine ⟨_, rfl, r_noPart ?_⟩
        refine ⟨t, _, rfl, SqL.of (e9 _ _ hw), fun G hG => ?_⟩
        rw [show (((i : Nat) : Int) + 1) = ((i + 1 : Nat) : Int) by push_cast; rfl, cut_dr s (i + 1) (by omega)]
        have e12 : Ex H9 (upd H9 G (.lst ((s.drop (i + 1)).map V.int))) := Ex.new hG
        have h12 : (upd H9 G (.lst ((s.drop (i + 1)).map V.int))) G = some (.lst ((s.drop (i + 1)).map V.int)) := upd_same
        generalize upd H9 G (.lst ((s.drop (i + 1)).map V.int)) = H12 at e12 h12 ⊢
        refine r_cat (e12 _ _ h9) h12 (by simp; omega) fun M H13 hM e13 h13 => ?_
        refine kR M H13 ((e9.trans e12).trans e13) ((e9.trans e12).free hM) ?_
        rw [h13, List.map_append]
      · intro M ts H8 hM e8 h8 hlen hnd hnew hrow
        have la8 : LA H8 ts (cutC q0 i) := by
          refine ⟨by rw [hlen, lcs]; simp [cutC, lq], fun j t r ht hr => ?_⟩
          rw [hrow j t ht, List.getD_eq_getElem?_getD, hr]
          rfl
        have szc := sz.cut hi
        refine ⟨cutC q0 i, n, ⟨M, ts, rfl, h8, la8⟩, szc, by omega, by omega, fun H9 e9 => ?_⟩
        walk_at "rd"
        refine r_I (mulOk ((sgn_z i).mul zc) (worN_z n _ (by omega) szc) (by decide) (by omega) (by omega)) ?_
        walk_at "rd"
        refine hN _ _ ⟨((e3.trans e4).trans e5).trans (e8.trans e9), ?_⟩
        rw [es, et]
        rfl
    rintro σ' H5 ⟨e5, rfl⟩
    walk_at "rd"
    refine ⟨some (.int (i : Nat)), some (.int c), ?_, e5⟩
    rw [sgn_s]
    rfl
  · rintro σ' H3 ⟨s3, s4, rfl, e3⟩
    walk_at "rd"
    exact k _ (e02.trans e3)
theorem ok__law_worth {P : Program} {w : World} {K : PySem.W.Frag} {mg : Str → Option Value} {base : Heap} (T : Txt K mg) : ∃ fd, FnOk P w K mg base (L2.CX P w) 5 (He.ga K "_law_worth") fd ["rows"] (spWor K 4) ∧ Binds K fd ["rows"] [] := by
  obtain ⟨fd, F⟩ := T.d__law_worth
  obtain ⟨fd__law_worth, F__law_worth, B__law_worth⟩ := ok__law_worth0 (P := P) (w := w) (base := base) T
  refine ⟨fd, F.ok sc__law_worth sp1_len (fun cdv A outer s H vs Q E hr h => ?_), F.bindsN fun _ _ _ _ _ _ us hl => match us, hl with | [_], _ => rfl⟩
  have hr__law_worth : Room 4 _ := hr.mono (by decide)
  obtain ⟨v, rfl, rs, n, ⟨p, cs, rfl, hp, hla⟩, sz, hn, hm, k⟩ := sp1_is h
  refine ⟨_, (pss_cons (ps_if (pt_cmpR (op_eqD hr.units) (pv 0) (pe_lst pa_nil) (nomark _)) (pss_one (ps_ret pe_int)) pss_nil)
      (pss_cons (ps_asg (pe_tup (pa_cons pe_int (pa_cons pe_int pa_nil))) (pg_tup rfl (pgs_cons (pg_name (i := 1) sc__law_worth.nd rfl (Or.inl rfl)) (pgs_cons (pg_name (i := 2) sc__law_worth.nd rfl (Or.inl rfl)) pgs_nil))))
      (pss_cons (ps_for (passes_of rfl) rfl (pi_enum (by rfl) T.b_enumerate (pa_cons (pe_ix (kx_ixl rfl) (pv 0) pe_int (fun _ _ => rfl)) pa_nil)) (pg_tup rfl (pgs_cons (pg_name (i := 3) sc__law_worth.nd rfl (Or.inr rfl)) (pgs_cons (pg_name (i := 4) sc__law_worth.nd rfl (Or.inl rfl)) pgs_nil))) (pss_cons (ps_if (pt_cmpR op_ne (pv 4) pe_int (nomark _)) (pss_one (ps_set (i := 1) sc__law_worth.nd rfl (Or.inl rfl) (pe_op op_add (pv 1) (pe_op op_mulW (pe_op op_mulW (pv 2) (pv 4)) (pe_call F__law_worth hr__law_worth (by rfl) T.g__law_worth T.k__law_worth B__law_worth .nil passL (pa_cons (pe_lc (own := [("row", 5)]) (g := gName 5) (tt := tYes)  rfl sc__law_worth.nd (pi_list (pe_slice sl_list (pv 0) (po_some pe_int) po_none)) (blkOk_by (own := [("row", 5)]) (N := ["rows", "total", "sign", "at", "number", "row"]) (sc := defScope s__law_worth) (by decide +kernel)) (fun _ _ _ _ _ => (pg_name (i := 5) sc__law_worth.nd rfl (Or.inl rfl))) (fun _ _ _ _ _ => pts_nil) (fun _ _ _ _ _ => (pe_op op_cat (pe_slice (kx_sll (K := K) rfl) (pv 5) po_none (po_some (pv 3))) (pe_slice (kx_sll (K := K) rfl) (pv 5) (po_some (pe_op op_add (pv 3) pe_int)) po_none)))) pa_nil)))))) pss_nil)
      (pss_one (ps_set (i := 2) sc__law_worth.nd rfl (Or.inl rfl) (pe_un un_neg (pv 2))))))
      (pss_one (ps_ret (pv 1)))))), ?_⟩
  walk_at "rd"
  refine r_newL (Nat.zero_le _) fun B H1 hB e1 h1 => ?_
  refine r_eqLL (us := []) (qs := []) (e1 _ _ hp) (hla.ex e1) h1 LA.nil ?_
  refine ⟨_, rfl, ?_⟩
  cases n with
  | zero =>
    obtain rfl : rs = [] := List.length_eq_zero_iff.mp sz.len
    refine ite_t rfl ?_
    walk_at "rd"
    exact k _ e1
  | succ n =>
  obtain ⟨r0, q0, rfl⟩ : ∃ r q, rs = r :: q := by
    cases rs with
    | nil => exact absurd sz.len (by simp)
    | cons r q => exact ⟨r, q, rfl⟩
  obtain ⟨t0, cs, rfl⟩ : ∃ t ts, cs = t :: ts := by
    cases cs with
    | nil => exact absurd hla.1 (by simp)
    | cons t ts => exact ⟨t, ts, rfl⟩
  obtain ⟨hw0, hlt⟩ := hla.tail
  have l0 := sz.row r0 List.mem_cons_self
  have lcs : cs.length = n := by have := hla.1; have := sz.len; simp at *; omega
  refine ite_f (by simp) ?_
  walk_at "rd"
  refine r_newT (sz_le (by simp)) fun t1 H2 ht1 e2 h2 => ?_
  refine r_gTup h2 rfl (r_gCons (r_gName (r_gCons (r_gName (r_gNil ?_)))))
  walk_at "rd"
  have e02 := e1.trans e2
  refine r_ixL (e02 _ _ hp) (v := .ref t0) (atI_nat (j := 0) rfl) ?_
  walk_at "rd"
  refine ⟨t0, _, rfl, SqL.of (e02 _ _ hw0), ?_⟩
  let term : Nat → Int := fun a => sgn a * r0.getD a 0 * worN n (cutC q0 a)
  refine for_of (by have := walk_enum (K := K) (a := t0) (xs := r0.map V.int); rwa [List.length_map, l0] at this) (n := n + 1) (fun i σ' H' => ∃ s3 s4, σ' = [some (.ref p), some (.int ((List.range i).map term).sum), some (.int (sgn i)), s3, s4, none] ∧ Ex H2 H') ⟨none, none, rfl, Ex.refl _⟩ (fun _ _ _ _ ⟨_, _, _, e⟩ => SqL.of ((e02.trans e) _ _ hw0)) ?_ ?_
  · rintro i x σ' H3 H4 hi ⟨s3, s4, rfl, e3⟩ ⟨T0, x1, x2, rfl, hT, rfl, g1, g2⟩
    cases g1
    obtain ⟨c, hc, rfl⟩ := int_at g2
    refine r_gTup upd_same rfl (r_gCons (r_gName (r_gCons (r_gName (r_gNil ?_)))))
    have e4 : Ex H3 (upd H3 T0 (.tup [.int (i : Nat), .int c])) := Ex.new hT
    generalize upd H3 T0 (.tup [.int (i : Nat), .int c]) = H4 at e4 ⊢
    have zc := sz.z r0 List.mem_cons_self c (List.mem_of_getElem? hc)
    have et : term i = sgn i * c * worN n (cutC q0 i) := by
      show sgn i * r0.getD i 0 * _ = _
      rw [List.getD_eq_getElem?_getD, hc]
      rfl
    have es : ((List.range (i + 1)).map term).sum = ((List.range i).map term).sum + term i := by simp [List.range_succ]
    have e04 := e02.trans (e3.trans e4)
    walk_at "rx"
    refine r_seqJ (fun σ' H' => Ex H2 H' ∧ σ' = [some (.ref p), some (.int ((List.range (i + 1)).map term).sum), some (.int (sgn i)), some (.int (i : Nat)), some (.int c), none]) (fun N hN => ?_) ?_
    · walk_at "rd"
      by_cases c0 : c = 0
      · refine ite_f (by simp [c0]) ?_
        walk_at "rd"
        refine hN _ _ ⟨e3.trans e4, ?_⟩
        rw [es, et, c0]
        simp
      refine ite_t (by simp [c0]) ?_
      walk_at "rd"
      refine r_I (mulOk (sgn_z i) zc (by decide) (by decide) (by decide)) ?_
      walk_at "rd"
      refine r_sl ?_
      walk_at "rd"
      refine r_part ?_
      walk_at "rd"
      refine ⟨1, rfl, r_noPart ?_⟩
      refine ⟨p, _, rfl, SqL.of (e04 _ _ hp), fun D hD => ?_⟩
      rw [cut_tlR]
      have e5 : Ex H4 (upd H4 D (.lst (cs.map V.ref))) := Ex.new hD
      have h5 : (upd H4 D (.lst (cs.map V.ref))) D = some (.lst (cs.map V.ref)) := upd_same
      generalize upd H4 D (.lst (cs.map V.ref)) = H5 at e5 h5 ⊢
      refine ⟨D, rfl, ⟨_, SqL.of h5⟩, ?_⟩
      have e05 := e04.trans e5
      have lq : q0.length = n := by rw [← hlt.1]; exact lcs
      refine r_lcLs (n := cs.length) (k := 5) (by simpa using walk_list (xs := cs.map V.ref)) (fun j => ((cutC q0 i).getD j []).map V.int) (by omega) (fun H' e => SqL.of (e _ _ h5)) (fun _ => rfl) ?_ ?_
      · rintro j y H6 H7 hj e6 ⟨rfl, hy⟩
        refine ⟨Ex.refl _, fun R kR => ?_⟩
        obtain ⟨t, ht, rfl⟩ := ref_at hy
        obtain ⟨s, hs, hw⟩ := (hlt.ex (e05.trans e6)).at ht
        have ls := sz.row s (List.mem_cons_of_mem _ (List.mem_of_getElem? hs))
        have es' : (cutC q0 i).getD j [] = s.take i ++ s.drop (i + 1) := by
          unfold cutC
          rw [List.getD_eq_getElem?_getD, List.getElem?_map, hs]
          rfl
        rw [es'] at kR
        walk_at "rd"
        refine ⟨_, rfl, _, rfl, _, rfl, r_slL hw (cut_tk V.int s i) fun A H9 hA e9 h9 => ?_⟩
        refine r_sl ?_
        walk_at "rd"
        refine r_part ?_
        walk_at "rd"
        refine ⟨_, rfl, r_noPart ?_⟩
        refine ⟨t, _, rfl, SqL.of (e9 _ _ hw), fun G hG => ?_⟩
        rw [show (((i : Nat) : Int) + 1) = ((i + 1 : Nat) : Int) by push_cast; rfl, cut_dr s (i + 1) (by omega)]
        have e12 : Ex H9 (upd H9 G (.lst ((s.drop (i + 1)).map V.int))) := Ex.new hG
        have h12 : (upd H9 G (.lst ((s.drop (i + 1)).map V.int))) G = some (.lst ((s.drop (i + 1)).map V.int)) := upd_same
        generalize upd H9 G (.lst ((s.drop (i + 1)).map V.int)) = H12 at e12 h12 ⊢
        refine r_cat (e12 _ _ h9) h12 (by simp; omega) fun M H13 hM e13 h13 => ?_
        refine kR M H13 ((e9.trans e12).trans e13) ((e9.trans e12).free hM) ?_
        rw [h13, List.map_append]
      · intro M ts H8 hM e8 h8 hlen hnd hnew hrow
        have la8 : LA H8 ts (cutC q0 i) := by
          refine ⟨by rw [hlen, lcs]; simp [cutC, lq], fun j t r ht hr => ?_⟩
          rw [hrow j t ht, List.getD_eq_getElem?_getD, hr]
          rfl
        have szc := sz.cut hi
        refine ⟨cutC q0 i, n, ⟨M, ts, rfl, h8, la8⟩, szc, by omega, by omega, fun H9 e9 => ?_⟩
        walk_at "rd"
        refine r_I (mulOk ((sgn_z i).mul zc) (worN_z n _ (by omega) szc) (by decide) (by omega) (by omega)) ?_
        walk_at "rd"
        refine hN _ _ ⟨((e3.trans e4).trans e5).trans (e8.trans e9), ?_⟩
        rw [es, et]
        rfl
    rintro σ' H5 ⟨e5, rfl⟩
    walk_at "rd"
    refine ⟨some (.int (i : Nat)), some (.int c), ?_, e5⟩
    rw [sgn_s]
    rfl
  · rintro σ' H3 ⟨s3, s4, rfl, e3⟩
    walk_at "rd"
    exact k _ (e02.trans e3)

end K36
namespace K36
open PySem PySem.Spec PyProof.Rows L2 GS TL
local macro_rules | `(tactic| walk_at "rd") => `(tactic| (repeat (first
  | with_reducible refine r_next ?_
  | with_reducible refine r_seq ?_
  | with_reducible refine r_ret ?_
  | with_reducible refine r_ifS ?_
  | with_reducible refine r_asg ?_
  | with_reducible refine r_drop ?_
  | with_reducible refine r_op ?_
  | with_reducible refine r_un ?_
  | with_reducible refine r_cbInt ?_
  | with_reducible refine r_cbAbs ?_
  | with_reducible refine r_cbLen ?_
  | with_reducible refine r_cbList ?_
  | with_reducible refine r_cbTup ?_
  | with_reducible refine r_iEnT ?_
  | with_reducible refine r_iEnL ?_
  | with_reducible refine r_zipA ?_
  | with_reducible refine r_zipX ?_
  | with_reducible refine r_augS ?_
  | with_reducible refine r_cb ?_
  | with_reducible refine r_call ?_
  | with_reducible refine r_make ?_
  | with_reducible refine r_callN0 ?_
  | with_reducible refine r_makeK0 ?_
  | with_reducible refine r_makeS ?_
  | with_reducible refine r_callS ?_
  | with_reducible refine r_cons ?_
  | with_reducible refine r_nil ?_
  | with_reducible refine r_test ?_
  | with_reducible refine r_B ?_
  | with_reducible refine r_and ?_
  | with_reducible refine r_or ?_
  | with_reducible refine r_not ?_
  | with_reducible refine r_andV ?_
  | with_reducible refine r_orV ?_
  | with_reducible refine r_notV ?_
  | with_reducible refine r_if ?_
  | with_reducible refine r_tup ?_
  | with_reducible refine r_lst ?_
  | with_reducible refine r_c ?_
  | with_reducible refine r_lc ?_
  | with_reducible refine r_chain ?_
  | with_reducible refine r_iT ?_
  | with_reducible refine r_iL ?_
  | with_reducible refine r_iR1 ?_
  | with_reducible refine r_iR2 ?_
  | with_reducible refine r_iR3 ?_
  | with_reducible refine r_asgG ?_
  | with_reducible refine r_gSub ?_
  | with_reducible refine r_for ?_
  | with_reducible refine r_smeth ?_
  | with_reducible refine r_par ?_
  | with_reducible refine r_parK ?_
  | with_reducible refine r_gCons ?_
  | with_reducible refine r_gNil ?_
  | with_reducible refine r_gName ?_
  | with_reducible refine r_intI ?_
  | with_reducible refine r_intB ?_
  | with_reducible refine r_absI ?_
  | with_reducible refine r_k ?_
  | with_reducible refine r_kV ?_
  | ((with_reducible show tVar _ _ _ _); refine r_var3 ?_ (by rfl))
  | with_reducible refine r_I0 ?_
  | with_reducible refine r_U ?_
  | with_reducible refine r_eqI ?_
  | with_reducible refine r_neI ?_
  | with_reducible refine r_F ?_
  | dsimp only)))
local macro_rules | `(tactic| walk_at "rx") => `(tactic| (repeat (first
  | with_reducible refine r_next ?_
  | with_reducible refine r_ret ?_
  | with_reducible refine r_ifS ?_
  | with_reducible refine r_asg ?_
  | with_reducible refine r_drop ?_
  | with_reducible refine r_op ?_
  | with_reducible refine r_un ?_
  | with_reducible refine r_cbInt ?_
  | with_reducible refine r_cbAbs ?_
  | with_reducible refine r_cbLen ?_
  | with_reducible refine r_cbList ?_
  | with_reducible refine r_cbTup ?_
  | with_reducible refine r_iEnT ?_
  | with_reducible refine r_iEnL ?_
  | with_reducible refine r_zipA ?_
  | with_reducible refine r_zipX ?_
  | with_reducible refine r_augS ?_
  | with_reducible refine r_cb ?_
  | with_reducible refine r_call ?_
  | with_reducible refine r_make ?_
  | with_reducible refine r_callN0 ?_
  | with_reducible refine r_makeK0 ?_
  | with_reducible refine r_makeS ?_
  | with_reducible refine r_callS ?_
  | with_reducible refine r_cons ?_
  | with_reducible refine r_nil ?_
  | with_reducible refine r_test ?_
  | with_reducible refine r_B ?_
  | with_reducible refine r_and ?_
  | with_reducible refine r_or ?_
  | with_reducible refine r_not ?_
  | with_reducible refine r_andV ?_
  | with_reducible refine r_orV ?_
  | with_reducible refine r_notV ?_
  | with_reducible refine r_if ?_
  | with_reducible refine r_tup ?_
  | with_reducible refine r_lst ?_
  | with_reducible refine r_c ?_
  | with_reducible refine r_lc ?_
  | with_reducible refine r_chain ?_
  | with_reducible refine r_iT ?_
  | with_reducible refine r_iL ?_
  | with_reducible refine r_iR1 ?_
  | with_reducible refine r_iR2 ?_
  | with_reducible refine r_iR3 ?_
  | with_reducible refine r_asgG ?_
  | with_reducible refine r_gSub ?_
  | with_reducible refine r_for ?_
  | with_reducible refine r_smeth ?_
  | with_reducible refine r_par ?_
  | with_reducible refine r_parK ?_
  | with_reducible refine r_gCons ?_
  | with_reducible refine r_gNil ?_
  | with_reducible refine r_gName ?_
  | with_reducible refine r_intI ?_
  | with_reducible refine r_intB ?_
  | with_reducible refine r_absI ?_
  | with_reducible refine r_k ?_
  | with_reducible refine r_kV ?_
  | ((with_reducible show tVar _ _ _ _); refine r_var3 ?_ (by rfl))
  | with_reducible refine r_I0 ?_
  | with_reducible refine r_U ?_
  | with_reducible refine r_eqI ?_
  | with_reducible refine r_neI ?_
  | with_reducible refine r_F ?_
  | dsimp only)))
/-! ### polys of tables by minors -/
def lotsL : Nat → List (List Int)
  | 0 => [[]]
  | n + 1 => lotsL n ++ (lotsL n).map fun s => s ++ [(n : Int)]
theorem lots_few : ∀ n, n ≤ 4 → (lotsL n).length ≤ 16 := by decide
theorem lots_in : ∀ n, n ≤ 4 → ∀ s ∈ lotsL n, s.length ≤ n ∧ ∀ i ∈ s, 0 ≤ i ∧ i < n := by decide
def spLots (K : PySem.W.Frag) : Sp := sp1 fun v H Q _ => ∃ d : Nat, v = .int d ∧ d ≤ 4 ∧ ∀ p cs H', H p = none → (∀ t ∈ cs, H t = none) → Ex H H' → H' p = some (.lst (cs.map V.ref)) → LA H' cs (lotsL d) → Q (.ref p) H'
theorem ok__law_lots {P : Program} {w : World} {K : PySem.W.Frag} {mg : Str → Option Value} {base : Heap} (T : Txt K mg) : ∃ fd, FnOk P w K mg base (L2.CX P w) 1 (He.ga K "_law_lots") fd ["size"] (spLots K) ∧ Binds K fd ["size"] [] := by
  obtain ⟨fd, F⟩ := T.d__law_lots
  refine ⟨fd, F.ok sc__law_lots sp1_len (fun cdv A outer s H vs Q E hr h => ?_), F.bindsN fun _ _ _ _ _ _ us hl => match us, hl with | [_], _ => rfl⟩
  obtain ⟨v, rfl, d, rfl, d4, k⟩ := sp1_is h
  refine ⟨_, (pss_cons (ps_set (i := 1) sc__law_lots.nd rfl (Or.inl rfl) (pe_lst (pa_cons (pe_lst pa_nil) pa_nil)))
      (pss_cons (ps_for (passes_of rfl) rfl (pi_range1 (by rfl) T.b_range (pa_cons (pv 0) pa_nil)) (pg_name (i := 2) sc__law_lots.nd rfl (Or.inr rfl)) (pss_one (ps_set (i := 1) sc__law_lots.nd rfl (Or.inl rfl) (pe_op op_cat (pv 1) (pe_lc (own := [("some", 3)]) (g := gName 3) (tt := tYes)  rfl sc__law_lots.nd (pi_list (pv 1)) (blkOk_by (own := [("some", 3)]) (N := ["size", "found", "place", "some"]) (sc := defScope s__law_lots) (by decide +kernel)) (fun _ _ _ _ _ => (pg_name (i := 3) sc__law_lots.nd rfl (Or.inl rfl))) (fun _ _ _ _ _ => pts_nil) (fun _ _ _ _ _ => (pe_op op_cat (pv 3) (pe_lst (pa_cons (pv 2) pa_nil)))))))))
      (pss_one (ps_ret (pv 1))))), ?_⟩
  walk_at "rd"
  refine r_newL (Nat.zero_le _) fun E0 H1 hE0 e1 h1 => ?_
  walk_at "rd"
  refine r_newL (sz_le (by simp)) fun F0 H2 hF0 e2 h2 => ?_
  walk_at "rd"
  refine ⟨_, rfl, by omega, by omega, ?_⟩
  rw [Int.toNat_natCast]
  refine for_of (walk_range (lo := 0) (n := d)) (fun i σ' H' => ∃ q cs s2, σ' = [some (.int d), some (.ref q), s2, none] ∧ H q = none ∧ (∀ t ∈ cs, H t = none) ∧ Ex H H' ∧ H' q = some (.lst (cs.map V.ref)) ∧ LA H' cs (lotsL i)) ⟨F0, [E0], none, rfl, e1.free hF0, fun t ht => by rw [List.mem_singleton.mp ht]; exact hE0, e1.trans e2, h2, LA.cons (r := []) (e2 _ _ h1) LA.nil⟩ (fun _ _ _ _ _ => trivial) ?_ ?_
  · rintro i x σ' H4 H3 hi ⟨q, cs, s2, rfl, hq, hcs, e3, h3, la3⟩ ⟨rfl, hx⟩
    obtain rfl : x = V.int (i : Nat) := hx.trans (congrArg V.int (Int.zero_add _))
    refine r_gName ?_
    have few := lots_few i (by omega)
    have lcs := la3.1
    walk_at "rd"
    refine ⟨q, rfl, ⟨_, SqL.of h3⟩, ?_⟩
    refine r_lcLs (n := cs.length) (k := 3) (by simpa using walk_list (xs := cs.map V.ref)) (fun j => ((lotsL i).getD j [] ++ [(i : Int)]).map V.int) (by omega) (fun H' e => SqL.of (e _ _ h3)) (fun _ => rfl) ?_ ?_
    · rintro j y H6 H7 hj e6 ⟨rfl, hy⟩
      refine ⟨Ex.refl _, fun R kR => ?_⟩
      obtain ⟨t, ht, rfl⟩ := ref_at hy
      obtain ⟨s, hs, hw⟩ := (la3.ex e6).at ht
      have ls := (lots_in i (by omega) s (List.mem_of_getElem? hs)).1
      rw [List.getD_eq_getElem?_getD, hs] at kR
      walk_at "rd"
      refine r_newL (sz_le (by simp)) fun B H8 hB e8 h8 => ?_
      refine r_cat (e8 _ _ hw) h8 (by simp; omega) fun C H9 hC e9 h9 => kR C H9 (e8.trans e9) (e8.free hC) ?_
      rw [h9]
      simp
    intro M ts H5 hM e5 h5 hlen hnd hnew hrow
    have la5 : LA H5 ts ((lotsL i).map fun s => s ++ [(i : Int)]) := by
      refine ⟨by rw [hlen, lcs]; simp, fun j t r ht hr => ?_⟩
      rw [hrow j t ht]
      rw [List.getElem?_map] at hr
      cases qq : (lotsL i)[j]? with
      | none => rw [qq] at hr; cases hr
      | some s =>
        rw [qq] at hr
        cases hr
        rw [List.getD_eq_getElem?_getD, qq]
        rfl
    refine r_cat (e5 _ _ h3) h5 (by rw [List.length_map, List.length_map]; omega) fun p3 H7 hp3 e7 h7 => ?_
    walk_at "rd"
    refine ⟨p3, cs ++ ts, _, rfl, (e3.trans e5).free hp3, fun t ht => ?_, (e3.trans e5).trans e7, by rw [h7, List.map_append], ?_⟩
    · rcases List.mem_append.mp ht with z | z
      · exact hcs t z
      · exact e3.free (hnew t z)
    · exact ((la3.ex e5).ex e7).app (la5.ex e7)
  · rintro σ' H3 ⟨q, cs, s2, rfl, hq, hcs, e3, h3, la3⟩
    walk_at "rd"
    exact k q cs H3 hq hcs e3 h3 la3
def subM (rs : List (List Int)) (s : List Int) : List (List Int) := s.map fun i => s.map fun j => en rs i.toNat j.toNat
def minr (rs : List (List Int)) (s : List Int) : Int := if s.length % 2 = 0 then worN s.length (subM rs s) else -(worN s.length (subM rs s))
def addAt (ns : List Int) (k : Nat) (c : Int) : List Int := ns.set k (ns.getD k 0 + c)
def polF (rs : List (List Int)) (ns : List Int) (ss : List (List Int)) : List Int := ss.foldl (fun ns s => addAt ns s.length (minr rs s)) ns
def polL (rs : List (List Int)) (d : Nat) : List Int := polF rs (GM.zr (d + 1)) (lotsL d)
theorem polF_len (rs : List (List Int)) : ∀ (ss : List (List Int)) (ns : List Int), (polF rs ns ss).length = ns.length
  | [], ns => rfl
  | s :: ss, ns => by
    show (polF rs (addAt ns s.length (minr rs s)) ss).length = _
    rw [polF_len rs ss, addAt, List.length_set]
theorem polL_len (rs : List (List Int)) (d : Nat) : (polL rs d).length = d + 1 := by rw [polL, polF_len]; simp [GM.zr]
theorem Sz.en {rs : List (List Int)} {d m : Nat} (h : Sz rs d m) {i j : Nat} (hi : i < d) (hj : j < d) : ∃ r, rs[i]? = some r ∧ r.length = d ∧ r[j]? = some (K36.en rs i j) ∧ Z m (K36.en rs i j) := by
  have hl : i < rs.length := by rw [h.len]; exact hi
  have lr := h.row _ (List.getElem_mem hl)
  have hj' : j < rs[i].length := by omega
  have e : rs[i][j]? = some (K36.en rs i j) := by simp [K36.en, List.getD_eq_getElem?_getD, List.getElem?_eq_getElem hl, List.getElem?_eq_getElem hj']
  exact ⟨rs[i], by simp [hl], lr, e, h.z _ (List.getElem_mem hl) _ (List.mem_of_getElem? e)⟩
theorem subM_sz {rs : List (List Int)} {d m : Nat} (h : Sz rs d m) {s : List Int} (hs : ∀ i ∈ s, 0 ≤ i ∧ i < d) : Sz (subM rs s) s.length m := by
  refine ⟨by simp [subM], fun r hr => ?_, fun r hr c hc => ?_⟩
  · obtain ⟨i, _, rfl⟩ := List.mem_map.mp hr
    simp
  · obtain ⟨i, hi, rfl⟩ := List.mem_map.mp hr
    obtain ⟨j, hj, rfl⟩ := List.mem_map.mp hc
    have a := hs i hi
    have b := hs j hj
    exact (h.en (by omega) (by omega)).choose_spec.2.2.2
def spPol (K : PySem.W.Frag) : Sp := sp1 fun v H Q _ => ∃ (rs : List (List Int)) (d : Nat), LL H v rs ∧ Sz rs d 100 ∧ 1 ≤ d ∧ d ≤ 4 ∧ ∀ p H', H p = none → Ex H H' → H' p = some (.lst ((polL rs d).map V.int)) → Q (.ref p) H'
theorem ok__law_poly {P : Program} {w : World} {K : PySem.W.Frag} {mg : Str → Option Value} {base : Heap} (T : Txt K mg) : ∃ fd, FnOk P w K mg base (L2.CX P w) 6 (He.ga K "_law_poly") fd ["rows"] (spPol K) ∧ Binds K fd ["rows"] [] := by
  obtain ⟨fd, F⟩ := T.d__law_poly
  obtain ⟨fd__law_lots, F__law_lots, B__law_lots⟩ := ok__law_lots (P := P) (w := w) (base := base) T
  obtain ⟨fd__law_worth, F__law_worth, B__law_worth⟩ := ok__law_worth (P := P) (w := w) (base := base) T
  refine ⟨fd, F.ok sc__law_poly sp1_len (fun cdv A outer s H vs Q E hr h => ?_), F.bindsN fun _ _ _ _ _ _ us hl => match us, hl with | [_], _ => rfl⟩
  have hr__law_lots : Room 1 _ := hr.mono (by decide)
  have hr__law_worth : Room 5 _ := hr.mono (by decide)
  obtain ⟨v, rfl, rs, d, ⟨p, cs, rfl, hp, hla⟩, sz, d1, d4, k⟩ := sp1_is h
  refine ⟨_, (pss_cons (ps_set (i := 1) sc__law_poly.nd rfl (Or.inl rfl) (pe_callB (kx_lens rfl) (by rfl) T.b_len PySem.boot_len (pa_cons (pv 0) pa_nil)))
      (pss_cons (ps_set (i := 2) sc__law_poly.nd rfl (Or.inl rfl) (pe_op op_rep (pe_lst (pa_cons pe_int pa_nil)) (pe_op op_add (pv 1) pe_int)))
      (pss_cons (ps_for (passes_of rfl) rfl (pi_list (pe_call F__law_lots hr__law_lots (by rfl) T.g__law_lots T.k__law_lots B__law_lots .nil passL (pa_cons (pv 1) pa_nil))) (pg_name (i := 3) sc__law_poly.nd rfl (Or.inr rfl)) (pss_cons (ps_set (i := 4) sc__law_poly.nd rfl (Or.inl rfl) (pe_call F__law_worth hr__law_worth (by rfl) T.g__law_worth T.k__law_worth B__law_worth .nil passL (pa_cons (pe_lc (own := [("one", 6)]) (g := gName 6) (tt := tYes)  rfl sc__law_poly.nd (pi_list (pv 3)) (blkOk_by (own := [("one", 6)]) (N := ["rows", "size", "numbers", "some", "minor", "other", "one"]) (sc := defScope s__law_poly) (by decide +kernel)) (fun _ _ _ _ _ => (pg_name (i := 6) sc__law_poly.nd rfl (Or.inr rfl))) (fun _ _ _ _ _ => pts_nil) (fun _ _ _ _ _ => (pe_lc (own := [("other", 5)]) (g := gName 5) (tt := tYes)  rfl sc__law_poly.nd (kx_pilist (K := K) rfl (pv 3)) (blkOk_by (own := [("other", 5)]) (N := ["rows", "size", "numbers", "some", "minor", "other", "one"]) (by rfl)) (fun _ _ _ _ _ => (pg_name (i := 5) sc__law_poly.nd rfl (Or.inl rfl))) (fun _ _ _ _ _ => pts_nil) (fun _ _ _ _ _ => (pe_ix (kx_ixl rfl) (pe_ix (kx_ixl rfl) (pv 0) (pv 6) (fun _ _ => rfl)) (pv 5) (fun _ _ => rfl)))))) pa_nil)))
      (pss_one (ps_asg (pe_op op_add (pe_ix (kx_ixl rfl) (pv 2) (pe_callB (kx_lens rfl) (by rfl) T.b_len PySem.boot_len (pa_cons (pv 3) pa_nil)) (fun _ _ => rfl)) (pe_ifExp (pt_cmpR op_eq (pe_op op_mod (pe_callB (kx_lens rfl) (by rfl) T.b_len PySem.boot_len (pa_cons (pv 3) pa_nil)) pe_int) pe_int (nomark _)) (pv 4) (pe_un un_neg (pv 4)))) (pg_sub (pv 2) (pe_callB (kx_lens rfl) (by rfl) T.b_len PySem.boot_len (pa_cons (pv 3) pa_nil)) set_list)))))
      (pss_one (ps_ret (pv 2)))))), ?_⟩
  have lcs : cs.length = d := by rw [hla.1]; exact sz.len
  walk_at "rd"
  refine len_l hp ?_
  rw [List.length_map, lcs]
  walk_at "rd"
  refine r_newL (sz_le (by simp)) fun z0 H1 hz0 e1 h1 => ?_
  walk_at "rd"
  refine r_zeros (m := d + 1) h1 (by push_cast; rfl) (by omega) fun q H2 hq e2 h2 => ?_
  walk_at "rd"
  refine ⟨d, rfl, d4, fun L ls H3 hL hls e3 h3 la3 => ?_⟩
  have e02 := e1.trans e2
  have hqH : H q = none := e1.free hq
  have nqL : q ≠ L := fun z => by rw [← z, h2] at hL; cases hL
  have nql : q ∉ ls := fun z => by have := hls q z; rw [h2] at this; cases this
  have nqc : q ∉ cs := fun z => by
    obtain ⟨j, hj⟩ := List.getElem?_of_mem z
    obtain ⟨r, _, hw⟩ := hla.at hj
    rw [hqH] at hw
    cases hw
  have few := lots_few d d4
  have lls := la3.1
  refine ⟨L, rfl, ⟨_, SqL.of h3⟩, ?_⟩
  refine for_of (by have := walk_list (K := K) (a := L) (xs := ls.map V.ref); rwa [List.length_map] at this) (n := ls.length) (fun i σ' H' => ∃ s3 s4, σ' = [some (.ref p), some (.int d), some (.ref q), s3, s4, none, none] ∧ (∀ a o, a ≠ q → H3 a = some o → H' a = some o) ∧ H' q = some (.lst ((polF rs (GM.zr (d + 1)) ((lotsL d).take i)).map V.int))) ⟨none, none, rfl, fun _ _ _ h => h, e3 _ _ h2⟩ (fun _ _ _ _ ⟨_, _, _, e, _⟩ => SqL.of (e _ _ (fun z => nqL z.symm) h3)) ?_ ?_
  · rintro i x σ' H5 H4 hi ⟨s3, s4, rfl, b4, h4⟩ ⟨rfl, hx⟩
    obtain ⟨t, ht, rfl⟩ := ref_at hx
    obtain ⟨s, hs, hw0⟩ := la3.at ht
    have hw := b4 _ _ (fun z => nql (by rw [← z]; exact List.mem_of_getElem? ht)) hw0
    obtain ⟨lsd, hin⟩ := lots_in d d4 s (List.mem_of_getElem? hs)
    have hp4 : H4 p = some (.lst (cs.map V.ref)) := b4 _ _ (fun z => by rw [z, hqH] at hp; cases hp) (e3 _ _ (e02 _ _ hp))
    have la4 : LA H4 cs rs := ⟨hla.1, fun j u r hu hr => b4 _ _ (fun z => nqc (by rw [← z]; exact List.mem_of_getElem? hu)) (e3 _ _ (e02 _ _ (hla.2 j u r hu hr)))⟩
    refine r_gName ?_
    walk_at "rd"
    refine ⟨t, rfl, ⟨_, SqL.of hw⟩, ?_⟩
    refine r_lcLs (n := s.length) (k := 6) (by simpa using walk_list (xs := s.map V.int)) (fun a => ((subM rs s).getD a []).map V.int) (by omega) (fun H' e => SqL.of (e _ _ hw)) (fun _ => rfl) ?_ ?_
    · rintro a y H6 H7 ha e6 ⟨rfl, hy⟩
      refine ⟨Ex.refl _, fun R kR => ?_⟩
      obtain ⟨c, hc, rfl⟩ := int_at hy
      have hcin := hin c (List.mem_of_getElem? hc)
      have er : (subM rs s).getD a [] = s.map fun j => en rs c.toNat j.toNat := by
        unfold subM
        rw [List.getD_eq_getElem?_getD, List.getElem?_map, hc]
        rfl
      rw [er] at kR
      have hw6 := e6 _ _ hw
      walk_at "rd"
      refine ⟨t, rfl, ⟨_, SqL.of hw6⟩, ?_⟩
      refine r_lcM (n := s.length) (k := 5) (by simpa using walk_list (xs := s.map V.int)) (fun b => .int ((s.map fun j => en rs c.toNat j.toNat).getD b 0)) (by omega) (fun H' e => SqL.of (e _ _ hw6)) (fun _ => rfl) ?_ fun D H9 hD e9 h9 => ?_
      · rintro b z H8 H9 hb e8 ⟨rfl, hz⟩
        refine ⟨Ex.refl _, fun H10 e10 R2 kR2 => ?_⟩
        obtain ⟨c2, hc2, rfl⟩ := int_at hz
        have hcin2 := hin c2 (List.mem_of_getElem? hc2)
        have e410 := (e6.trans e8).trans e10
        obtain ⟨m1, rfl⟩ : ∃ m : Nat, c = (m : Int) := ⟨c.toNat, by omega⟩
        obtain ⟨m2, rfl⟩ : ∃ m : Nat, c2 = (m : Int) := ⟨c2.toNat, by omega⟩
        obtain ⟨r, hr, lr, hrc, _⟩ := sz.en (i := m1) (j := m2) (by omega) (by omega)
        obtain ⟨u, hu, hwu⟩ := (la4.ex e410).col hr
        walk_at "rd"
        refine r_ixL (e410 _ _ hp4) (v := .ref u) (atI_nat (by rw [List.getElem?_map, hu]; rfl)) ?_
        walk_at "rd"
        refine r_ixL hwu (v := .int (en rs m1 m2)) (atI_nat (by rw [List.getElem?_map, hrc]; rfl)) ?_
        rw [List.getD_eq_getElem?_getD, List.getElem?_map, hc2] at kR2
        exact kR2 _ (Ex.refl _)
      · refine kR D H9 e9 hD ?_
        rw [h9, ← range_map, List.length_map]
    intro M ts H6 hM e6 h6 hlen hnd hnew hrow
    have la6 : LA H6 ts (subM rs s) := by
      refine ⟨by rw [hlen]; simp [subM], fun j u r hu hr => ?_⟩
      rw [hrow j u hu, List.getD_eq_getElem?_getD, hr]
      rfl
    have szs := subM_sz sz hin
    refine ⟨subM rs s, s.length, ⟨M, ts, rfl, h6, la6⟩, szs, by omega, by omega, fun H7 e7 => ?_⟩
    have e47 := e6.trans e7
    have ep : polF rs (GM.zr (d + 1)) ((lotsL d).take (i + 1)) = addAt (polF rs (GM.zr (d + 1)) ((lotsL d).take i)) s.length (minr rs s) := by
      rw [List.take_add_one, hs]
      unfold polF
      rw [List.foldl_append]
      rfl
    have lpf : (polF rs (GM.zr (d + 1)) ((lotsL d).take i)).length = d + 1 := by rw [polF_len]; simp [GM.zr]
    generalize polF rs (GM.zr (d + 1)) ((lotsL d).take i) = ns at ep lpf h4
    have h7 := e47 _ _ h4
    have hw7 := e47 _ _ hw
    walk_at "rd"
    refine len_l hw7 ?_
    rw [List.length_map]
    refine r_ixL h7 (v := .int (ns.getD s.length 0)) (atI_nat (by rw [List.getElem?_map, List.getD_eq_getElem?_getD, List.getElem?_eq_getElem (by omega)]; rfl)) ?_
    walk_at "rd"
    refine len_l hw7 ?_
    rw [List.length_map]
    walk_at "rd"
    refine r_I (by decide) ?_
    walk_at "rd"
    have fin : ∀ z : Int, z = minr rs s → ∃ s3' s4', (([some (V.ref p), some (V.int d), some (V.ref q), s3, s4, none, none].set 3 (some (V.ref t))).set 4 (some (V.int (worN s.length (subM rs s))))) = [some (.ref p), some (.int d), some (.ref q), s3', s4', none, none] ∧ (∀ a o, a ≠ q → H3 a = some o → (upd H7 q (.lst ((ns.map V.int).set s.length (.int (ns.getD s.length 0 + z))))) a = some o) ∧ (upd H7 q (.lst ((ns.map V.int).set s.length (.int (ns.getD s.length 0 + z))))) q = some (.lst ((polF rs (GM.zr (d + 1)) ((lotsL d).take (i + 1))).map V.int)) := fun z hz => by
      refine ⟨_, _, rfl, fun a o ne ha => by rw [upd_ne ne]; exact e47 _ _ (b4 _ _ ne ha), ?_⟩
      rw [upd_same, ep, ← hz]
      unfold addAt
      rw [List.map_set]
    by_cases c0 : s.length % 2 = 0
    · refine ite_t (decide_eq_true (by omega)) ?_
      walk_at "rd"
      refine len_l hw7 ?_
      rw [List.length_map]
      refine r_setL h7 (n := s.length) (by rw [List.length_map, lpf]; exact ixN_nat (by omega)) ?_
      refine fin _ ?_
      unfold minr
      rw [if_pos c0]
    · refine ite_f (decide_eq_false (by omega)) ?_
      walk_at "rd"
      refine len_l hw7 ?_
      rw [List.length_map]
      refine r_setL h7 (n := s.length) (by rw [List.length_map, lpf]; exact ixN_nat (by omega)) ?_
      refine fin _ ?_
      unfold minr
      rw [if_neg c0]
  · rintro σ' H5 ⟨s3, s4, rfl, b5, h5⟩
    rw [lls, List.take_length] at h5
    walk_at "rd"
    exact k q H5 hqH (fun a o ha => b5 _ _ (fun z => by rw [z, hqH] at ha; cases ha) (e3 _ _ (e02 _ _ ha))) h5

end K36
namespace K36
open PySem PySem.Spec PyProof.Rows L2 GS TL
local macro_rules | `(tactic| walk_at "rd") => `(tactic| (repeat (first
  | with_reducible refine r_next ?_
  | with_reducible refine r_seq ?_
  | with_reducible refine r_ret ?_
  | with_reducible refine r_ifS ?_
  | with_reducible refine r_asg ?_
  | with_reducible refine r_drop ?_
  | with_reducible refine r_op ?_
  | with_reducible refine r_un ?_
  | with_reducible refine r_cbInt ?_
  | with_reducible refine r_cbAbs ?_
  | with_reducible refine r_cbLen ?_
  | with_reducible refine r_cbList ?_
  | with_reducible refine r_cbTup ?_
  | with_reducible refine r_iEnT ?_
  | with_reducible refine r_iEnL ?_
  | with_reducible refine r_zipA ?_
  | with_reducible refine r_zipX ?_
  | with_reducible refine r_augS ?_
  | with_reducible refine r_cb ?_
  | with_reducible refine r_call ?_
  | with_reducible refine r_make ?_
  | with_reducible refine r_callN0 ?_
  | with_reducible refine r_makeK0 ?_
  | with_reducible refine r_makeS ?_
  | with_reducible refine r_callS ?_
  | with_reducible refine r_cons ?_
  | with_reducible refine r_nil ?_
  | with_reducible refine r_test ?_
  | with_reducible refine r_B ?_
  | with_reducible refine r_and ?_
  | with_reducible refine r_or ?_
  | with_reducible refine r_not ?_
  | with_reducible refine r_andV ?_
  | with_reducible refine r_orV ?_
  | with_reducible refine r_notV ?_
  | with_reducible refine r_if ?_
  | with_reducible refine r_tup ?_
  | with_reducible refine r_lst ?_
  | with_reducible refine r_c ?_
  | with_reducible refine r_lc ?_
  | with_reducible refine r_chain ?_
  | with_reducible refine r_iT ?_
  | with_reducible refine r_iL ?_
  | with_reducible refine r_iR1 ?_
  | with_reducible refine r_iR2 ?_
  | with_reducible refine r_iR3 ?_
  | with_reducible refine r_asgG ?_
  | with_reducible refine r_gSub ?_
  | with_reducible refine r_for ?_
  | with_reducible refine r_smeth ?_
  | with_reducible refine r_par ?_
  | with_reducible refine r_parK ?_
  | with_reducible refine r_gCons ?_
  | with_reducible refine r_gNil ?_
  | with_reducible refine r_gName ?_
  | with_reducible refine r_intI ?_
  | with_reducible refine r_intB ?_
  | with_reducible refine r_absI ?_
  | with_reducible refine r_k ?_
  | with_reducible refine r_kV ?_
  | ((with_reducible show tVar _ _ _ _); refine r_var3 ?_ (by rfl))
  | with_reducible refine r_I0 ?_
  | with_reducible refine r_U ?_
  | with_reducible refine r_eqI ?_
  | with_reducible refine r_neI ?_
  | with_reducible refine r_F ?_
  | dsimp only)))
local macro_rules | `(tactic| walk_at "rx") => `(tactic| (repeat (first
  | with_reducible refine r_next ?_
  | with_reducible refine r_ret ?_
  | with_reducible refine r_ifS ?_
  | with_reducible refine r_asg ?_
  | with_reducible refine r_drop ?_
  | with_reducible refine r_op ?_
  | with_reducible refine r_un ?_
  | with_reducible refine r_cbInt ?_
  | with_reducible refine r_cbAbs ?_
  | with_reducible refine r_cbLen ?_
  | with_reducible refine r_cbList ?_
  | with_reducible refine r_cbTup ?_
  | with_reducible refine r_iEnT ?_
  | with_reducible refine r_iEnL ?_
  | with_reducible refine r_zipA ?_
  | with_reducible refine r_zipX ?_
  | with_reducible refine r_augS ?_
  | with_reducible refine r_cb ?_
  | with_reducible refine r_call ?_
  | with_reducible refine r_make ?_
  | with_reducible refine r_callN0 ?_
  | with_reducible refine r_makeK0 ?_
  | with_reducible refine r_makeS ?_
  | with_reducible refine r_callS ?_
  | with_reducible refine r_cons ?_
  | with_reducible refine r_nil ?_
  | with_reducible refine r_test ?_
  | with_reducible refine r_B ?_
  | with_reducible refine r_and ?_
  | with_reducible refine r_or ?_
  | with_reducible refine r_not ?_
  | with_reducible refine r_andV ?_
  | with_reducible refine r_orV ?_
  | with_reducible refine r_notV ?_
  | with_reducible refine r_if ?_
  | with_reducible refine r_tup ?_
  | with_reducible refine r_lst ?_
  | with_reducible refine r_c ?_
  | with_reducible refine r_lc ?_
  | with_reducible refine r_chain ?_
  | with_reducible refine r_iT ?_
  | with_reducible refine r_iL ?_
  | with_reducible refine r_iR1 ?_
  | with_reducible refine r_iR2 ?_
  | with_reducible refine r_iR3 ?_
  | with_reducible refine r_asgG ?_
  | with_reducible refine r_gSub ?_
  | with_reducible refine r_for ?_
  | with_reducible refine r_smeth ?_
  | with_reducible refine r_par ?_
  | with_reducible refine r_parK ?_
  | with_reducible refine r_gCons ?_
  | with_reducible refine r_gNil ?_
  | with_reducible refine r_gName ?_
  | with_reducible refine r_intI ?_
  | with_reducible refine r_intB ?_
  | with_reducible refine r_absI ?_
  | with_reducible refine r_k ?_
  | with_reducible refine r_kV ?_
  | ((with_reducible show tVar _ _ _ _); refine r_var3 ?_ (by rfl))
  | with_reducible refine r_I0 ?_
  | with_reducible refine r_U ?_
  | with_reducible refine r_eqI ?_
  | with_reducible refine r_neI ?_
  | with_reducible refine r_F ?_
  | dsimp only)))
/-! ### renamings, signs -/
def ins (s : List Int) (n : Int) : List (List Int) := (List.range (s.length + 1)).map fun a => s.take a ++ [n] ++ s.drop a
def renL : Nat → List (List Int)
  | 0 => [[]]
  | n + 1 => ((renL n).map fun s => ins s n).flatten
def sgN (some : List Int) : Nat → List (List Int)
  | 0 => some.map fun s => [s]
  | k + 1 => ((sgN some k).map fun s => s ++ [1]) ++ (sgN some k).map fun s => s ++ [-1]
theorem ren_len : ∀ n, ∀ s ∈ renL n, s.length = n
  | 0, s, h => by rw [List.mem_singleton.mp h]; rfl
  | n + 1, s, h => by
    obtain ⟨l, hl, hs⟩ := List.mem_flatten.mp h
    obtain ⟨t, ht, rfl⟩ := List.mem_map.mp hl
    obtain ⟨a, ha, rfl⟩ := List.mem_map.mp hs
    have := ren_len n t ht
    have := List.mem_range.mp ha
    simp
    omega
theorem flat_le' {n : Nat} : ∀ rs : List (List (List Int)), (∀ r ∈ rs, r.length ≤ n) → rs.flatten.length ≤ rs.length * n
  | [], _ => by simp
  | r :: rs, h => by
    rw [List.flatten_cons, List.length_append, List.length_cons, Nat.succ_mul]
    have := flat_le' rs fun r m => h r (List.mem_cons_of_mem _ m)
    have := h r List.mem_cons_self
    omega
def spRen (K : PySem.W.Frag) : Sp := sp1 fun v H Q _ => ∃ d : Nat, v = .int d ∧ d ≤ 4 ∧ ∀ p cs H', H p = none → Ex H H' → H' p = some (.lst (cs.map V.ref)) → LA H' cs (renL d) → Q (.ref p) H'
theorem ren_few : ∀ n, n ≤ 3 → (renL n).length ≤ 6 := by decide
theorem ok__law_renamings {P : Program} {w : World} {K : PySem.W.Frag} {mg : Str → Option Value} {base : Heap} (T : Txt K mg) : ∃ fd, FnOk P w K mg base (L2.CX P w) 1 (He.ga K "_law_renamings") fd ["size"] (spRen K) ∧ Binds K fd ["size"] [] := by
  obtain ⟨fd, F⟩ := T.d__law_renamings
  refine ⟨fd, F.ok sc__law_renamings sp1_len (fun cdv A outer s H vs Q E hr h => ?_), F.bindsN fun _ _ _ _ _ _ us hl => match us, hl with | [_], _ => rfl⟩
  obtain ⟨v, rfl, d, rfl, d3, k⟩ := sp1_is h
  refine ⟨_, (pss_cons (ps_set (i := 1) sc__law_renamings.nd rfl (Or.inl rfl) (pe_lst (pa_cons (pe_lst pa_nil) pa_nil)))
      (pss_cons (ps_for (passes_of rfl) rfl (pi_range1 (by rfl) T.b_range (pa_cons (pv 0) pa_nil)) (pg_name (i := 2) sc__law_renamings.nd rfl (Or.inr rfl)) (pss_cons (ps_set (i := 3) sc__law_renamings.nd rfl (Or.inl rfl) (pe_lst pa_nil))
      (pss_cons (ps_for (passes_of rfl) rfl (pi_list (pv 1)) (pg_name (i := 4) sc__law_renamings.nd rfl (Or.inr rfl)) (pss_one (ps_expr (pe_bm PySem.F.plainAttrs_list PySem.F.slot_list_extend PySem.F.type_list_extend mt_extend (pv 3) (pa_cons (pe_lc (own := [("at", 5)]) (g := gName 5) (tt := tYes)  rfl sc__law_renamings.nd (pi_range1 (by rfl) T.b_range (pa_cons (pe_op op_add (pe_callB (kx_lens rfl) (by rfl) T.b_len PySem.boot_len (pa_cons (pv 4) pa_nil)) pe_int) pa_nil)) (blkOk_by (own := [("at", 5)]) (N := ["size", "found", "place", "longer", "some", "at"]) (sc := defScope s__law_renamings) (by decide +kernel)) (fun _ _ _ _ _ => (pg_name (i := 5) sc__law_renamings.nd rfl (Or.inl rfl))) (fun _ _ _ _ _ => pts_nil) (fun _ _ _ _ _ => (pe_op op_cat (pe_op op_cat (pe_slice (kx_sll (K := K) rfl) (pv 4) po_none (po_some (pv 5))) (pe_lst (pa_cons (pv 2) pa_nil))) (pe_slice (kx_sll (K := K) rfl) (pv 4) (po_some (pv 5)) po_none)))) pa_nil)))))
      (pss_one (ps_set (i := 1) sc__law_renamings.nd rfl (Or.inl rfl) (pv 3))))))
      (pss_one (ps_ret (pv 1))))), ?_⟩
  walk_at "rd"
  refine r_newL (Nat.zero_le _) fun E0 H1 hE0 e1 h1 => ?_
  walk_at "rd"
  refine r_newL (sz_le (by simp)) fun F0 H2 hF0 e2 h2 => ?_
  walk_at "rd"
  refine ⟨_, rfl, by omega, by omega, ?_⟩
  rw [Int.toNat_natCast]
  refine for_of (walk_range (lo := 0) (n := d)) (fun i σ' H' => ∃ q cs s2 s3 s4, σ' = [some (.int d), some (.ref q), s2, s3, s4, none] ∧ H q = none ∧ Ex H H' ∧ H' q = some (.lst (cs.map V.ref)) ∧ LA H' cs (renL i)) ⟨F0, [E0], none, none, none, rfl, e1.free hF0, e1.trans e2, h2, LA.cons (r := []) (e2 _ _ h1) LA.nil⟩ (fun _ _ _ _ _ => trivial) ?_ ?_
  · rintro i x σ' H4 H3 hi ⟨q, cs, s2, s3, s4, rfl, hq, e3, h3, la3⟩ ⟨rfl, rfl⟩
    refine r_gName ?_
    walk_at "rd"
    refine r_newL (Nat.zero_le _) fun L H5 hL e5 h5 => ?_
    walk_at "rd"
    have h35 := e5 _ _ h3
    refine ⟨q, rfl, ⟨_, SqL.of h35⟩, ?_⟩
    have few := ren_few i (by omega)
    have LH : H L = none := e3.free hL
    refine for_of (by have := walk_list (K := K) (a := q) (xs := cs.map V.ref); rwa [List.length_map] at this) (n := cs.length) (fun j σ' H' => ∃ ds s4, σ' = [some (.int d), some (.ref q), some (.int (0 + (i : Nat))), some (.ref L), s4, none] ∧ Ex H3 H' ∧ H' L = some (.lst (ds.map V.ref)) ∧ L ∉ ds ∧ LA H' ds (((renL i).take j).map fun s => ins s i).flatten) ⟨[], s4, rfl, e5, h5, by simp, by simpa using LA.nil⟩ (fun _ _ _ _ ⟨_, _, _, e, _⟩ => SqL.of (e _ _ h3)) ?_ ?_
    · rintro j x σ' H7 H6 hj ⟨ds, s4, rfl, e6, h6, nL, la6⟩ ⟨rfl, hx⟩
      obtain ⟨t, ht, rfl⟩ := ref_at hx
      obtain ⟨s, hs, hw⟩ := (la3.ex e6).at ht
      have ls := ren_len i s (List.mem_of_getElem? hs)
      refine r_gName ?_
      walk_at "rd"
      refine r_bm ?_
      walk_at "rd"
      refine ⟨tyL h6, ?_⟩
      walk_at "rd"
      refine len_l hw ?_
      rw [List.length_map, ls]
      walk_at "rd"
      refine ⟨((i + 1 : Nat) : Int), by push_cast; rfl, by omega, by omega, ?_⟩
      rw [Int.toNat_natCast]
      have i0 : (0 : Int) + (i : Nat) = ((i : Nat) : Int) := Int.zero_add _
      refine r_lcLs (n := i + 1) (k := 5) walk_range (fun a => (s.take a ++ [(i : Int)] ++ s.drop a).map V.int) (by omega) (fun _ _ => trivial) (fun _ => rfl) ?_ ?_
      · rintro a y H8 H9 ha e8 ⟨rfl, rfl⟩
        refine ⟨Ex.refl _, fun R kR => ?_⟩
        have hw8 := e8 _ _ hw
        have a0 : (0 : Int) + (a : Nat) = ((a : Nat) : Int) := Int.zero_add _
        walk_at "rd"
        rw [a0]
        refine ⟨_, rfl, _, rfl, _, rfl, r_slL hw8 (cut_tk V.int s a) fun A H9 hA e9 h9 => ?_⟩
        walk_at "rd"
        refine r_newL (sz_le (by simp)) fun B H10 hB e10 h10 => ?_
        refine r_cat (e10 _ _ h9) h10 (by simp; omega) fun C H11 hC e11 h11 => ?_
        refine ⟨_, rfl, _, rfl, _, rfl, ?_⟩
        refine ⟨t, _, rfl, SqL.of (((e9.trans e10).trans e11) _ _ hw8), fun D hD => ?_⟩
        rw [cut_dr s a (by omega)]
        have e12 : Ex H11 (upd H11 D (.lst ((s.drop a).map V.int))) := Ex.new hD
        have h12 : (upd H11 D (.lst ((s.drop a).map V.int))) D = some (.lst ((s.drop a).map V.int)) := upd_same
        generalize upd H11 D (.lst ((s.drop a).map V.int)) = H12 at e12 h12 ⊢
        refine r_cat (e12 _ _ h11) h12 (by simp; omega) fun G H13 hG e13 h13 => ?_
        refine kR G H13 ((((e9.trans e10).trans e11).trans e12).trans e13) ((((e9.trans e10).trans e11).trans e12).free hG) ?_
        rw [h13, List.map_append, List.map_append, i0]
        rfl
      · intro M ts H8 hM e8 h8 hlen hnd hnew hrow
        have la8 : LA H8 ts (ins s i) := by
          have := la_rows hlen hrow
          unfold ins
          rw [ls]
          exact this
        walk_at "rd"
        have nLt : L ∉ ts := fun z => by have := hnew L z; rw [h6] at this; cases this
        refine ⟨L, M, _, _, rfl, rfl, e8 _ _ h6, h8, sz_le ?_, ?_⟩
        · have l6 : ds.length ≤ 24 := by
            rw [la6.1]
            have := flat_le' (n := 4) (((renL i).take j).map fun s => ins s i) fun l hl => by
              obtain ⟨u, hu, rfl⟩ := List.mem_map.mp hl
              have := ren_len i u (List.mem_of_mem_take hu)
              simp [ins]
              omega
            rw [List.length_map, List.length_take] at this
            omega
          rw [List.length_map, List.length_map]
          omega
        walk_at "rd"
        refine ⟨ds ++ ts, _, rfl, fun a o ha => ?_, by rw [upd_same, List.map_append], by simp [nL, nLt], ?_⟩
        · rw [upd_ne (ne_of_none ha hL)]
          exact e8 _ _ (e6 _ _ ha)
        · rw [List.take_add_one, hs]
          have : ((((renL i).take j) ++ [s]).map fun s => ins s (i : Int)).flatten = (((renL i).take j).map fun s => ins s (i : Int)).flatten ++ ins s i := by simp
          show LA _ _ ((((renL i).take j) ++ [s]).map fun s => ins s (i : Int)).flatten
          rw [this]
          exact ((la6.ex e8).app la8).upd (by simp [nL, nLt])
    · rintro σ' H6 ⟨ds, s4, rfl, e6, h6, nL, la6⟩
      rw [la3.1, List.take_length] at la6
      walk_at "rd"
      exact ⟨L, ds, _, _, _, rfl, LH, e3.trans e6, h6, la6⟩
  · rintro σ' H3 ⟨q, cs, s2, s3, s4, rfl, hq, e3, h3, la3⟩
    walk_at "rd"
    exact k q cs H3 hq e3 h3 la3
theorem sg_len (some : List Int) : ∀ k, ∀ s ∈ sgN some k, s.length = k + 1
  | 0, s, h => by obtain ⟨t, _, rfl⟩ := List.mem_map.mp h; rfl
  | k + 1, s, h => by
    rcases List.mem_append.mp h with h | h
    · obtain ⟨t, ht, rfl⟩ := List.mem_map.mp h
      have := sg_len some k t ht
      simp [this]
    · obtain ⟨t, ht, rfl⟩ := List.mem_map.mp h
      have := sg_len some k t ht
      simp [this]
theorem sg_few (some : List Int) (h : some.length ≤ 2) : ∀ k, (sgN some k).length ≤ 2 * 2 ^ k
  | 0 => by simp [sgN]; omega
  | k + 1 => by
    have := sg_few some h k
    simp [sgN]
    rw [Nat.pow_succ]
    omega
def spSg (K : PySem.W.Frag) : Sp := sp1 fun v H Q _ => ∃ d : Nat, v = .int d ∧ 1 ≤ d ∧ d ≤ 4 ∧ ∀ p cs H', H p = none → Ex H H' → H' p = Option.some (.lst (cs.map V.ref)) → LA H' cs (sgN [1] (d - 1)) → Q (.ref p) H'
theorem ok__law_signs {P : Program} {w : World} {K : PySem.W.Frag} {mg : Str → Option Value} {base : Heap} (T : Txt K mg) : ∃ fd, FnOk P w K mg base (L2.CX P w) 1 (He.ga K "_law_signs") fd ["size"] (spSg K) ∧ Binds K fd ["size"] [] := by
  obtain ⟨fd, F⟩ := T.d__law_signs
  refine ⟨fd, F.ok sc__law_signs sp1_len (fun cdv A outer s H vs Q E hr h => ?_), F.bindsN fun _ _ _ _ _ _ us hl => match us, hl with | [_], _ => rfl⟩
  obtain ⟨v, rfl, d, rfl, d1, d4, k⟩ := sp1_is h
  refine ⟨_, (pss_cons (ps_set (i := 1) sc__law_signs.nd rfl (Or.inl rfl) (pe_lst (pa_cons (pe_lst (pa_cons pe_int pa_nil)) pa_nil)))
      (pss_cons (ps_for (passes_of rfl) rfl (pi_range1 (by rfl) T.b_range (pa_cons (pe_op op_sub (pv 0) pe_int) pa_nil)) (pg_name (i := 2) sc__law_signs.nd rfl (Or.inl rfl)) (pss_one (ps_set (i := 1) sc__law_signs.nd rfl (Or.inl rfl) (pe_op op_cat (pe_lc (own := [("signs", 3)]) (g := gName 3) (tt := tYes)  rfl sc__law_signs.nd (pi_list (pv 1)) (blkOk_by (own := [("signs", 3)]) (N := ["size", "found", "turn", "signs"]) (sc := defScope s__law_signs) (by decide +kernel)) (fun _ _ _ _ _ => (pg_name (i := 3) sc__law_signs.nd rfl (Or.inl rfl))) (fun _ _ _ _ _ => pts_nil) (fun _ _ _ _ _ => (pe_op op_cat (pv 3) (pe_lst (pa_cons pe_int pa_nil))))) (pe_lc (own := [("signs", 3)]) (g := gName 3) (tt := tYes)  rfl sc__law_signs.nd (pi_list (pv 1)) (blkOk_by (own := [("signs", 3)]) (N := ["size", "found", "turn", "signs"]) (sc := defScope s__law_signs) (by decide +kernel)) (fun _ _ _ _ _ => (pg_name (i := 3) sc__law_signs.nd rfl (Or.inl rfl))) (fun _ _ _ _ _ => pts_nil) (fun _ _ _ _ _ => (pe_op op_cat (pv 3) (pe_lst (pa_cons (pe_un un_neg pe_int) pa_nil)))))))))
      (pss_one (ps_ret (pv 1))))), ?_⟩
  walk_at "rd"
  refine r_newL (sz_le (by simp)) fun E0 H1 hE0 e1 h1 => ?_
  walk_at "rd"
  refine r_newL (sz_le (by simp)) fun F0 H2 hF0 e2 h2 => ?_
  walk_at "rd"
  refine ⟨((d - 1 : Nat) : Int), by rw [show ((d : Nat) : Int) - 1 = ((d - 1 : Nat) : Int) by omega], by omega, by omega, ?_⟩
  rw [Int.toNat_natCast]
  refine for_of (walk_range (lo := 0) (n := d - 1)) (fun i σ' H' => ∃ q cs s2, σ' = [some (.int d), some (.ref q), s2, none] ∧ H q = none ∧ Ex H H' ∧ H' q = some (.lst (cs.map V.ref)) ∧ LA H' cs (sgN [1] i)) ⟨F0, [E0], none, rfl, e1.free hF0, e1.trans e2, h2, LA.cons (r := [1]) (e2 _ _ h1) LA.nil⟩ (fun _ _ _ _ _ => trivial) ?_ ?_
  · rintro i x σ' H4 H3 hi ⟨q, cs, s2, rfl, hq, e3, h3, la3⟩ ⟨rfl, rfl⟩
    refine r_gName ?_
    have few : cs.length ≤ 8 := by
      rw [la3.1]
      have := sg_few [1] (by decide) i
      have : 2 ^ i ≤ 2 ^ 2 := Nat.pow_le_pow_right (by decide) (by omega)
      omega
    have half : ∀ {u : Int} {σ : L2.St} {te : TE} {Q2 : VK} {H5 : Hp}, Ex H3 H5 → (∀ (y : V) (H6 : Hp) (R : VK) (s : List Int) (t : Addr), y = V.ref t → H6 t = some (.lst (s.map V.int)) → s.length = i + 1 → (∀ t' H8, Ex H6 H8 → H6 t' = none → H8 t' = some (.lst ((s ++ [u]).map V.int)) → R (.ref t') H8) → te ((wipe σ [3]).set 3 (some y)) H6 R) →
        (∀ x, wipe ((wipe σ [3]).set 3 (some x)) [3] = wipe σ [3]) → (∀ p ts H', H5 p = none → Ex H5 H' → H' p = some (.lst (ts.map V.ref)) → LA H' ts ((sgN [1] i).map fun s => s ++ [u]) → Q2 (.ref p) H') → lcB (Itl K q) (gName 3) tYes te [3] σ Q2 H5 := by
      intro u σ te Q2 H5 e5 hte hwp hq2
      have h5 := e5 _ _ h3
      refine r_lcLs (n := cs.length) (k := 3) (by simpa using walk_list (xs := cs.map V.ref)) (fun a => (((sgN [1] i).getD a []) ++ [u]).map V.int) (by omega) (fun H' e => SqL.of (e _ _ h5)) hwp ?_ ?_
      · rintro a y H6 H7 ha e6 ⟨rfl, hy⟩
        obtain ⟨t, ht, rfl⟩ := ref_at hy
        obtain ⟨s, hs, hw⟩ := (la3.ex (e5.trans e6)).at ht
        refine ⟨Ex.refl _, fun R kR => ?_⟩
        rw [List.getD_eq_getElem?_getD, hs] at kR
        exact hte _ _ R s t rfl hw (sg_len [1] i s (List.mem_of_getElem? hs)) kR
      · intro p ts H6 hp e6 h6 hlen hnd hnew hrow
        refine hq2 p ts H6 hp e6 h6 ⟨by rw [hlen, la3.1]; simp, fun j t r ht hr => ?_⟩
        rw [hrow j t ht]
        rw [List.getElem?_map] at hr
        cases qq : (sgN [1] i)[j]? with
        | none => rw [qq] at hr; cases hr
        | some s =>
          rw [qq] at hr
          cases hr
          rw [List.getD_eq_getElem?_getD, qq]
          rfl
    walk_at "rd"
    refine ⟨q, rfl, ⟨_, SqL.of h3⟩, ?_⟩
    refine half (u := 1) (Ex.refl _) (fun y H6 R s t ey hw ls kR => ?_) (fun _ => rfl) fun p1 ts1 H5 hp1 e5 h5 la5 => ?_
    · subst ey
      walk_at "rd"
      refine r_newL (sz_le (by simp)) fun B H8 hB e8 h8 => ?_
      refine r_cat (e8 _ _ hw) h8 (by simp; omega) fun C H9 hC e9 h9 => kR C H9 (e8.trans e9) (e8.free hC) ?_
      rw [h9, List.map_append]
      rfl
    walk_at "rd"
    refine ⟨q, rfl, ⟨_, SqL.of (e5 _ _ h3)⟩, ?_⟩
    refine half (u := -1) e5 (fun y H6 R s t ey hw ls kR => ?_) (fun _ => rfl) fun p2 ts2 H6 hp2 e6 h6 la6 => ?_
    · subst ey
      walk_at "rd"
      refine r_newL (sz_le (by simp)) fun B H8 hB e8 h8 => ?_
      refine r_cat (e8 _ _ hw) h8 (by simp; omega) fun C H9 hC e9 h9 => kR C H9 (e8.trans e9) (e8.free hC) ?_
      rw [h9, List.map_append]
      rfl
    refine r_cat (e6 _ _ h5) h6 (by
      have a := la5.1
      have b := la6.1
      rw [List.length_map] at a b
      rw [List.length_map, List.length_map, a, b, ← la3.1]
      omega) fun p3 H7 hp3 e7 h7 => ?_
    walk_at "rd"
    refine ⟨p3, ts1 ++ ts2, _, rfl, (e3.trans (e5.trans e6)).free hp3, ((e3.trans e5).trans e6).trans e7, by rw [h7, List.map_append], ?_⟩
    exact ((la5.ex e6).ex e7).app (la6.ex e7)
  · rintro σ' H3 ⟨q, cs, s2, rfl, hq, e3, h3, la3⟩
    walk_at "rd"
    exact k q cs H3 hq e3 h3 la3

end K36
namespace K36
open PySem PySem.Spec PyProof.Rows L2 GS TL
local macro_rules | `(tactic| walk_at "rd") => `(tactic| (repeat (first
  | with_reducible refine r_next ?_
  | with_reducible refine r_seq ?_
  | with_reducible refine r_ret ?_
  | with_reducible refine r_ifS ?_
  | with_reducible refine r_asg ?_
  | with_reducible refine r_drop ?_
  | with_reducible refine r_op ?_
  | with_reducible refine r_un ?_
  | with_reducible refine r_cbInt ?_
  | with_reducible refine r_cbAbs ?_
  | with_reducible refine r_cbLen ?_
  | with_reducible refine r_cbList ?_
  | with_reducible refine r_cbTup ?_
  | with_reducible refine r_iEnT ?_
  | with_reducible refine r_iEnL ?_
  | with_reducible refine r_zipA ?_
  | with_reducible refine r_zipX ?_
  | with_reducible refine r_augS ?_
  | with_reducible refine r_cb ?_
  | with_reducible refine r_call ?_
  | with_reducible refine r_make ?_
  | with_reducible refine r_callN0 ?_
  | with_reducible refine r_makeK0 ?_
  | with_reducible refine r_makeS ?_
  | with_reducible refine r_callS ?_
  | with_reducible refine r_cons ?_
  | with_reducible refine r_nil ?_
  | with_reducible refine r_test ?_
  | with_reducible refine r_B ?_
  | with_reducible refine r_and ?_
  | with_reducible refine r_or ?_
  | with_reducible refine r_not ?_
  | with_reducible refine r_andV ?_
  | with_reducible refine r_orV ?_
  | with_reducible refine r_notV ?_
  | with_reducible refine r_if ?_
  | with_reducible refine r_tup ?_
  | with_reducible refine r_lst ?_
  | with_reducible refine r_c ?_
  | with_reducible refine r_lc ?_
  | with_reducible refine r_chain ?_
  | with_reducible refine r_iT ?_
  | with_reducible refine r_iL ?_
  | with_reducible refine r_iR1 ?_
  | with_reducible refine r_iR2 ?_
  | with_reducible refine r_iR3 ?_
  | with_reducible refine r_asgG ?_
  | with_reducible refine r_gSub ?_
  | with_reducible refine r_for ?_
  | with_reducible refine r_smeth ?_
  | with_reducible refine r_par ?_
  | with_reducible refine r_parK ?_
  | with_reducible refine r_gCons ?_
  | with_reducible refine r_gNil ?_
  | with_reducible refine r_gName ?_
  | with_reducible refine r_intI ?_
  | with_reducible refine r_intB ?_
  | with_reducible refine r_absI ?_
  | with_reducible refine r_k ?_
  | with_reducible refine r_kV ?_
  | ((with_reducible show tVar _ _ _ _); refine r_var3 ?_ (by rfl))
  | with_reducible refine r_I0 ?_
  | with_reducible refine r_U ?_
  | with_reducible refine r_eqI ?_
  | with_reducible refine r_neI ?_
  | with_reducible refine r_F ?_
  | dsimp only)))
local macro_rules | `(tactic| walk_at "rx") => `(tactic| (repeat (first
  | with_reducible refine r_next ?_
  | with_reducible refine r_ret ?_
  | with_reducible refine r_ifS ?_
  | with_reducible refine r_asg ?_
  | with_reducible refine r_drop ?_
  | with_reducible refine r_op ?_
  | with_reducible refine r_un ?_
  | with_reducible refine r_cbInt ?_
  | with_reducible refine r_cbAbs ?_
  | with_reducible refine r_cbLen ?_
  | with_reducible refine r_cbList ?_
  | with_reducible refine r_cbTup ?_
  | with_reducible refine r_iEnT ?_
  | with_reducible refine r_iEnL ?_
  | with_reducible refine r_zipA ?_
  | with_reducible refine r_zipX ?_
  | with_reducible refine r_augS ?_
  | with_reducible refine r_cb ?_
  | with_reducible refine r_call ?_
  | with_reducible refine r_make ?_
  | with_reducible refine r_callN0 ?_
  | with_reducible refine r_makeK0 ?_
  | with_reducible refine r_makeS ?_
  | with_reducible refine r_callS ?_
  | with_reducible refine r_cons ?_
  | with_reducible refine r_nil ?_
  | with_reducible refine r_test ?_
  | with_reducible refine r_B ?_
  | with_reducible refine r_and ?_
  | with_reducible refine r_or ?_
  | with_reducible refine r_not ?_
  | with_reducible refine r_andV ?_
  | with_reducible refine r_orV ?_
  | with_reducible refine r_notV ?_
  | with_reducible refine r_if ?_
  | with_reducible refine r_tup ?_
  | with_reducible refine r_lst ?_
  | with_reducible refine r_c ?_
  | with_reducible refine r_lc ?_
  | with_reducible refine r_chain ?_
  | with_reducible refine r_iT ?_
  | with_reducible refine r_iL ?_
  | with_reducible refine r_iR1 ?_
  | with_reducible refine r_iR2 ?_
  | with_reducible refine r_iR3 ?_
  | with_reducible refine r_asgG ?_
  | with_reducible refine r_gSub ?_
  | with_reducible refine r_for ?_
  | with_reducible refine r_smeth ?_
  | with_reducible refine r_par ?_
  | with_reducible refine r_parK ?_
  | with_reducible refine r_gCons ?_
  | with_reducible refine r_gNil ?_
  | with_reducible refine r_gName ?_
  | with_reducible refine r_intI ?_
  | with_reducible refine r_intB ?_
  | with_reducible refine r_absI ?_
  | with_reducible refine r_k ?_
  | with_reducible refine r_kV ?_
  | ((with_reducible show tVar _ _ _ _); refine r_var3 ?_ (by rfl))
  | with_reducible refine r_I0 ?_
  | with_reducible refine r_U ?_
  | with_reducible refine r_eqI ?_
  | with_reducible refine r_neI ?_
  | with_reducible refine r_F ?_
  | dsimp only)))
/-! ### the total -/
def addL (a b : List Int) : List Int := List.zipWith (· + ·) a b
def cell (A B : List (List Int)) (names signs : List Int) (i j : Nat) : Int := en A i j + signs.getD i 0 * signs.getD j 0 * en B (names.getD i 0).toNat (names.getD j 0).toNat
def matF (f : Nat → Nat → Int) (m d : Nat) : List (List Int) := (List.range m).map fun i => (List.range d).map fun j => f i j
def F2 (A B : List (List Int)) (d : Nat) (names : List Int) (t : List Int) (signs : List Int) : List Int := addL t (polL (matF (cell A B names signs) d d) d)
def F1 (A B : List (List Int)) (d : Nat) (t : List Int) (names : List Int) : List Int := (sgN [1] (d - 1)).foldl (F2 A B d names) t
def totL (A B : List (List Int)) (d : Nat) : List Int := (renL d).foldl (F1 A B d) (GM.zr (d + 1))
theorem ren_in : ∀ d, d < 5 → ∀ s ∈ renL d, ∀ c ∈ s, 0 ≤ c ∧ c < (d : Int) := by decide
theorem sg_in1 : ∀ k, k < 4 → ∀ s ∈ sgN [1] k, ∀ c ∈ s, c = 1 ∨ c = -1 := by decide
theorem fold_len {α : Type} {f : List Int → α → List Int} {m : Nat} (h : ∀ t a, t.length = m → (f t a).length = m) : ∀ (l : List α) (t : List Int), t.length = m → (l.foldl f t).length = m
  | [], t, ht => ht
  | a :: l, t, ht => fold_len h l (f t a) (h t a ht)
theorem F2_len {A B : List (List Int)} {d : Nat} {names signs t : List Int} (h : t.length = d + 1) : (F2 A B d names t signs).length = d + 1 := by
  unfold F2 addL
  rw [List.length_zipWith, polL_len, h]
  omega
theorem F1_len {A B : List (List Int)} {d : Nat} {names t : List Int} (h : t.length = d + 1) : (F1 A B d t names).length = d + 1 := fold_len (fun _ _ h => F2_len h) _ _ h
theorem Sy.cell {rs : List (List Int)} {d : Nat} (t : Sy rs d) {i : Nat} (hi : i < d) : ∃ r, rs[i]? = some r ∧ r.length = d ∧ ∀ j, j < d → r[j]? = some (en rs i j) ∧ -far12 ≤ en rs i j ∧ en rs i j ≤ far12 := by
  obtain ⟨r, hr, er, lr⟩ := t.rw.at hi
  refine ⟨r, hr, lr, fun j hj => ⟨?_, t.b i j hi hj⟩⟩
  have hj' : j < r.length := by omega
  simp [en, List.getD_eq_getElem?_getD, hr, hj']
def spTot (K : PySem.W.Frag) : Sp := sp2 fun v w H Q _ => ∃ (a b : Addr) (cs ds : List Addr) (A B : List (List Int)) (d : Nat), v = .ref a ∧ w = .ref b ∧ H a = some (.lst (cs.map V.ref)) ∧ H b = some (.lst (ds.map V.ref)) ∧ LA H cs A ∧ LA H ds B ∧ Sy A d ∧ Sy B d ∧ 1 ≤ d ∧ d ≤ 4 ∧ ∀ p H', H p = none → Ex H H' → H' p = some (.lst ((totL A B d).map V.int)) → Q (.ref p) H'
theorem for_ref {K : PySem.W.Frag} {a : Addr} {cs : List Addr} {g : TG} {tb : TS} {D : Ends} {σ : L2.St} {H : Hp} (Pv : Nat → L2.St → Hp → Prop) (h0 : Pv 0 σ H) (hG : ∀ i σ H, i ≤ cs.length → Pv i σ H → H a = some (.lst (cs.map V.ref)))
    (hs : ∀ i t σ H, i < cs.length → cs[i]? = some t → Pv i σ H → g (.ref t) σ H fun σ2 H2 => tb { D with nx := Pv (i + 1), ct := Pv (i + 1), bk := D.nx } σ2 H2) (hd : ∀ σ H, Pv cs.length σ H → D.nx σ H) :
    forB (Itl K a) g tb D σ H := by
  refine for_of (by have := walk_list (K := K) (a := a) (xs := cs.map V.ref); rwa [List.length_map] at this) Pv h0 (fun i σ H hi p => SqL.of (hG i σ H hi p)) ?_ hd
  rintro i x σ H H' hi p ⟨rfl, hx⟩
  obtain ⟨t, ht, rfl⟩ := ref_at hx
  exact hs i t σ H' hi ht p
theorem ok__law_total {P : Program} {w : World} {K : PySem.W.Frag} {mg : Str → Option Value} {base : Heap} (T : Txt K mg) : ∃ fd, FnOk P w K mg base (L2.CX P w) 7 (He.ga K "_law_total") fd ["one", "other"] (spTot K) ∧ Binds K fd ["one", "other"] [] := by
  obtain ⟨fd, F⟩ := T.d__law_total
  obtain ⟨fd__law_renamings, F__law_renamings, B__law_renamings⟩ := ok__law_renamings (P := P) (w := w) (base := base) T
  obtain ⟨fd__law_signs, F__law_signs, B__law_signs⟩ := ok__law_signs (P := P) (w := w) (base := base) T
  obtain ⟨fd__law_poly, F__law_poly, B__law_poly⟩ := ok__law_poly (P := P) (w := w) (base := base) T
  refine ⟨fd, F.ok sc__law_total sp2_len (fun cdv A outer s H vs Q E hr h => ?_), F.bindsN fun _ _ _ _ _ _ us hl => match us, hl with | [_, _], _ => rfl⟩
  have hr__law_renamings : Room 1 _ := hr.mono (by decide)
  have hr__law_signs : Room 1 _ := hr.mono (by decide)
  have hr__law_poly : Room 6 _ := hr.mono (by decide)
  obtain ⟨v, w', rfl, a, b, cs, ds, A, B, d, rfl, rfl, ha, hb, la, lb, sa, sb, d1, d4, k⟩ := sp2_is h
  refine ⟨_, (pss_cons (ps_set (i := 2) sc__law_total.nd rfl (Or.inl rfl) (pe_callB (kx_lens rfl) (by rfl) T.b_len PySem.boot_len (pa_cons (pv 0) pa_nil)))
      (pss_cons (ps_set (i := 3) sc__law_total.nd rfl (Or.inl rfl) (pe_op op_rep (pe_lst (pa_cons pe_int pa_nil)) (pe_op op_add (pv 2) pe_int)))
      (pss_cons (ps_for (passes_of rfl) rfl (pi_list (pe_call F__law_renamings hr__law_renamings (by rfl) T.g__law_renamings T.k__law_renamings B__law_renamings .nil passL (pa_cons (pv 2) pa_nil))) (pg_name (i := 4) sc__law_total.nd rfl (Or.inl rfl)) (pss_one (ps_for (passes_of rfl) rfl (pi_list (pe_call F__law_signs hr__law_signs (by rfl) T.g__law_signs T.k__law_signs B__law_signs .nil passL (pa_cons (pv 2) pa_nil))) (pg_name (i := 5) sc__law_total.nd rfl (Or.inl rfl)) (pss_cons (ps_set (i := 6) sc__law_total.nd rfl (Or.inl rfl) (pe_lst pa_nil))
      (pss_cons (ps_for (passes_of rfl) rfl (pi_zipY (by rfl) T.b_zip (pa_cons (pv 0) (pa_cons (pv 4) (pa_cons (pv 5) pa_nil)))) (pg_tup rfl (pgs_cons (pg_name (i := 7) sc__law_total.nd rfl (Or.inl rfl)) (pgs_cons (pg_name (i := 8) sc__law_total.nd rfl (Or.inr rfl)) (pgs_cons (pg_name (i := 9) sc__law_total.nd rfl (Or.inr rfl)) pgs_nil)))) (pss_cons (ps_setLc (i := 10) (own := [("to", 11)]) (g := gName 11) (tt := tYes)  rfl sc__law_total.nd rfl rfl (sw_true rfl rfl rfl (by decide +kernel)) (pi_list (pv 4)) (blkOk_by (own := [("to", 11)]) (N := ["one", "other", "size", "total", "names", "signs", "rows", "row", "name", "sign", "far", "to", "held", "mark", "number"]) (sc := defScope s__law_total) (by decide +kernel)) (fun _ _ _ _ _ => (pg_name (i := 11) sc__law_total.nd rfl (Or.inl rfl))) (fun _ _ _ _ _ => pts_nil) (fun _ _ _ _ _ => (pe_ix (kx_ixl rfl) (pe_ix (kx_ixl rfl) (pv 1) (pv 8) (fun _ _ => rfl)) (pv 11) (fun _ _ => rfl))))
      (pss_one (ps_expr (pe_bm PySem.F.plainAttrs_list PySem.F.slot_list_append PySem.F.type_list_append mt_append (pv 6) (pa_cons (pe_lc (own := [("held", 12), ("mark", 13), ("number", 14)]) (g := gTup K 3 (gCons (gName 12) (gCons (gName 13) (gCons (gName 14) (gNil))))) (tt := tYes)  rfl sc__law_total.nd (pi_zipY (by rfl) T.b_zip (pa_cons (pv 7) (pa_cons (pv 5) (pa_cons (pv 10) pa_nil)))) (blkOk_by (own := [("held", 12), ("mark", 13), ("number", 14)]) (N := ["one", "other", "size", "total", "names", "signs", "rows", "row", "name", "sign", "far", "to", "held", "mark", "number"]) (sc := defScope s__law_total) (by decide +kernel)) (fun _ _ _ _ _ => (pg_tup rfl (pgs_cons (pg_name (i := 12) sc__law_total.nd rfl (Or.inl rfl)) (pgs_cons (pg_name (i := 13) sc__law_total.nd rfl (Or.inl rfl)) (pgs_cons (pg_name (i := 14) sc__law_total.nd rfl (Or.inl rfl)) pgs_nil))))) (fun _ _ _ _ _ => pts_nil) (fun _ _ _ _ _ => (pe_op op_add (pv 12) (pe_op op_mulW (pe_op op_mulW (pv 9) (pv 13)) (pv 14))))) pa_nil))))))
      (pss_one (ps_setLc (i := 3) (own := [("held", 12), ("number", 14)]) (g := gTup K 2 (gCons (gName 12) (gCons (gName 14) (gNil)))) (tt := tYes)  rfl sc__law_total.nd rfl rfl (sw_true rfl rfl rfl (by decide +kernel)) (pi_zipX (by rfl) T.b_zip (pa_cons (pv 3) (pa_cons (pe_call F__law_poly hr__law_poly (by rfl) T.g__law_poly T.k__law_poly B__law_poly .nil passL (pa_cons (pv 6) pa_nil)) pa_nil))) (blkOk_by (own := [("held", 12), ("number", 14)]) (N := ["one", "other", "size", "total", "names", "signs", "rows", "row", "name", "sign", "far", "to", "held", "mark", "number"]) (sc := defScope s__law_total) (by decide +kernel)) (fun _ _ _ _ _ => (pg_tup rfl (pgs_cons (pg_name (i := 12) sc__law_total.nd rfl (Or.inl rfl)) (pgs_cons (pg_name (i := 14) sc__law_total.nd rfl (Or.inl rfl)) pgs_nil)))) (fun _ _ _ _ _ => pts_nil) (fun _ _ _ _ _ => (pe_op op_add (pv 12) (pv 14))))))))))
      (pss_one (ps_ret (pv 3)))))), ?_⟩
  have f12 := far12_is
  have lcs : cs.length = d := by rw [la.1]; exact sa.len
  have lds : ds.length = d := by rw [lb.1]; exact sb.len
  walk_at "rd"
  refine len_l ha ?_
  rw [List.length_map, lcs]
  walk_at "rd"
  refine r_newL (sz_le (by simp)) fun Z0 H1 hZ0 e1 h1 => ?_
  walk_at "rd"
  refine r_zeros (m := d + 1) h1 (by push_cast; rfl) (by omega) fun T0 H2 hT0 e2 h2 => ?_
  walk_at "rd"
  refine ⟨d, rfl, d4, fun q1 cs1 H3 hq1 e3 h3 la1 => ?_⟩
  have e03 := (e1.trans e2).trans e3
  refine ⟨q1, rfl, ⟨_, SqL.of h3⟩, ?_⟩
  have hT3 := e3 _ _ h2
  have fT : H T0 = none := e1.free hT0
  clear e1 e2 e3 h1 h2 hZ0 hT0
  refine for_ref (cs := cs1) (fun i σ' H' => ∃ T s4 s5 s6 s7 s8 s9 s10, σ' = [some (.ref a), some (.ref b), some (.int d), some (.ref T), s4, s5, s6, s7, s8, s9, s10, none, none, none, none] ∧ H T = none ∧ Ex H3 H' ∧ H' T = some (.lst ((((renL d).take i).foldl (F1 A B d) (GM.zr (d + 1))).map V.int))) ⟨T0, none, none, none, none, none, none, none, rfl, fT, Ex.refl _, by simpa using hT3⟩ (fun _ _ _ _ ⟨_, _, _, _, _, _, _, _, _, _, e, _⟩ => e _ _ h3) ?_ ?_
  · rintro i1 tn1 σ' H4 hi1 htn1 ⟨T, s4, s5, s6, s7, s8, s9, s10, rfl, fT4, e4, hT4⟩
    obtain ⟨names, hnm, hnw⟩ := (la1.ex e4).at htn1
    have mnm := List.mem_of_getElem? hnm
    have lnm := ren_len d names mnm
    have nin := ren_in d (by omega) names mnm
    rw [List.take_add_one, hnm, List.foldl_append]
    have ltot : (((renL d).take i1).foldl (F1 A B d) (GM.zr (d + 1))).length = d + 1 := fold_len (fun _ _ h => F1_len h) _ _ (by simp [GM.zr])
    generalize ((renL d).take i1).foldl (F1 A B d) (GM.zr (d + 1)) = tot at hT4 ltot ⊢
    have e04 := e03.trans e4
    refine r_gName ?_
    walk_at "rd"
    refine ⟨d, rfl, d1, d4, fun q2 cs2 H6 hq2 e46 h6 la2 => ?_⟩
    refine ⟨q2, rfl, ⟨_, SqL.of h6⟩, ?_⟩
    refine for_ref (cs := cs2) (fun i σ' H' => ∃ T s5 s6 s7 s8 s9 s10, σ' = [some (.ref a), some (.ref b), some (.int d), some (.ref T), some (.ref tn1), s5, s6, s7, s8, s9, s10, none, none, none, none] ∧ H T = none ∧ Ex H6 H' ∧ H' T = some (.lst ((((sgN [1] (d - 1)).take i).foldl (F2 A B d names) tot).map V.int))) ⟨T, s5, s6, s7, s8, s9, s10, rfl, fT4, Ex.refl _, by simpa using e46 _ _ hT4⟩ (fun _ _ _ _ ⟨_, _, _, _, _, _, _, _, _, e, _⟩ => e _ _ h6) ?_ ?_
    · rintro i2 tn2 σ' H13 hi2 htn2 ⟨T, s5, s6, s7, s8, s9, s10, rfl, fT13, e13, hT13⟩
      obtain ⟨signs, hsg, hsw⟩ := (la2.ex e13).at htn2
      have msg := List.mem_of_getElem? hsg
      have lsg := sg_len [1] (d - 1) signs msg
      have sin := sg_in1 (d - 1) (by omega) signs msg
      rw [List.take_add_one, hsg, List.foldl_append]
      have ltot2 : (((sgN [1] (d - 1)).take i2).foldl (F2 A B d names) tot).length = d + 1 := fold_len (fun _ _ h => F2_len h) _ _ ltot
      generalize ((sgN [1] (d - 1)).take i2).foldl (F2 A B d names) tot = tot2 at hT13 ltot2 ⊢
      have e413 := e46.trans e13
      have e013 := e04.trans e413
      have hnw13 := e413 _ _ hnw
      have ha13 := e013 _ _ ha
      have hb13 := e013 _ _ hb
      have la13 := la.ex e013
      have lb13 := lb.ex e013
      refine r_gName ?_
      walk_at "rx"
      refine r_seqJ (fun σ' H' => ∃ R, σ' = [some (.ref a), some (.ref b), some (.int d), some (.ref T), some (.ref tn1), some (.ref tn2), some (.ref R), s7, s8, s9, s10, none, none, none, none] ∧ H13 R = none ∧ Ex H13 H' ∧ H' R = some (.lst [])) (fun N0 hN0 => ?_) ?_
      · walk_at "rd"
        refine r_newL (Nat.zero_le _) fun R H14 hR e14 h14 => ?_
        walk_at "rd"
        exact hN0 _ _ ⟨R, rfl, hR, e14, h14⟩
      rintro σ' H14 ⟨R, rfl, hRf, e14, hR14⟩
      refine r_seqJ (fun σ' H' => ∃ us s7 s8 s9 s10, σ' = [some (.ref a), some (.ref b), some (.int d), some (.ref T), some (.ref tn1), some (.ref tn2), some (.ref R), s7, s8, s9, s10, none, none, none, none] ∧ Ex H13 H' ∧ H' R = some (.lst (us.map V.ref)) ∧ LA H' us (matF (cell A B names signs) d d)) (fun N0 hN0 => ?_) ?_
      · walk_at "rd"
        refine r_zipY ?_
        walk_at "rd"
        refine ⟨false, false, false, a, tn1, tn2, _, _, _, rfl, SqL.of (e14 _ _ ha13), SqL.of (e14 _ _ hnw13), SqL.of (e14 _ _ hsw), ?_⟩
        let tot : Nat → Nat → Int := cell A B names signs
        refine for_of (walk_zipY (xs := cs.map V.ref) (ys := names.map V.int) (zs := signs.map V.int) (n := d) (by rw [List.length_map, List.length_map, List.length_map, lcs, lnm, lsg]; omega)) (fun i σ' H' => ∃ us s7 s8 s9 s10, σ' = [some (.ref a), some (.ref b), some (.int d), some (.ref T), some (.ref tn1), some (.ref tn2), some (.ref R), s7, s8, s9, s10, none, none, none, none] ∧ Ex H13 H' ∧ H' R = some (.lst (us.map V.ref)) ∧ R ∉ us ∧ LA H' us (matF tot i d)) ⟨[], s7, s8, s9, s10, rfl, e14, hR14, by simp, LA.nil⟩ (fun _ _ _ _ ⟨_, _, _, _, _, _, e, _⟩ => ⟨SqL.of (e _ _ ha13), SqL.of (e _ _ hnw13), SqL.of (e _ _ hsw)⟩) ?_ ?_
        · rintro i x σ' H15 H16 hi ⟨us, s7, s8, s9, s10, rfl, e15, hR15, nRu, lau⟩ ⟨Q0, x1, x2, x3, rfl, hQ0, rfl, g1, g2, g3⟩
          obtain ⟨tr, htr, rfl⟩ := ref_at g1
          obtain ⟨nm, hnm2, rfl⟩ := int_at g2
          obtain ⟨sg, hsg2, rfl⟩ := int_at g3
          refine r_gTup upd_same rfl (r_gCons (r_gName (r_gCons (r_gName (r_gCons (r_gName (r_gNil ?_)))))))
          have e16 : Ex H15 (upd H15 Q0 (.tup [.ref tr, .int nm, .int sg])) := Ex.new hQ0
          generalize upd H15 Q0 (.tup [.ref tr, .int nm, .int sg]) = H16 at e16 ⊢
          have e1316 := e15.trans e16
          obtain ⟨r, hr, lr, gr⟩ := sa.cell hi
          obtain ⟨r', hr', hrow⟩ := (la13.ex e1316).at htr
          obtain rfl : r' = r := by rw [hr] at hr'; exact (Option.some.inj hr').symm
          have en1 : nm = names.getD i 0 := by rw [List.getD_eq_getElem?_getD, hnm2]; rfl
          have es1 : sg = signs.getD i 0 := by rw [List.getD_eq_getElem?_getD, hsg2]; rfl
          obtain ⟨n0, nd⟩ := nin nm (List.mem_of_getElem? hnm2)
          have hs1 := sin sg (List.mem_of_getElem? hsg2)
          obtain ⟨f, hf, lf, gf⟩ := sb.cell (i := nm.toNat) (by omega)
          have hnw16 := e1316 _ _ hnw13
          walk_at "rd"
          refine ⟨tn1, rfl, ⟨_, SqL.of hnw16⟩, ?_⟩
          refine r_lcM (n := d) (k := 11) (by have := walk_list (K := K) (a := tn1) (xs := names.map V.int); rwa [List.length_map, lnm] at this) (fun j => .int (en B nm.toNat (names.getD j 0).toNat)) (by omega) (fun H' e => SqL.of (e _ _ hnw16)) (fun _ => rfl) ?_ ?_
          · rintro j y H17 H18 hj e17 ⟨rfl, hy⟩
            refine ⟨Ex.refl _, fun H19 e19 R2 kR2 => ?_⟩
            obtain ⟨c, hc, rfl⟩ := int_at hy
            obtain ⟨m0, m1⟩ := nin c (List.mem_of_getElem? hc)
            have ec : names.getD j 0 = c := by rw [List.getD_eq_getElem?_getD, hc]; rfl
            rw [ec] at kR2
            have e1319 := (e1316.trans e17).trans e19
            obtain ⟨tf, htf, hfw⟩ := (lb13.ex e1319).col hf
            obtain ⟨gc, _, _⟩ := gf c.toNat (by omega)
            walk_at "rd"
            refine r_ixL (e1319 _ _ hb13) (v := .ref tf) (by
              have : atI (ds.map V.ref) ((nm.toNat : Nat) : Int) = some (.ref tf) := atI_nat (by rw [List.getElem?_map, htf]; rfl)
              rwa [show ((nm.toNat : Nat) : Int) = nm by omega] at this) ?_
            walk_at "rd"
            refine r_ixL hfw (v := .int (en B nm.toNat c.toNat)) (by
              have : atI (f.map V.int) ((c.toNat : Nat) : Int) = some (.int (en B nm.toNat c.toNat)) := atI_nat (by rw [List.getElem?_map, gc]; rfl)
              rwa [show ((c.toNat : Nat) : Int) = c by omega] at this) ?_
            exact kR2 _ (Ex.refl _)
          intro G H17 hG e17 h17
          have lF : ((List.range d).map fun j => en B nm.toNat (names.getD j 0).toNat).length = d := by simp
          have h17' : H17 G = some (.lst (((List.range d).map fun j => en B nm.toNat (names.getD j 0).toNat).map V.int)) := by rw [h17, List.map_map]; rfl
          have e1617 := e16.trans e17
          have hR17 := e1617 _ _ hR15
          walk_at "rd"
          refine r_bm ?_
          walk_at "rd"
          refine ⟨tyL hR17, ?_⟩
          walk_at "rd"
          refine r_zipY ?_
          walk_at "rd"
          have hrow17 := e17 _ _ hrow
          have hsw17 := (e1316.trans e17) _ _ hsw
          refine ⟨false, false, false, tr, tn2, G, _, _, _, rfl, SqL.of hrow17, SqL.of hsw17, SqL.of h17', ?_⟩
          refine r_lcZ (n := d) (walk_zipY (by rw [List.length_map, List.length_map, List.length_map, lr, lsg, lF]; omega)) ((List.range d).map fun j => tot i j) (by simp) (by omega) (fun H' e => ⟨SqL.of (e _ _ hrow17), SqL.of (e _ _ hsw17), SqL.of (e _ _ h17')⟩) ?_ ?_
          · rintro j y H18 H19 hj e18 ⟨Q1, y1, y2, y3, rfl, hQ1, rfl, k1, k2, k3⟩ N2 hN2
            obtain ⟨c1, hc1, rfl⟩ := int_at k1
            obtain ⟨c2, hc2, rfl⟩ := int_at k2
            obtain ⟨c3, hc3, rfl⟩ := int_at k3
            refine r_gTup upd_same rfl (r_gCons (r_gName (r_gCons (r_gName (r_gCons (r_gName (r_gNil ⟨rfl, ?_⟩)))))))
            have e19 : Ex H18 (upd H18 Q1 (.tup [.int c1, .int c2, .int c3])) := Ex.new hQ1
            generalize upd H18 Q1 (.tup [.int c1, .int c2, .int c3]) = H19 at e19 ⊢
            obtain ⟨gc, _, _⟩ := gr j hj
            have ec1 : c1 = en A i j := by rw [gc] at hc1; exact (Option.some.inj hc1).symm
            have ec2 : c2 = signs.getD j 0 := by rw [List.getD_eq_getElem?_getD, hc2]; rfl
            have ec3 : c3 = en B nm.toNat (names.getD j 0).toNat := by
              rw [List.getElem?_map, List.getElem?_range hj] at hc3
              exact (Option.some.inj hc3).symm
            have hk2 := sin c2 (List.mem_of_getElem? hc2)
            have gj : names[j]? = some (names.getD j 0) := by simp [lnm, hj]
            obtain ⟨m0, m1⟩ := nin _ (List.mem_of_getElem? gj)
            obtain ⟨b0, b1⟩ := sb.b nm.toNat (names.getD j 0).toNat (by omega) (by omega)
            walk_at "rd"
            have z1 : Z 10 sg := by unfold Z; rcases hs1 with h | h <;> rw [h] <;> decide
            have z2 : Z 10 c2 := by unfold Z; rcases hk2 with h | h <;> rw [h] <;> decide
            have z3 : Z 100 c3 := by
              unfold Z
              have : (2 : Nat) ^ 100 = 1267650600228229401496703205376 := rfl
              omega
            refine r_I (mulOk z1 z2 (by decide) (by decide) (by decide)) ?_
            walk_at "rd"
            refine r_I (mulOk (z1.mul z2) z3 (by decide) (by decide) (by decide)) ?_
            walk_at "rd"
            have eg : ((List.range d).map fun j => tot i j).getD j 0 = c1 + sg * c2 * c3 := by
              rw [List.getD_eq_getElem?_getD, List.getElem?_map, List.getElem?_range hj, ec1, ec2, ec3, en1, es1]
              rfl
            have := hN2 _ e19
            rw [eg] at this
            exact this
          · intro D H18 hD e18 h18
            walk_at "rd"
            have nRD : R ≠ D := fun z => by rw [← z, hR17] at hD; cases hD
            refine r_app (e18 _ _ hR17) (by rw [List.length_map, lau.1]; simp [matF]; omega) ?_
            walk_at "rd"
            refine ⟨us ++ [D], _, _, _, _, rfl, fun t o ht => ?_, by rw [upd_same, List.map_append]; rfl, fun z => ?_, ?_⟩
            · rw [upd_ne (ne_of_none ht hRf)]
              exact e18 _ _ (e17 _ _ (e1316 _ _ ht))
            · rcases List.mem_append.mp z with z | z
              · exact nRu z
              · exact nRD (List.mem_singleton.mp z)
            · unfold matF
              rw [List.range_succ, List.map_append]
              refine ((lau.ex (e1617.trans e18)).app (LA.cons h18 LA.nil)).upd fun z => ?_
              rcases List.mem_append.mp z with z | z
              · exact nRu z
              · exact nRD (List.mem_singleton.mp z)
        · rintro σ' H15 ⟨us, s7, s8, s9, s10, rfl, e15, hR15, nRu, lau⟩
          exact hN0 _ _ ⟨us, s7, s8, s9, s10, rfl, e15, hR15, lau⟩
      rintro σ' H15 ⟨us, s7, s8, s9, s10, rfl, e15, hR15, lau⟩
      have szR : Sz (matF (cell A B names signs) d d) d 100 := by
        refine ⟨by simp [matF], fun r hr => ?_, fun r hr c hc => ?_⟩
        · obtain ⟨i, _, rfl⟩ := List.mem_map.mp hr
          simp
        · obtain ⟨i, hi, rfl⟩ := List.mem_map.mp hr
          obtain ⟨j, hj, rfl⟩ := List.mem_map.mp hc
          have hi := List.mem_range.mp hi
          have hj := List.mem_range.mp hj
          have gi : names[i]? = some (names.getD i 0) := by simp [lnm, hi]
          have gj : names[j]? = some (names.getD j 0) := by simp [lnm, hj]
          have si : signs[i]? = some (signs.getD i 0) := by
            have : i < signs.length := by omega
            simp [this]
          have sj : signs[j]? = some (signs.getD j 0) := by
            have : j < signs.length := by omega
            simp [this]
          obtain ⟨n0, nd⟩ := nin _ (List.mem_of_getElem? gi)
          obtain ⟨m0, m1⟩ := nin _ (List.mem_of_getElem? gj)
          have hs1 := sin _ (List.mem_of_getElem? si)
          have hk1 := sin _ (List.mem_of_getElem? sj)
          obtain ⟨b0, b1⟩ := sb.b (names.getD i 0).toNat (names.getD j 0).toNat (by omega) (by omega)
          obtain ⟨a0, a1⟩ := sa.b i j hi hj
          show (en A i j + signs.getD i 0 * signs.getD j 0 * en B (names.getD i 0).toNat (names.getD j 0).toNat).natAbs < 2 ^ 100
          have : (2 : Nat) ^ 100 = 1267650600228229401496703205376 := rfl
          rcases hs1 with h | h <;> rcases hk1 with h' | h' <;> rw [h, h'] <;> omega
      walk_at "rd"
      refine ⟨matF (cell A B names signs) d d, d, ⟨R, us, rfl, hR15, lau⟩, szR, d1, d4, fun M H16 hM e16 h16 => ?_⟩
      have hT16 := (e15.trans e16) _ _ hT13
      have lsq := polL_len (matF (cell A B names signs) d d) d
      refine ⟨false, false, T, M, _, _, rfl, SqL.of hT16, SqL.of h16, ?_⟩
      refine r_lcZ (n := d + 1) (walk_zipX (by rw [List.length_map, List.length_map, ltot2, lsq]; omega)) (addL tot2 (polL (matF (cell A B names signs) d d) d)) (by unfold addL; rw [List.length_zipWith, ltot2, lsq]; omega) (by omega) (fun H' e => ⟨SqL.of (e _ _ hT16), SqL.of (e _ _ h16)⟩) ?_ ?_
      · rintro j y H17 H18 hj e17 ⟨Q1, y1, y2, rfl, hQ1, rfl, k1, k2⟩ N2 hN2
        obtain ⟨c1, hc1, rfl⟩ := int_at k1
        obtain ⟨c2, hc2, rfl⟩ := int_at k2
        refine r_gTup upd_same rfl (r_gCons (r_gName (r_gCons (r_gName (r_gNil ⟨rfl, ?_⟩)))))
        walk_at "rd"
        have eg : (addL tot2 (polL (matF (cell A B names signs) d d) d)).getD j 0 = c1 + c2 := by
          rw [List.getD_eq_getElem?_getD, addL, List.getElem?_zipWith, hc1, hc2]
          rfl
        have := hN2 (upd H17 Q1 (.tup [.int c1, .int c2])) (Ex.new hQ1)
        rw [eg] at this
        exact this
      · intro D H17 hD e17 h17
        walk_at "rd"
        refine ⟨D, some (.ref tn2), some (.ref R), s7, s8, s9, s10, rfl, ?_, e13.trans ((e15.trans e16).trans e17), h17⟩
        exact (e013.trans (e15.trans e16)).free hD
    · rintro σ' H7 ⟨T, s5, s6, s7, s8, s9, s10, rfl, fT7, e7, hT7⟩
      rw [la2.1, List.take_length] at hT7
      exact ⟨T, _, _, _, _, _, _, _, rfl, fT7, e4.trans (e46.trans e7), hT7⟩
  · rintro σ' H4 ⟨T, s4, s5, s6, s7, s8, s9, s10, rfl, fT4, e4, hT4⟩
    rw [la1.1, List.take_length] at hT4
    walk_at "rd"
    exact k T H4 fT4 (e03.trans e4) hT4

end K36
namespace K36
open PySem PySem.Spec PyProof.Rows L2 GS TL
local macro_rules | `(tactic| walk_at "rd") => `(tactic| (repeat (first
  | with_reducible refine r_next ?_
  | with_reducible refine r_seq ?_
  | with_reducible refine r_ret ?_
  | with_reducible refine r_ifS ?_
  | with_reducible refine r_asg ?_
  | with_reducible refine r_drop ?_
  | with_reducible refine r_op ?_
  | with_reducible refine r_un ?_
  | with_reducible refine r_cbInt ?_
  | with_reducible refine r_cbAbs ?_
  | with_reducible refine r_cbLen ?_
  | with_reducible refine r_cbList ?_
  | with_reducible refine r_cbTup ?_
  | with_reducible refine r_iEnT ?_
  | with_reducible refine r_iEnL ?_
  | with_reducible refine r_zipA ?_
  | with_reducible refine r_zipX ?_
  | with_reducible refine r_augS ?_
  | with_reducible refine r_cb ?_
  | with_reducible refine r_call ?_
  | with_reducible refine r_make ?_
  | with_reducible refine r_callN0 ?_
  | with_reducible refine r_makeK0 ?_
  | with_reducible refine r_makeS ?_
  | with_reducible refine r_callS ?_
  | with_reducible refine r_cons ?_
  | with_reducible refine r_nil ?_
  | with_reducible refine r_test ?_
  | with_reducible refine r_B ?_
  | with_reducible refine r_and ?_
  | with_reducible refine r_or ?_
  | with_reducible refine r_not ?_
  | with_reducible refine r_andV ?_
  | with_reducible refine r_orV ?_
  | with_reducible refine r_notV ?_
  | with_reducible refine r_if ?_
  | with_reducible refine r_tup ?_
  | with_reducible refine r_lst ?_
  | with_reducible refine r_c ?_
  | with_reducible refine r_lc ?_
  | with_reducible refine r_chain ?_
  | with_reducible refine r_iT ?_
  | with_reducible refine r_iL ?_
  | with_reducible refine r_iR1 ?_
  | with_reducible refine r_iR2 ?_
  | with_reducible refine r_iR3 ?_
  | with_reducible refine r_asgG ?_
  | with_reducible refine r_gSub ?_
  | with_reducible refine r_for ?_
  | with_reducible refine r_smeth ?_
  | with_reducible refine r_par ?_
  | with_reducible refine r_parK ?_
  | with_reducible refine r_gCons ?_
  | with_reducible refine r_gNil ?_
  | with_reducible refine r_gName ?_
  | with_reducible refine r_intI ?_
  | with_reducible refine r_intB ?_
  | with_reducible refine r_absI ?_
  | with_reducible refine r_k ?_
  | with_reducible refine r_kV ?_
  | ((with_reducible show tVar _ _ _ _); refine r_var3 ?_ (by rfl))
  | with_reducible refine r_I0 ?_
  | with_reducible refine r_U ?_
  | with_reducible refine r_eqI ?_
  | with_reducible refine r_neI ?_
  | with_reducible refine r_F ?_
  | dsimp only)))
local macro_rules | `(tactic| walk_at "rx") => `(tactic| (repeat (first
  | with_reducible refine r_next ?_
  | with_reducible refine r_ret ?_
  | with_reducible refine r_ifS ?_
  | with_reducible refine r_asg ?_
  | with_reducible refine r_drop ?_
  | with_reducible refine r_op ?_
  | with_reducible refine r_un ?_
  | with_reducible refine r_cbInt ?_
  | with_reducible refine r_cbAbs ?_
  | with_reducible refine r_cbLen ?_
  | with_reducible refine r_cbList ?_
  | with_reducible refine r_cbTup ?_
  | with_reducible refine r_iEnT ?_
  | with_reducible refine r_iEnL ?_
  | with_reducible refine r_zipA ?_
  | with_reducible refine r_zipX ?_
  | with_reducible refine r_augS ?_
  | with_reducible refine r_cb ?_
  | with_reducible refine r_call ?_
  | with_reducible refine r_make ?_
  | with_reducible refine r_callN0 ?_
  | with_reducible refine r_makeK0 ?_
  | with_reducible refine r_makeS ?_
  | with_reducible refine r_callS ?_
  | with_reducible refine r_cons ?_
  | with_reducible refine r_nil ?_
  | with_reducible refine r_test ?_
  | with_reducible refine r_B ?_
  | with_reducible refine r_and ?_
  | with_reducible refine r_or ?_
  | with_reducible refine r_not ?_
  | with_reducible refine r_andV ?_
  | with_reducible refine r_orV ?_
  | with_reducible refine r_notV ?_
  | with_reducible refine r_if ?_
  | with_reducible refine r_tup ?_
  | with_reducible refine r_lst ?_
  | with_reducible refine r_c ?_
  | with_reducible refine r_lc ?_
  | with_reducible refine r_chain ?_
  | with_reducible refine r_iT ?_
  | with_reducible refine r_iL ?_
  | with_reducible refine r_iR1 ?_
  | with_reducible refine r_iR2 ?_
  | with_reducible refine r_iR3 ?_
  | with_reducible refine r_asgG ?_
  | with_reducible refine r_gSub ?_
  | with_reducible refine r_for ?_
  | with_reducible refine r_smeth ?_
  | with_reducible refine r_par ?_
  | with_reducible refine r_parK ?_
  | with_reducible refine r_gCons ?_
  | with_reducible refine r_gNil ?_
  | with_reducible refine r_gName ?_
  | with_reducible refine r_intI ?_
  | with_reducible refine r_intB ?_
  | with_reducible refine r_absI ?_
  | with_reducible refine r_k ?_
  | with_reducible refine r_kV ?_
  | ((with_reducible show tVar _ _ _ _); refine r_var3 ?_ (by rfl))
  | with_reducible refine r_I0 ?_
  | with_reducible refine r_U ?_
  | with_reducible refine r_eqI ?_
  | with_reducible refine r_neI ?_
  | with_reducible refine r_F ?_
  | dsimp only)))
/-! ### the numbers of small tables -/
theorem rg1 : List.range 1 = [0] := rfl
theorem rg2 : List.range 2 = [0, 1] := rfl
theorem rg3 : List.range 3 = [0, 1, 2] := rfl
theorem rg4 : List.range 4 = [0, 1, 2, 3] := rfl
theorem rg5 : List.range 5 = [0, 1, 2, 3, 4] := rfl
def m2 (p q t : Int) : Int := p * t - q * q
def m3 (p q r t u w : Int) : Int := p * (t * w - u * u) - q * (q * w - u * r) + r * (q * u - t * r)
def m4 (p q r s t u v w x y : Int) : Int := p * m3 t u v w x y - q * (q * m2 w x y - r * (u * y - v * x) + s * (u * x - v * w)) + r * (q * (u * y - v * x) - r * m2 t v y + s * (t * x - u * v)) - s * (q * (u * x - w * v) - r * (t * x - u * v) + s * m2 t u w)
def P1 (p : Int) : List Int := [1, -p]
def P2 (p q t : Int) : List Int := [1, -(p + t), m2 p q t]
def P3 (p q r t u w : Int) : List Int := [1, -(p + t + w), m2 p q t + m2 p r w + m2 t u w, -(m3 p q r t u w)]
def P4 (p q r s t u v w x y : Int) : List Int := [1, -(p + t + w + y), m2 p q t + m2 p r w + m2 p s y + m2 t u w + m2 t v y + m2 w x y, -(m3 p q r t u w + m3 p q s t v y + m3 p r s w x y + m3 t u v w x y), m4 p q r s t u v w x y]
theorem tnA1 (p : Int) : tn [[p]] 1 = P1 p := by
  simp [tn, rowF, pw, ttL, dotL, en, rg1, rg2, P1]
theorem tnA2 (p q t : Int) : tn [[p, q], [q, t]] 2 = P2 p q t := by
  simp [tn, rowF, pw, ttL, dotL, en, rg1, rg2, rg3, P2, m2]
  grind
theorem tnA3 (p q r t u w : Int) : tn [[p, q, r], [q, t, u], [r, u, w]] 3 = P3 p q r t u w := by
  simp [tn, rowF, pw, ttL, dotL, en, rg1, rg2, rg3, rg4, P3, m2, m3]
  grind
theorem tnA4 (p q r s t u v w x y : Int) : tn [[p, q, r, s], [q, t, u, v], [r, u, w, x], [s, v, x, y]] 4 = P4 p q r s t u v w x y := by
  simp [tn, rowF, pw, ttL, dotL, en, rg1, rg2, rg3, rg4, rg5, P4, m2, m3, m4]
  grind
theorem lots1 : lotsL 1 = [[], [0]] := by decide
theorem lots2 : lotsL 2 = [[], [0], [1], [0, 1]] := by decide
theorem lots3 : lotsL 3 = [[], [0], [1], [0, 1], [2], [0, 2], [1, 2], [0, 1, 2]] := by decide
theorem lots4 : lotsL 4 = [[], [0], [1], [0, 1], [2], [0, 2], [1, 2], [0, 1, 2], [3], [0, 3], [1, 3], [0, 1, 3], [2, 3], [0, 2, 3], [1, 2, 3], [0, 1, 2, 3]] := by decide
theorem wor0 : worN 0 [] = 1 := rfl
theorem wor1 (a : Int) : worN 1 [[a]] = a := by
  simp [worN, rg1, sgn]
theorem wor2 (p q t : Int) : worN 2 [[p, q], [q, t]] = m2 p q t := by
  simp [worN, rg1, rg2, sgn, cutC, m2]
  grind
theorem wor3 (p q r t u w : Int) : worN 3 [[p, q, r], [q, t, u], [r, u, w]] = m3 p q r t u w := by
  simp [worN, rg1, rg2, rg3, sgn, cutC, m3]
  grind
theorem wor4 (p q r s t u v w x y : Int) : worN 4 [[p, q, r, s], [q, t, u, v], [r, u, w, x], [s, v, x, y]] = m4 p q r s t u v w x y := by
  simp [worN, rg1, rg2, rg3, rg4, sgn, cutC, m4, m3, m2]
  grind
theorem polA1 (p : Int) : polL [[p]] 1 = P1 p := by
  simp [polL, polF, lots1, addAt, minr, subM, en, GM.zr, List.replicate, wor0, wor1, P1]
theorem polA2 (p q t : Int) : polL [[p, q], [q, t]] 2 = P2 p q t := by
  simp [polL, polF, lots2, addAt, minr, subM, en, GM.zr, List.replicate, wor0, wor1, wor2, P2]
  grind
theorem polA3 (p q r t u w : Int) : polL [[p, q, r], [q, t, u], [r, u, w]] 3 = P3 p q r t u w := by
  simp [polL, polF, lots3, addAt, minr, subM, en, GM.zr, List.replicate, wor0, wor1, wor2, wor3, P3]
  grind
theorem polA4 (p q r s t u v w x y : Int) : polL [[p, q, r, s], [q, t, u, v], [r, u, w, x], [s, v, x, y]] 4 = P4 p q r s t u v w x y := by
  simp [polL, polF, lots4, addAt, minr, subM, en, GM.zr, List.replicate, wor0, wor1, wor2, wor3, wor4, P4]
  grind

end K36
namespace K36
open PySem PySem.Spec PyProof.Rows L2 GS TL
local macro_rules | `(tactic| walk_at "rd") => `(tactic| (repeat (first
  | with_reducible refine r_next ?_
  | with_reducible refine r_seq ?_
  | with_reducible refine r_ret ?_
  | with_reducible refine r_ifS ?_
  | with_reducible refine r_asg ?_
  | with_reducible refine r_drop ?_
  | with_reducible refine r_op ?_
  | with_reducible refine r_un ?_
  | with_reducible refine r_cbInt ?_
  | with_reducible refine r_cbAbs ?_
  | with_reducible refine r_cbLen ?_
  | with_reducible refine r_cbList ?_
  | with_reducible refine r_cbTup ?_
  | with_reducible refine r_iEnT ?_
  | with_reducible refine r_iEnL ?_
  | with_reducible refine r_zipA ?_
  | with_reducible refine r_zipX ?_
  | with_reducible refine r_augS ?_
  | with_reducible refine r_cb ?_
  | with_reducible refine r_call ?_
  | with_reducible refine r_make ?_
  | with_reducible refine r_callN0 ?_
  | with_reducible refine r_makeK0 ?_
  | with_reducible refine r_makeS ?_
  | with_reducible refine r_callS ?_
  | with_reducible refine r_cons ?_
  | with_reducible refine r_nil ?_
  | with_reducible refine r_test ?_
  | with_reducible refine r_B ?_
  | with_reducible refine r_and ?_
  | with_reducible refine r_or ?_
  | with_reducible refine r_not ?_
  | with_reducible refine r_andV ?_
  | with_reducible refine r_orV ?_
  | with_reducible refine r_notV ?_
  | with_reducible refine r_if ?_
  | with_reducible refine r_tup ?_
  | with_reducible refine r_lst ?_
  | with_reducible refine r_c ?_
  | with_reducible refine r_lc ?_
  | with_reducible refine r_chain ?_
  | with_reducible refine r_iT ?_
  | with_reducible refine r_iL ?_
  | with_reducible refine r_iR1 ?_
  | with_reducible refine r_iR2 ?_
  | with_reducible refine r_iR3 ?_
  | with_reducible refine r_asgG ?_
  | with_reducible refine r_gSub ?_
  | with_reducible refine r_for ?_
  | with_reducible refine r_smeth ?_
  | with_reducible refine r_par ?_
  | with_reducible refine r_parK ?_
  | with_reducible refine r_gCons ?_
  | with_reducible refine r_gNil ?_
  | with_reducible refine r_gName ?_
  | with_reducible refine r_intI ?_
  | with_reducible refine r_intB ?_
  | with_reducible refine r_absI ?_
  | with_reducible refine r_k ?_
  | with_reducible refine r_kV ?_
  | ((with_reducible show tVar _ _ _ _); refine r_var3 ?_ (by rfl))
  | with_reducible refine r_I0 ?_
  | with_reducible refine r_U ?_
  | with_reducible refine r_eqI ?_
  | with_reducible refine r_neI ?_
  | with_reducible refine r_F ?_
  | dsimp only)))
local macro_rules | `(tactic| walk_at "rx") => `(tactic| (repeat (first
  | with_reducible refine r_next ?_
  | with_reducible refine r_ret ?_
  | with_reducible refine r_ifS ?_
  | with_reducible refine r_asg ?_
  | with_reducible refine r_drop ?_
  | with_reducible refine r_op ?_
  | with_reducible refine r_un ?_
  | with_reducible refine r_cbInt ?_
  | with_reducible refine r_cbAbs ?_
  | with_reducible refine r_cbLen ?_
  | with_reducible refine r_cbList ?_
  | with_reducible refine r_cbTup ?_
  | with_reducible refine r_iEnT ?_
  | with_reducible refine r_iEnL ?_
  | with_reducible refine r_zipA ?_
  | with_reducible refine r_zipX ?_
  | with_reducible refine r_augS ?_
  | with_reducible refine r_cb ?_
  | with_reducible refine r_call ?_
  | with_reducible refine r_make ?_
  | with_reducible refine r_callN0 ?_
  | with_reducible refine r_makeK0 ?_
  | with_reducible refine r_makeS ?_
  | with_reducible refine r_callS ?_
  | with_reducible refine r_cons ?_
  | with_reducible refine r_nil ?_
  | with_reducible refine r_test ?_
  | with_reducible refine r_B ?_
  | with_reducible refine r_and ?_
  | with_reducible refine r_or ?_
  | with_reducible refine r_not ?_
  | with_reducible refine r_andV ?_
  | with_reducible refine r_orV ?_
  | with_reducible refine r_notV ?_
  | with_reducible refine r_if ?_
  | with_reducible refine r_tup ?_
  | with_reducible refine r_lst ?_
  | with_reducible refine r_c ?_
  | with_reducible refine r_lc ?_
  | with_reducible refine r_chain ?_
  | with_reducible refine r_iT ?_
  | with_reducible refine r_iL ?_
  | with_reducible refine r_iR1 ?_
  | with_reducible refine r_iR2 ?_
  | with_reducible refine r_iR3 ?_
  | with_reducible refine r_asgG ?_
  | with_reducible refine r_gSub ?_
  | with_reducible refine r_for ?_
  | with_reducible refine r_smeth ?_
  | with_reducible refine r_par ?_
  | with_reducible refine r_parK ?_
  | with_reducible refine r_gCons ?_
  | with_reducible refine r_gNil ?_
  | with_reducible refine r_gName ?_
  | with_reducible refine r_intI ?_
  | with_reducible refine r_intB ?_
  | with_reducible refine r_absI ?_
  | with_reducible refine r_k ?_
  | with_reducible refine r_kV ?_
  | ((with_reducible show tVar _ _ _ _); refine r_var3 ?_ (by rfl))
  | with_reducible refine r_I0 ?_
  | with_reducible refine r_U ?_
  | with_reducible refine r_eqI ?_
  | with_reducible refine r_neI ?_
  | with_reducible refine r_F ?_
  | dsimp only)))
/-! ### shapes -/
theorem Sy.enS {rs : List (List Int)} {d : Nat} (h : Sy rs d) (i j : Nat) : en rs i j = en rs j i := by
  have z : ∀ a b, ¬(a < d ∧ b < d) → en rs a b = 0 := fun a b hn => by
    unfold en
    by_cases ha : a < d
    · obtain ⟨r, _, er, lr⟩ := h.rw.at ha
      rw [er, List.getD_eq_getElem?_getD, List.getElem?_eq_none (by omega)]
      rfl
    · rw [List.getD_eq_getElem?_getD (l := rs), List.getElem?_eq_none (by have := h.len; omega)]
      rfl
  by_cases c : i < d ∧ j < d
  · exact h.sym i j c.1 c.2
  · rw [z i j c, z j i (fun x => c ⟨x.2, x.1⟩)]
theorem Sy.cases {P : List (List Int) → Nat → Prop} {rs : List (List Int)} {d : Nat} (h : Sy rs d) (d1 : 1 ≤ d) (d4 : d ≤ 4) (p1 : ∀ a, P [[a]] 1) (p2 : ∀ p q t, P [[p, q], [q, t]] 2) (p3 : ∀ p q r t u w, P [[p, q, r], [q, t, u], [r, u, w]] 3) (p4 : ∀ p q r s t u v w x y, P [[p, q, r, s], [q, t, u, v], [r, u, w, x], [s, v, x, y]] 4) : P rs d := by
  have hl := h.len
  have hr := h.row
  have hs := h.enS
  have : d = 1 ∨ d = 2 ∨ d = 3 ∨ d = 4 := by omega
  rcases this with rfl | rfl | rfl | rfl
  · match rs, hl, hr with
    | [r], _, hr =>
      match r, hr r (by simp) with
      | [a], _ => exact p1 a
  · match rs, hl, hr, hs with
    | [r, s], _, hr, hs =>
      match r, hr r (by simp), s, hr s (by simp), hs with
      | [a, b], _, [c, e], _, hs =>
        obtain rfl : b = c := hs 0 1
        exact p2 ..
  · match rs, hl, hr, hs with
    | [r, s, t], _, hr, hs =>
      match r, hr r (by simp), s, hr s (by simp), t, hr t (by simp), hs with
      | [a, b, c], _, [e, f, g], _, [h, i, j], _, hs =>
        obtain rfl : b = e := hs 0 1
        obtain rfl : c = h := hs 0 2
        obtain rfl : g = i := hs 1 2
        exact p3 ..
  · match rs, hl, hr, hs with
    | [r, s, t, u], _, hr, hs =>
      match r, hr r (by simp), s, hr s (by simp), t, hr t (by simp), u, hr u (by simp), hs with
      | [a0, a1, a2, a3], _, [b0, b1, b2, b3], _, [c0, c1, c2, c3], _, [e0, e1, e2, e3], _, hs =>
        obtain rfl : a1 = b0 := hs 0 1
        obtain rfl : a2 = c0 := hs 0 2
        obtain rfl : a3 = e0 := hs 0 3
        obtain rfl : b2 = c1 := hs 1 2
        obtain rfl : b3 = e1 := hs 1 3
        obtain rfl : c3 = e2 := hs 2 3
        exact p4 ..
theorem pol_tn {rs : List (List Int)} {d : Nat} (h : Sy rs d) (d1 : 1 ≤ d) (d4 : d ≤ 4) : tn rs d = polL rs d := h.cases (P := fun rs d => tn rs d = polL rs d) d1 d4 (fun _ => by rw [tnA1, polA1]) (fun _ _ _ => by rw [tnA2, polA2]) (fun _ _ _ _ _ _ => by rw [tnA3, polA3]) (fun _ _ _ _ _ _ _ _ _ _ => by rw [tnA4, polA4])
/-! ### the total as sums -/
theorem add_get {a b : List Int} {m k : Nat} (ha : a.length = m) (hb : b.length = m) (hk : k < m) : (addL a b).getD k 0 = a.getD k 0 + b.getD k 0 := by
  have h1 : k < a.length := by omega
  have h2 : k < b.length := by omega
  simp [addL, List.getD_eq_getElem?_getD, List.getElem?_zipWith, h1, h2]
theorem fold_get {α : Type} {f : List Int → α → List Int} {g : α → Int} {m k : Nat} (hl : ∀ t a, t.length = m → (f t a).length = m) (hg : ∀ t a, t.length = m → (f t a).getD k 0 = t.getD k 0 + g a) : ∀ (l : List α) (t : List Int), t.length = m → (l.foldl f t).getD k 0 = t.getD k 0 + (l.map g).sum
  | [], t, _ => by simp
  | a :: l, t, ht => by
    rw [List.foldl_cons, fold_get hl hg l _ (hl t a ht), hg t a ht, List.map_cons, List.sum_cons, Int.add_assoc]
def S1 (A B : List (List Int)) (d k : Nat) (names : List Int) : Int := ((sgN [1] (d - 1)).map fun signs => (polL (matF (cell A B names signs) d d) d).getD k 0).sum
theorem tot_get {A B : List (List Int)} {d k : Nat} (hk : k < d + 1) : (totL A B d).getD k 0 = ((renL d).map fun names => S1 A B d k names).sum := by
  have g2 : ∀ names t signs, t.length = d + 1 → (F2 A B d names t signs).getD k 0 = t.getD k 0 + (polL (matF (cell A B names signs) d d) d).getD k 0 := fun names t signs ht => add_get ht (polL_len _ _) hk
  have g1 : ∀ t names, t.length = d + 1 → (F1 A B d t names).getD k 0 = t.getD k 0 + S1 A B d k names := fun t names ht => fold_get (fun t a h => F2_len h) (fun t a h => g2 names t a h) _ t ht
  have hz : (GM.zr (d + 1)).length = d + 1 := by simp [GM.zr]
  have := fold_get (f := F1 A B d) (g := fun names => S1 A B d k names) (m := d + 1) (k := k) (fun t a h => F1_len h) g1 (renL d) _ hz
  show ((renL d).foldl (F1 A B d) (GM.zr (d + 1))).getD k 0 = _
  rw [this]
  have z0 : (GM.zr (d + 1)).getD k 0 = 0 := by
    rw [List.getD_eq_getElem?_getD]
    cases q : (GM.zr (d + 1))[k]? with
    | none => rfl
    | some c => exact List.eq_of_mem_replicate (List.mem_of_getElem? q)
  rw [z0, Int.zero_add]
theorem tot_len {A B : List (List Int)} {d : Nat} : (totL A B d).length = d + 1 := fold_len (fun _ _ h => F1_len h) _ _ (by simp [GM.zr])
theorem ren1 : renL 1 = [[0]] := by decide
theorem ren2 : renL 2 = [[1, 0], [0, 1]] := by decide
theorem ren3 : renL 3 = [[2, 1, 0], [1, 2, 0], [1, 0, 2], [2, 0, 1], [0, 2, 1], [0, 1, 2]] := by decide
theorem ren4 : renL 4 = (ins [2, 1, 0] 3 ++ ins [1, 2, 0] 3 ++ ins [1, 0, 2] 3) ++ (ins [2, 0, 1] 3 ++ ins [0, 2, 1] 3 ++ ins [0, 1, 2] 3) := by decide
theorem ins3 (a b c : Int) : ins [a, b, c] 3 = [[3, a, b, c], [a, 3, b, c], [a, b, 3, c], [a, b, c, 3]] := by
  simp [ins, rg4]
theorem sg1 : sgN [1] 0 = [[1]] := by decide
theorem sg2 : sgN [1] 1 = [[1, 1], [1, -1]] := by decide
theorem sg3 : sgN [1] 2 = [[1, 1, 1], [1, -1, 1], [1, 1, -1], [1, -1, -1]] := by decide
theorem sg4 : sgN [1] 3 = [[1, 1, 1, 1], [1, -1, 1, 1], [1, 1, -1, 1], [1, -1, -1, 1], [1, 1, 1, -1], [1, -1, 1, -1], [1, 1, -1, -1], [1, -1, -1, -1]] := by decide
section
variable {A B : List (List Int)}
/-- one place of a table with another added by signs -/
def ce (A B : List (List Int)) (i j : Nat) (m n s t : Int) : Int := en A i j + s * t * en B m.toNat n.toNat
theorem cM4 (hA : ∀ i j, en A i j = en A j i) (hB : ∀ i j, en B i j = en B j i) (n0 n1 n2 n3 s0 s1 s2 s3 : Int) : matF (cell A B [n0, n1, n2, n3] [s0, s1, s2, s3]) 4 4 = [[ce A B 0 0 n0 n0 s0 s0, ce A B 0 1 n0 n1 s0 s1, ce A B 0 2 n0 n2 s0 s2, ce A B 0 3 n0 n3 s0 s3], [ce A B 0 1 n0 n1 s0 s1, ce A B 1 1 n1 n1 s1 s1, ce A B 1 2 n1 n2 s1 s2, ce A B 1 3 n1 n3 s1 s3],
    [ce A B 0 2 n0 n2 s0 s2, ce A B 1 2 n1 n2 s1 s2, ce A B 2 2 n2 n2 s2 s2, ce A B 2 3 n2 n3 s2 s3], [ce A B 0 3 n0 n3 s0 s3, ce A B 1 3 n1 n3 s1 s3, ce A B 2 3 n2 n3 s2 s3, ce A B 3 3 n3 n3 s3 s3]] := by
  simp only [matF, cell, rg4, List.map_cons, List.map_nil, List.getD_cons_zero, List.getD_cons_succ, ce]
  rw [hA 1 0, hA 2 0, hA 2 1, hA 3 0, hA 3 1, hA 3 2, hB n1.toNat n0.toNat, hB n2.toNat n0.toNat, hB n2.toNat n1.toNat, hB n3.toNat n0.toNat, hB n3.toNat n1.toNat, hB n3.toNat n2.toNat, Int.mul_comm s1 s0, Int.mul_comm s2 s0, Int.mul_comm s3 s0, Int.mul_comm s2 s1, Int.mul_comm s3 s1, Int.mul_comm s3 s2]
theorem cM3 (hA : ∀ i j, en A i j = en A j i) (hB : ∀ i j, en B i j = en B j i) (n0 n1 n2 s0 s1 s2 : Int) : matF (cell A B [n0, n1, n2] [s0, s1, s2]) 3 3 = [[ce A B 0 0 n0 n0 s0 s0, ce A B 0 1 n0 n1 s0 s1, ce A B 0 2 n0 n2 s0 s2], [ce A B 0 1 n0 n1 s0 s1, ce A B 1 1 n1 n1 s1 s1, ce A B 1 2 n1 n2 s1 s2], [ce A B 0 2 n0 n2 s0 s2, ce A B 1 2 n1 n2 s1 s2, ce A B 2 2 n2 n2 s2 s2]] := by
  simp only [matF, cell, rg3, List.map_cons, List.map_nil, List.getD_cons_zero, List.getD_cons_succ, ce]
  rw [hA 1 0, hA 2 0, hA 2 1, hB n1.toNat n0.toNat, hB n2.toNat n0.toNat, hB n2.toNat n1.toNat, Int.mul_comm s1 s0, Int.mul_comm s2 s0, Int.mul_comm s2 s1]
theorem cM2 (hA : ∀ i j, en A i j = en A j i) (hB : ∀ i j, en B i j = en B j i) (n0 n1 s0 s1 : Int) : matF (cell A B [n0, n1] [s0, s1]) 2 2 = [[ce A B 0 0 n0 n0 s0 s0, ce A B 0 1 n0 n1 s0 s1], [ce A B 0 1 n0 n1 s0 s1, ce A B 1 1 n1 n1 s1 s1]] := by
  simp only [matF, cell, rg2, List.map_cons, List.map_nil, List.getD_cons_zero, List.getD_cons_succ, ce]
  rw [hA 1 0, hB n1.toNat n0.toNat, Int.mul_comm s1 s0]
theorem cM1 (n0 s0 : Int) : matF (cell A B [n0] [s0]) 1 1 = [[ce A B 0 0 n0 n0 s0 s0]] := by
  simp only [matF, cell, rg1, List.map_cons, List.map_nil, List.getD_cons_zero, ce]
end
theorem P4_0 (p q r s t u v w x y : Int) : (P4 p q r s t u v w x y).getD 0 0 = 1 := rfl
theorem P4_1 (p q r s t u v w x y : Int) : (P4 p q r s t u v w x y).getD 1 0 = -(p + t + w + y) := rfl
theorem P4_2 (p q r s t u v w x y : Int) : (P4 p q r s t u v w x y).getD 2 0 = m2 p q t + m2 p r w + m2 p s y + m2 t u w + m2 t v y + m2 w x y := rfl
theorem P4_3 (p q r s t u v w x y : Int) : (P4 p q r s t u v w x y).getD 3 0 = -(m3 p q r t u w + m3 p q s t v y + m3 p r s w x y + m3 t u v w x y) := rfl
theorem P4_4 (p q r s t u v w x y : Int) : (P4 p q r s t u v w x y).getD 4 0 = m4 p q r s t u v w x y := rfl
theorem P3_0 (p q r t u w : Int) : (P3 p q r t u w).getD 0 0 = 1 := rfl
theorem P3_1 (p q r t u w : Int) : (P3 p q r t u w).getD 1 0 = -(p + t + w) := rfl
theorem P3_2 (p q r t u w : Int) : (P3 p q r t u w).getD 2 0 = m2 p q t + m2 p r w + m2 t u w := rfl
theorem P3_3 (p q r t u w : Int) : (P3 p q r t u w).getD 3 0 = -(m3 p q r t u w) := rfl

end K36
namespace K36
open PySem PySem.Spec PyProof.Rows L2 GS TL
local macro_rules | `(tactic| walk_at "rd") => `(tactic| (repeat (first
  | with_reducible refine r_next ?_
  | with_reducible refine r_seq ?_
  | with_reducible refine r_ret ?_
  | with_reducible refine r_ifS ?_
  | with_reducible refine r_asg ?_
  | with_reducible refine r_drop ?_
  | with_reducible refine r_op ?_
  | with_reducible refine r_un ?_
  | with_reducible refine r_cbInt ?_
  | with_reducible refine r_cbAbs ?_
  | with_reducible refine r_cbLen ?_
  | with_reducible refine r_cbList ?_
  | with_reducible refine r_cbTup ?_
  | with_reducible refine r_iEnT ?_
  | with_reducible refine r_iEnL ?_
  | with_reducible refine r_zipA ?_
  | with_reducible refine r_zipX ?_
  | with_reducible refine r_augS ?_
  | with_reducible refine r_cb ?_
  | with_reducible refine r_call ?_
  | with_reducible refine r_make ?_
  | with_reducible refine r_callN0 ?_
  | with_reducible refine r_makeK0 ?_
  | with_reducible refine r_makeS ?_
  | with_reducible refine r_callS ?_
  | with_reducible refine r_cons ?_
  | with_reducible refine r_nil ?_
  | with_reducible refine r_test ?_
  | with_reducible refine r_B ?_
  | with_reducible refine r_and ?_
  | with_reducible refine r_or ?_
  | with_reducible refine r_not ?_
  | with_reducible refine r_andV ?_
  | with_reducible refine r_orV ?_
  | with_reducible refine r_notV ?_
  | with_reducible refine r_if ?_
  | with_reducible refine r_tup ?_
  | with_reducible refine r_lst ?_
  | with_reducible refine r_c ?_
  | with_reducible refine r_lc ?_
  | with_reducible refine r_chain ?_
  | with_reducible refine r_iT ?_
  | with_reducible refine r_iL ?_
  | with_reducible refine r_iR1 ?_
  | with_reducible refine r_iR2 ?_
  | with_reducible refine r_iR3 ?_
  | with_reducible refine r_asgG ?_
  | with_reducible refine r_gSub ?_
  | with_reducible refine r_for ?_
  | with_reducible refine r_smeth ?_
  | with_reducible refine r_par ?_
  | with_reducible refine r_parK ?_
  | with_reducible refine r_gCons ?_
  | with_reducible refine r_gNil ?_
  | with_reducible refine r_gName ?_
  | with_reducible refine r_intI ?_
  | with_reducible refine r_intB ?_
  | with_reducible refine r_absI ?_
  | with_reducible refine r_k ?_
  | with_reducible refine r_kV ?_
  | ((with_reducible show tVar _ _ _ _); refine r_var3 ?_ (by rfl))
  | with_reducible refine r_I0 ?_
  | with_reducible refine r_U ?_
  | with_reducible refine r_eqI ?_
  | with_reducible refine r_neI ?_
  | with_reducible refine r_F ?_
  | dsimp only)))
local macro_rules | `(tactic| walk_at "rx") => `(tactic| (repeat (first
  | with_reducible refine r_next ?_
  | with_reducible refine r_ret ?_
  | with_reducible refine r_ifS ?_
  | with_reducible refine r_asg ?_
  | with_reducible refine r_drop ?_
  | with_reducible refine r_op ?_
  | with_reducible refine r_un ?_
  | with_reducible refine r_cbInt ?_
  | with_reducible refine r_cbAbs ?_
  | with_reducible refine r_cbLen ?_
  | with_reducible refine r_cbList ?_
  | with_reducible refine r_cbTup ?_
  | with_reducible refine r_iEnT ?_
  | with_reducible refine r_iEnL ?_
  | with_reducible refine r_zipA ?_
  | with_reducible refine r_zipX ?_
  | with_reducible refine r_augS ?_
  | with_reducible refine r_cb ?_
  | with_reducible refine r_call ?_
  | with_reducible refine r_make ?_
  | with_reducible refine r_callN0 ?_
  | with_reducible refine r_makeK0 ?_
  | with_reducible refine r_makeS ?_
  | with_reducible refine r_callS ?_
  | with_reducible refine r_cons ?_
  | with_reducible refine r_nil ?_
  | with_reducible refine r_test ?_
  | with_reducible refine r_B ?_
  | with_reducible refine r_and ?_
  | with_reducible refine r_or ?_
  | with_reducible refine r_not ?_
  | with_reducible refine r_andV ?_
  | with_reducible refine r_orV ?_
  | with_reducible refine r_notV ?_
  | with_reducible refine r_if ?_
  | with_reducible refine r_tup ?_
  | with_reducible refine r_lst ?_
  | with_reducible refine r_c ?_
  | with_reducible refine r_lc ?_
  | with_reducible refine r_chain ?_
  | with_reducible refine r_iT ?_
  | with_reducible refine r_iL ?_
  | with_reducible refine r_iR1 ?_
  | with_reducible refine r_iR2 ?_
  | with_reducible refine r_iR3 ?_
  | with_reducible refine r_asgG ?_
  | with_reducible refine r_gSub ?_
  | with_reducible refine r_for ?_
  | with_reducible refine r_smeth ?_
  | with_reducible refine r_par ?_
  | with_reducible refine r_parK ?_
  | with_reducible refine r_gCons ?_
  | with_reducible refine r_gNil ?_
  | with_reducible refine r_gName ?_
  | with_reducible refine r_intI ?_
  | with_reducible refine r_intB ?_
  | with_reducible refine r_absI ?_
  | with_reducible refine r_k ?_
  | with_reducible refine r_kV ?_
  | ((with_reducible show tVar _ _ _ _); refine r_var3 ?_ (by rfl))
  | with_reducible refine r_I0 ?_
  | with_reducible refine r_U ?_
  | with_reducible refine r_eqI ?_
  | with_reducible refine r_neI ?_
  | with_reducible refine r_F ?_
  | dsimp only)))
/-! ### sums over signs -/
def G44 (p q r s t u v w x y a0 a1 a2 a3 a4 a5 a6 a7 a8 a9 : Int) : Int := m4 p q r s t u v w x y + m4 a0 a1 a2 a3 a4 a5 a6 a7 a8 a9 + (p * m3 a4 a5 a6 a7 a8 a9 + t * m3 a0 a2 a3 a7 a8 a9 + w * m3 a0 a1 a3 a4 a6 a9 + y * m3 a0 a1 a2 a4 a5 a7) + (a0 * m3 t u v w x y + a4 * m3 p r s w x y + a7 * m3 p q s t v y + a9 * m3 p q r t u w) + (m2 p q t * m2 a7 a8 a9 + m2 p r w * m2 a4 a6 a9 + m2 p s y * m2 a4 a5 a7 + m2 t u w * m2 a0 a3 a9 + m2 t v y * m2 a0 a2 a7 + m2 w x y * m2 a0 a1 a4)
def G43 (p q r s t u v w x y a0 a1 a2 a3 a4 a5 a6 a7 a8 a9 : Int) : Int := -((m3 p q r t u w + m3 a0 a1 a2 a4 a5 a7 + (p * m2 a4 a5 a7 + t * m2 a0 a2 a7 + w * m2 a0 a1 a4) + (a0 * m2 t u w + a4 * m2 p r w + a7 * m2 p q t)) + (m3 p q s t v y + m3 a0 a1 a3 a4 a6 a9 + (p * m2 a4 a6 a9 + t * m2 a0 a3 a9 + y * m2 a0 a1 a4) + (a0 * m2 t v y + a4 * m2 p s y + a9 * m2 p q t)) + (m3 p r s w x y + m3 a0 a2 a3 a7 a8 a9 + (p * m2 a7 a8 a9 + w * m2 a0 a3 a9 + y * m2 a0 a2 a7) + (a0 * m2 w x y + a7 * m2 p s y + a9 * m2 p r w)) + (m3 t u v w x y + m3 a4 a5 a6 a7 a8 a9 + (t * m2 a7 a8 a9 + w * m2 a4 a6 a9 + y * m2 a4 a5 a7) + (a4 * m2 w x y + a7 * m2 t v y + a9 * m2 t u w)))
def G42 (p q r s t u v w x y a0 a1 a2 a3 a4 a5 a6 a7 a8 a9 : Int) : Int := (m2 p q t + m2 a0 a1 a4 + p * a4 + t * a0) + (m2 p r w + m2 a0 a2 a7 + p * a7 + w * a0) + (m2 p s y + m2 a0 a3 a9 + p * a9 + y * a0) + (m2 t u w + m2 a4 a5 a7 + t * a7 + w * a4) + (m2 t v y + m2 a4 a6 a9 + t * a9 + y * a4) + (m2 w x y + m2 a7 a8 a9 + w * a9 + y * a7)
def G41 (p q r s t u v w x y a0 a1 a2 a3 a4 a5 a6 a7 a8 a9 : Int) : Int := -(p + t + w + y + (a0 + a4 + a7 + a9))
def G33 (p q r t u w a0 a1 a2 a4 a5 a7 : Int) : Int := -(m3 p q r t u w + m3 a0 a1 a2 a4 a5 a7 + (p * m2 a4 a5 a7 + t * m2 a0 a2 a7 + w * m2 a0 a1 a4) + (a0 * m2 t u w + a4 * m2 p r w + a7 * m2 p q t))
def G32 (p q r t u w a0 a1 a2 a4 a5 a7 : Int) : Int := (m2 p q t + m2 a0 a1 a4 + p * a4 + t * a0) + (m2 p r w + m2 a0 a2 a7 + p * a7 + w * a0) + (m2 t u w + m2 a4 a5 a7 + t * a7 + w * a4)
def G31 (p q r t u w a0 a1 a2 a4 a5 a7 : Int) : Int := -(p + t + w + (a0 + a4 + a7))
section
variable {A B : List (List Int)}
theorem in40 (hA : ∀ i j, en A i j = en A j i) (hB : ∀ i j, en B i j = en B j i) (n0 n1 n2 n3 : Int) : S1 A B 4 0 [n0, n1, n2, n3] = 8 := by
  simp only [S1, sg4, List.map_cons, List.map_nil, List.sum_cons, List.sum_nil, Nat.reduceSub, cM4 hA hB, polA4, P4_0]
  decide
theorem in41 (hA : ∀ i j, en A i j = en A j i) (hB : ∀ i j, en B i j = en B j i) (n0 n1 n2 n3 : Int) : S1 A B 4 1 [n0, n1, n2, n3] = 8 * G41 (en A 0 0) (en A 0 1) (en A 0 2) (en A 0 3) (en A 1 1) (en A 1 2) (en A 1 3) (en A 2 2) (en A 2 3) (en A 3 3) (en B n0.toNat n0.toNat) (en B n0.toNat n1.toNat) (en B n0.toNat n2.toNat) (en B n0.toNat n3.toNat) (en B n1.toNat n1.toNat) (en B n1.toNat n2.toNat) (en B n1.toNat n3.toNat) (en B n2.toNat n2.toNat) (en B n2.toNat n3.toNat) (en B n3.toNat n3.toNat) := by
  simp only [S1, sg4, List.map_cons, List.map_nil, List.sum_cons, List.sum_nil, Nat.reduceSub, cM4 hA hB, polA4, P4_1]
  simp only [ce]
  generalize en A 0 0 = p
  generalize en A 0 1 = q
  generalize en A 0 2 = r
  generalize en A 0 3 = s
  generalize en A 1 1 = t
  generalize en A 1 2 = u
  generalize en A 1 3 = v
  generalize en A 2 2 = w
  generalize en A 2 3 = x
  generalize en A 3 3 = y
  generalize en B n0.toNat n0.toNat = a0
  generalize en B n0.toNat n1.toNat = a1
  generalize en B n0.toNat n2.toNat = a2
  generalize en B n0.toNat n3.toNat = a3
  generalize en B n1.toNat n1.toNat = a4
  generalize en B n1.toNat n2.toNat = a5
  generalize en B n1.toNat n3.toNat = a6
  generalize en B n2.toNat n2.toNat = a7
  generalize en B n2.toNat n3.toNat = a8
  generalize en B n3.toNat n3.toNat = a9
  simp only [G41, m4, m3, m2]
  grind
theorem in42 (hA : ∀ i j, en A i j = en A j i) (hB : ∀ i j, en B i j = en B j i) (n0 n1 n2 n3 : Int) : S1 A B 4 2 [n0, n1, n2, n3] = 8 * G42 (en A 0 0) (en A 0 1) (en A 0 2) (en A 0 3) (en A 1 1) (en A 1 2) (en A 1 3) (en A 2 2) (en A 2 3) (en A 3 3) (en B n0.toNat n0.toNat) (en B n0.toNat n1.toNat) (en B n0.toNat n2.toNat) (en B n0.toNat n3.toNat) (en B n1.toNat n1.toNat) (en B n1.toNat n2.toNat) (en B n1.toNat n3.toNat) (en B n2.toNat n2.toNat) (en B n2.toNat n3.toNat) (en B n3.toNat n3.toNat) := by
  simp only [S1, sg4, List.map_cons, List.map_nil, List.sum_cons, List.sum_nil, Nat.reduceSub, cM4 hA hB, polA4, P4_2]
  simp only [ce]
  generalize en A 0 0 = p
  generalize en A 0 1 = q
  generalize en A 0 2 = r
  generalize en A 0 3 = s
  generalize en A 1 1 = t
  generalize en A 1 2 = u
  generalize en A 1 3 = v
  generalize en A 2 2 = w
  generalize en A 2 3 = x
  generalize en A 3 3 = y
  generalize en B n0.toNat n0.toNat = a0
  generalize en B n0.toNat n1.toNat = a1
  generalize en B n0.toNat n2.toNat = a2
  generalize en B n0.toNat n3.toNat = a3
  generalize en B n1.toNat n1.toNat = a4
  generalize en B n1.toNat n2.toNat = a5
  generalize en B n1.toNat n3.toNat = a6
  generalize en B n2.toNat n2.toNat = a7
  generalize en B n2.toNat n3.toNat = a8
  generalize en B n3.toNat n3.toNat = a9
  simp only [G42, m4, m3, m2]
  grind
theorem in43 (hA : ∀ i j, en A i j = en A j i) (hB : ∀ i j, en B i j = en B j i) (n0 n1 n2 n3 : Int) : S1 A B 4 3 [n0, n1, n2, n3] = 8 * G43 (en A 0 0) (en A 0 1) (en A 0 2) (en A 0 3) (en A 1 1) (en A 1 2) (en A 1 3) (en A 2 2) (en A 2 3) (en A 3 3) (en B n0.toNat n0.toNat) (en B n0.toNat n1.toNat) (en B n0.toNat n2.toNat) (en B n0.toNat n3.toNat) (en B n1.toNat n1.toNat) (en B n1.toNat n2.toNat) (en B n1.toNat n3.toNat) (en B n2.toNat n2.toNat) (en B n2.toNat n3.toNat) (en B n3.toNat n3.toNat) := by
  simp only [S1, sg4, List.map_cons, List.map_nil, List.sum_cons, List.sum_nil, Nat.reduceSub, cM4 hA hB, polA4, P4_3]
  simp only [ce]
  generalize en A 0 0 = p
  generalize en A 0 1 = q
  generalize en A 0 2 = r
  generalize en A 0 3 = s
  generalize en A 1 1 = t
  generalize en A 1 2 = u
  generalize en A 1 3 = v
  generalize en A 2 2 = w
  generalize en A 2 3 = x
  generalize en A 3 3 = y
  generalize en B n0.toNat n0.toNat = a0
  generalize en B n0.toNat n1.toNat = a1
  generalize en B n0.toNat n2.toNat = a2
  generalize en B n0.toNat n3.toNat = a3
  generalize en B n1.toNat n1.toNat = a4
  generalize en B n1.toNat n2.toNat = a5
  generalize en B n1.toNat n3.toNat = a6
  generalize en B n2.toNat n2.toNat = a7
  generalize en B n2.toNat n3.toNat = a8
  generalize en B n3.toNat n3.toNat = a9
  simp only [G43, m4, m3, m2]
  grind
theorem in44 (hA : ∀ i j, en A i j = en A j i) (hB : ∀ i j, en B i j = en B j i) (n0 n1 n2 n3 : Int) : S1 A B 4 4 [n0, n1, n2, n3] = 8 * G44 (en A 0 0) (en A 0 1) (en A 0 2) (en A 0 3) (en A 1 1) (en A 1 2) (en A 1 3) (en A 2 2) (en A 2 3) (en A 3 3) (en B n0.toNat n0.toNat) (en B n0.toNat n1.toNat) (en B n0.toNat n2.toNat) (en B n0.toNat n3.toNat) (en B n1.toNat n1.toNat) (en B n1.toNat n2.toNat) (en B n1.toNat n3.toNat) (en B n2.toNat n2.toNat) (en B n2.toNat n3.toNat) (en B n3.toNat n3.toNat) := by
  simp only [S1, sg4, List.map_cons, List.map_nil, List.sum_cons, List.sum_nil, Nat.reduceSub, cM4 hA hB, polA4, P4_4]
  simp only [ce]
  generalize en A 0 0 = p
  generalize en A 0 1 = q
  generalize en A 0 2 = r
  generalize en A 0 3 = s
  generalize en A 1 1 = t
  generalize en A 1 2 = u
  generalize en A 1 3 = v
  generalize en A 2 2 = w
  generalize en A 2 3 = x
  generalize en A 3 3 = y
  generalize en B n0.toNat n0.toNat = a0
  generalize en B n0.toNat n1.toNat = a1
  generalize en B n0.toNat n2.toNat = a2
  generalize en B n0.toNat n3.toNat = a3
  generalize en B n1.toNat n1.toNat = a4
  generalize en B n1.toNat n2.toNat = a5
  generalize en B n1.toNat n3.toNat = a6
  generalize en B n2.toNat n2.toNat = a7
  generalize en B n2.toNat n3.toNat = a8
  generalize en B n3.toNat n3.toNat = a9
  simp only [G44, m4, m3, m2]
  grind
theorem in30 (hA : ∀ i j, en A i j = en A j i) (hB : ∀ i j, en B i j = en B j i) (n0 n1 n2 : Int) : S1 A B 3 0 [n0, n1, n2] = 4 := by
  simp only [S1, sg3, List.map_cons, List.map_nil, List.sum_cons, List.sum_nil, Nat.reduceSub, cM3 hA hB, polA3, P3_0]
  decide
theorem in31 (hA : ∀ i j, en A i j = en A j i) (hB : ∀ i j, en B i j = en B j i) (n0 n1 n2 : Int) : S1 A B 3 1 [n0, n1, n2] = 4 * G31 (en A 0 0) (en A 0 1) (en A 0 2) (en A 1 1) (en A 1 2) (en A 2 2) (en B n0.toNat n0.toNat) (en B n0.toNat n1.toNat) (en B n0.toNat n2.toNat) (en B n1.toNat n1.toNat) (en B n1.toNat n2.toNat) (en B n2.toNat n2.toNat) := by
  simp only [S1, sg3, List.map_cons, List.map_nil, List.sum_cons, List.sum_nil, Nat.reduceSub, cM3 hA hB, polA3, P3_1]
  simp only [ce]
  generalize en A 0 0 = p
  generalize en A 0 1 = q
  generalize en A 0 2 = r
  generalize en A 1 1 = t
  generalize en A 1 2 = u
  generalize en A 2 2 = w
  generalize en B n0.toNat n0.toNat = a0
  generalize en B n0.toNat n1.toNat = a1
  generalize en B n0.toNat n2.toNat = a2
  generalize en B n1.toNat n1.toNat = a4
  generalize en B n1.toNat n2.toNat = a5
  generalize en B n2.toNat n2.toNat = a7
  simp only [G31, m3, m2]
  grind
theorem in32 (hA : ∀ i j, en A i j = en A j i) (hB : ∀ i j, en B i j = en B j i) (n0 n1 n2 : Int) : S1 A B 3 2 [n0, n1, n2] = 4 * G32 (en A 0 0) (en A 0 1) (en A 0 2) (en A 1 1) (en A 1 2) (en A 2 2) (en B n0.toNat n0.toNat) (en B n0.toNat n1.toNat) (en B n0.toNat n2.toNat) (en B n1.toNat n1.toNat) (en B n1.toNat n2.toNat) (en B n2.toNat n2.toNat) := by
  simp only [S1, sg3, List.map_cons, List.map_nil, List.sum_cons, List.sum_nil, Nat.reduceSub, cM3 hA hB, polA3, P3_2]
  simp only [ce]
  generalize en A 0 0 = p
  generalize en A 0 1 = q
  generalize en A 0 2 = r
  generalize en A 1 1 = t
  generalize en A 1 2 = u
  generalize en A 2 2 = w
  generalize en B n0.toNat n0.toNat = a0
  generalize en B n0.toNat n1.toNat = a1
  generalize en B n0.toNat n2.toNat = a2
  generalize en B n1.toNat n1.toNat = a4
  generalize en B n1.toNat n2.toNat = a5
  generalize en B n2.toNat n2.toNat = a7
  simp only [G32, m3, m2]
  grind
theorem in33 (hA : ∀ i j, en A i j = en A j i) (hB : ∀ i j, en B i j = en B j i) (n0 n1 n2 : Int) : S1 A B 3 3 [n0, n1, n2] = 4 * G33 (en A 0 0) (en A 0 1) (en A 0 2) (en A 1 1) (en A 1 2) (en A 2 2) (en B n0.toNat n0.toNat) (en B n0.toNat n1.toNat) (en B n0.toNat n2.toNat) (en B n1.toNat n1.toNat) (en B n1.toNat n2.toNat) (en B n2.toNat n2.toNat) := by
  simp only [S1, sg3, List.map_cons, List.map_nil, List.sum_cons, List.sum_nil, Nat.reduceSub, cM3 hA hB, polA3, P3_3]
  simp only [ce]
  generalize en A 0 0 = p
  generalize en A 0 1 = q
  generalize en A 0 2 = r
  generalize en A 1 1 = t
  generalize en A 1 2 = u
  generalize en A 2 2 = w
  generalize en B n0.toNat n0.toNat = a0
  generalize en B n0.toNat n1.toNat = a1
  generalize en B n0.toNat n2.toNat = a2
  generalize en B n1.toNat n1.toNat = a4
  generalize en B n1.toNat n2.toNat = a5
  generalize en B n2.toNat n2.toNat = a7
  simp only [G33, m3, m2]
  grind
end
def H1 (a0 a1 a2 a3 a4 a5 a6 a7 a8 a9 : Int) : Int := m4 a0 a1 a2 a3 a4 a5 a6 a7 a8 a9
def H2 (p t w y a0 a1 a2 a3 a4 a5 a6 a7 a8 a9 : Int) : Int := p * m3 a4 a5 a6 a7 a8 a9 + t * m3 a0 a2 a3 a7 a8 a9 + w * m3 a0 a1 a3 a4 a6 a9 + y * m3 a0 a1 a2 a4 a5 a7
def H3 (x0 x1 x2 x3 a0 a1 a2 a3 a4 a5 a6 a7 a8 a9 : Int) : Int := a0 * x0 + a4 * x1 + a7 * x2 + a9 * x3
def H4 (y0 y1 y2 y3 y4 y5 a0 a1 a2 a3 a4 a5 a6 a7 a8 a9 : Int) : Int := y0 * m2 a7 a8 a9 + y1 * m2 a4 a6 a9 + y2 * m2 a4 a5 a7 + y3 * m2 a0 a3 a9 + y4 * m2 a0 a2 a7 + y5 * m2 a0 a1 a4
theorem G44_H (p q r s t u v w x y a0 a1 a2 a3 a4 a5 a6 a7 a8 a9 : Int) : G44 p q r s t u v w x y a0 a1 a2 a3 a4 a5 a6 a7 a8 a9 = m4 p q r s t u v w x y + (H1 a0 a1 a2 a3 a4 a5 a6 a7 a8 a9 + H2 p t w y a0 a1 a2 a3 a4 a5 a6 a7 a8 a9 + H3 (m3 t u v w x y) (m3 p r s w x y) (m3 p q s t v y) (m3 p q r t u w) a0 a1 a2 a3 a4 a5 a6 a7 a8 a9 + H4 (m2 p q t) (m2 p r w) (m2 p s y) (m2 t u w) (m2 t v y) (m2 w x y) a0 a1 a2 a3 a4 a5 a6 a7 a8 a9) := by
  unfold G44 H1 H2 H3 H4
  omega
theorem e44a (a0 a1 a2 a3 a4 a5 a6 a7 a8 a9 : Int) : (H1 a9 a8 a6 a3 a7 a5 a2 a4 a1 a0 + (H1 a7 a8 a5 a2 a9 a6 a3 a4 a1 a0 + (H1 a7 a5 a8 a2 a4 a6 a1 a9 a3 a0 + (H1 a7 a5 a2 a8 a4 a1 a6 a0 a3 a9 + (H1 a9 a6 a8 a3 a4 a5 a1 a7 a2 a0 + (H1 a4 a6 a5 a1 a9 a8 a3 a7 a2 a0 + (H1 a4 a5 a6 a1 a7 a8 a2 a9 a3 a0 + (H1 a4 a5 a1 a6 a7 a2 a8 a0 a3 a9 + (H1 a9 a6 a3 a8 a4 a1 a5 a0 a2 a7 + (H1 a4 a6 a1 a5 a9 a3 a8 a0 a2 a7 + (H1 a4 a1 a6 a5 a0 a3 a2 a9 a8 a7 + (H1 a4 a1 a5 a6 a0 a2 a3 a7 a8 a9 + (H1 a9 a8 a3 a6 a7 a2 a5 a0 a1 a4 + (H1 a7 a8 a2 a5 a9 a3 a6 a0 a1 a4 + (H1 a7 a2 a8 a5 a0 a3 a1 a9 a6 a4 + (H1 a7 a2 a5 a8 a0 a1 a3 a4 a6 a9 + (H1 a9 a3 a8 a6 a0 a2 a1 a7 a5 a4 + (H1 a0 a3 a2 a1 a9 a8 a6 a7 a5 a4 + (H1 a0 a2 a3 a1 a7 a8 a5 a9 a6 a4 + (H1 a0 a2 a1 a3 a7 a5 a8 a4 a6 a9 + (H1 a9 a3 a6 a8 a0 a1 a2 a4 a5 a7 + (H1 a0 a3 a1 a2 a9 a6 a8 a4 a5 a7 + (H1 a0 a1 a3 a2 a4 a6 a5 a9 a8 a7 + (H1 a0 a1 a2 a3 a4 a5 a6 a7 a8 a9 + 0)))))))))))))))))))))))) = 24 * m4 a0 a1 a2 a3 a4 a5 a6 a7 a8 a9 := by
  simp only [H1, m4, m3, m2]
  grind
theorem e44b (p t w y a0 a1 a2 a3 a4 a5 a6 a7 a8 a9 : Int) : (H2 p t w y a9 a8 a6 a3 a7 a5 a2 a4 a1 a0 + (H2 p t w y a7 a8 a5 a2 a9 a6 a3 a4 a1 a0 + (H2 p t w y a7 a5 a8 a2 a4 a6 a1 a9 a3 a0 + (H2 p t w y a7 a5 a2 a8 a4 a1 a6 a0 a3 a9 + (H2 p t w y a9 a6 a8 a3 a4 a5 a1 a7 a2 a0 + (H2 p t w y a4 a6 a5 a1 a9 a8 a3 a7 a2 a0 + (H2 p t w y a4 a5 a6 a1 a7 a8 a2 a9 a3 a0 + (H2 p t w y a4 a5 a1 a6 a7 a2 a8 a0 a3 a9 + (H2 p t w y a9 a6 a3 a8 a4 a1 a5 a0 a2 a7 + (H2 p t w y a4 a6 a1 a5 a9 a3 a8 a0 a2 a7 + (H2 p t w y a4 a1 a6 a5 a0 a3 a2 a9 a8 a7 + (H2 p t w y a4 a1 a5 a6 a0 a2 a3 a7 a8 a9 + (H2 p t w y a9 a8 a3 a6 a7 a2 a5 a0 a1 a4 + (H2 p t w y a7 a8 a2 a5 a9 a3 a6 a0 a1 a4 + (H2 p t w y a7 a2 a8 a5 a0 a3 a1 a9 a6 a4 + (H2 p t w y a7 a2 a5 a8 a0 a1 a3 a4 a6 a9 + (H2 p t w y a9 a3 a8 a6 a0 a2 a1 a7 a5 a4 + (H2 p t w y a0 a3 a2 a1 a9 a8 a6 a7 a5 a4 + (H2 p t w y a0 a2 a3 a1 a7 a8 a5 a9 a6 a4 + (H2 p t w y a0 a2 a1 a3 a7 a5 a8 a4 a6 a9 + (H2 p t w y a9 a3 a6 a8 a0 a1 a2 a4 a5 a7 + (H2 p t w y a0 a3 a1 a2 a9 a6 a8 a4 a5 a7 + (H2 p t w y a0 a1 a3 a2 a4 a6 a5 a9 a8 a7 + (H2 p t w y a0 a1 a2 a3 a4 a5 a6 a7 a8 a9 + 0)))))))))))))))))))))))) = 6 * ((p + t + w + y) * (m3 a0 a1 a2 a4 a5 a7 + m3 a0 a1 a3 a4 a6 a9 + m3 a0 a2 a3 a7 a8 a9 + m3 a4 a5 a6 a7 a8 a9)) := by
  simp only [H2, m3]
  grind
theorem e44c (x0 x1 x2 x3 a0 a1 a2 a3 a4 a5 a6 a7 a8 a9 : Int) : (H3 x0 x1 x2 x3 a9 a8 a6 a3 a7 a5 a2 a4 a1 a0 + (H3 x0 x1 x2 x3 a7 a8 a5 a2 a9 a6 a3 a4 a1 a0 + (H3 x0 x1 x2 x3 a7 a5 a8 a2 a4 a6 a1 a9 a3 a0 + (H3 x0 x1 x2 x3 a7 a5 a2 a8 a4 a1 a6 a0 a3 a9 + (H3 x0 x1 x2 x3 a9 a6 a8 a3 a4 a5 a1 a7 a2 a0 + (H3 x0 x1 x2 x3 a4 a6 a5 a1 a9 a8 a3 a7 a2 a0 + (H3 x0 x1 x2 x3 a4 a5 a6 a1 a7 a8 a2 a9 a3 a0 + (H3 x0 x1 x2 x3 a4 a5 a1 a6 a7 a2 a8 a0 a3 a9 + (H3 x0 x1 x2 x3 a9 a6 a3 a8 a4 a1 a5 a0 a2 a7 + (H3 x0 x1 x2 x3 a4 a6 a1 a5 a9 a3 a8 a0 a2 a7 + (H3 x0 x1 x2 x3 a4 a1 a6 a5 a0 a3 a2 a9 a8 a7 + (H3 x0 x1 x2 x3 a4 a1 a5 a6 a0 a2 a3 a7 a8 a9 + (H3 x0 x1 x2 x3 a9 a8 a3 a6 a7 a2 a5 a0 a1 a4 + (H3 x0 x1 x2 x3 a7 a8 a2 a5 a9 a3 a6 a0 a1 a4 + (H3 x0 x1 x2 x3 a7 a2 a8 a5 a0 a3 a1 a9 a6 a4 + (H3 x0 x1 x2 x3 a7 a2 a5 a8 a0 a1 a3 a4 a6 a9 + (H3 x0 x1 x2 x3 a9 a3 a8 a6 a0 a2 a1 a7 a5 a4 + (H3 x0 x1 x2 x3 a0 a3 a2 a1 a9 a8 a6 a7 a5 a4 + (H3 x0 x1 x2 x3 a0 a2 a3 a1 a7 a8 a5 a9 a6 a4 + (H3 x0 x1 x2 x3 a0 a2 a1 a3 a7 a5 a8 a4 a6 a9 + (H3 x0 x1 x2 x3 a9 a3 a6 a8 a0 a1 a2 a4 a5 a7 + (H3 x0 x1 x2 x3 a0 a3 a1 a2 a9 a6 a8 a4 a5 a7 + (H3 x0 x1 x2 x3 a0 a1 a3 a2 a4 a6 a5 a9 a8 a7 + (H3 x0 x1 x2 x3 a0 a1 a2 a3 a4 a5 a6 a7 a8 a9 + 0)))))))))))))))))))))))) = 6 * ((a0 + a4 + a7 + a9) * (x3 + x2 + x1 + x0)) := by
  simp only [H3]
  grind
theorem e44d (y0 y1 y2 y3 y4 y5 a0 a1 a2 a3 a4 a5 a6 a7 a8 a9 : Int) : (H4 y0 y1 y2 y3 y4 y5 a9 a8 a6 a3 a7 a5 a2 a4 a1 a0 + (H4 y0 y1 y2 y3 y4 y5 a7 a8 a5 a2 a9 a6 a3 a4 a1 a0 + (H4 y0 y1 y2 y3 y4 y5 a7 a5 a8 a2 a4 a6 a1 a9 a3 a0 + (H4 y0 y1 y2 y3 y4 y5 a7 a5 a2 a8 a4 a1 a6 a0 a3 a9 + (H4 y0 y1 y2 y3 y4 y5 a9 a6 a8 a3 a4 a5 a1 a7 a2 a0 + (H4 y0 y1 y2 y3 y4 y5 a4 a6 a5 a1 a9 a8 a3 a7 a2 a0 + (H4 y0 y1 y2 y3 y4 y5 a4 a5 a6 a1 a7 a8 a2 a9 a3 a0 + (H4 y0 y1 y2 y3 y4 y5 a4 a5 a1 a6 a7 a2 a8 a0 a3 a9 + (H4 y0 y1 y2 y3 y4 y5 a9 a6 a3 a8 a4 a1 a5 a0 a2 a7 + (H4 y0 y1 y2 y3 y4 y5 a4 a6 a1 a5 a9 a3 a8 a0 a2 a7 + (H4 y0 y1 y2 y3 y4 y5 a4 a1 a6 a5 a0 a3 a2 a9 a8 a7 + (H4 y0 y1 y2 y3 y4 y5 a4 a1 a5 a6 a0 a2 a3 a7 a8 a9 + (H4 y0 y1 y2 y3 y4 y5 a9 a8 a3 a6 a7 a2 a5 a0 a1 a4 + (H4 y0 y1 y2 y3 y4 y5 a7 a8 a2 a5 a9 a3 a6 a0 a1 a4 + (H4 y0 y1 y2 y3 y4 y5 a7 a2 a8 a5 a0 a3 a1 a9 a6 a4 + (H4 y0 y1 y2 y3 y4 y5 a7 a2 a5 a8 a0 a1 a3 a4 a6 a9 + (H4 y0 y1 y2 y3 y4 y5 a9 a3 a8 a6 a0 a2 a1 a7 a5 a4 + (H4 y0 y1 y2 y3 y4 y5 a0 a3 a2 a1 a9 a8 a6 a7 a5 a4 + (H4 y0 y1 y2 y3 y4 y5 a0 a2 a3 a1 a7 a8 a5 a9 a6 a4 + (H4 y0 y1 y2 y3 y4 y5 a0 a2 a1 a3 a7 a5 a8 a4 a6 a9 + (H4 y0 y1 y2 y3 y4 y5 a9 a3 a6 a8 a0 a1 a2 a4 a5 a7 + (H4 y0 y1 y2 y3 y4 y5 a0 a3 a1 a2 a9 a6 a8 a4 a5 a7 + (H4 y0 y1 y2 y3 y4 y5 a0 a1 a3 a2 a4 a6 a5 a9 a8 a7 + (H4 y0 y1 y2 y3 y4 y5 a0 a1 a2 a3 a4 a5 a6 a7 a8 a9 + 0)))))))))))))))))))))))) = 4 * ((y0 + y1 + y2 + y3 + y4 + y5) * (m2 a0 a1 a4 + m2 a0 a2 a7 + m2 a0 a3 a9 + m2 a4 a5 a7 + m2 a4 a6 a9 + m2 a7 a8 a9)) := by
  simp only [H4, m2]
  grind
/-! ### sums over renamings -/
section
variable (p q r s t u v w x y a0 a1 a2 a3 a4 a5 a6 a7 a8 a9 : Int)
theorem o40 (hA : ∀ i j, en ([[p, q, r, s], [q, t, u, v], [r, u, w, x], [s, v, x, y]] : List (List Int)) i j = en [[p, q, r, s], [q, t, u, v], [r, u, w, x], [s, v, x, y]] j i) (hB : ∀ i j, en ([[a0, a1, a2, a3], [a1, a4, a5, a6], [a2, a5, a7, a8], [a3, a6, a8, a9]] : List (List Int)) i j = en [[a0, a1, a2, a3], [a1, a4, a5, a6], [a2, a5, a7, a8], [a3, a6, a8, a9]] j i) : (totL [[p, q, r, s], [q, t, u, v], [r, u, w, x], [s, v, x, y]] [[a0, a1, a2, a3], [a1, a4, a5, a6], [a2, a5, a7, a8], [a3, a6, a8, a9]] 4).getD 0 0 = 192 := by
  rw [tot_get (by decide), ren4]
  simp only [ins3, List.cons_append, List.nil_append, List.map_cons, List.map_nil, List.sum_cons, List.sum_nil, in40 hA hB]
  decide
theorem o41 (hA : ∀ i j, en ([[p, q, r, s], [q, t, u, v], [r, u, w, x], [s, v, x, y]] : List (List Int)) i j = en [[p, q, r, s], [q, t, u, v], [r, u, w, x], [s, v, x, y]] j i) (hB : ∀ i j, en ([[a0, a1, a2, a3], [a1, a4, a5, a6], [a2, a5, a7, a8], [a3, a6, a8, a9]] : List (List Int)) i j = en [[a0, a1, a2, a3], [a1, a4, a5, a6], [a2, a5, a7, a8], [a3, a6, a8, a9]] j i) : (totL [[p, q, r, s], [q, t, u, v], [r, u, w, x], [s, v, x, y]] [[a0, a1, a2, a3], [a1, a4, a5, a6], [a2, a5, a7, a8], [a3, a6, a8, a9]] 4).getD 1 0 = 192 * ((P4 p q r s t u v w x y).getD 1 0 + (P4 a0 a1 a2 a3 a4 a5 a6 a7 a8 a9).getD 1 0) := by
  rw [tot_get (by decide), ren4]
  simp only [ins3, List.cons_append, List.nil_append, List.map_cons, List.map_nil, List.sum_cons, List.sum_nil, in41 hA hB, P4_1]
  simp only [G41, m4, m3, m2, en, Int.reduceToNat, List.getD_cons_zero, List.getD_cons_succ]
  grind
theorem o42 (hA : ∀ i j, en ([[p, q, r, s], [q, t, u, v], [r, u, w, x], [s, v, x, y]] : List (List Int)) i j = en [[p, q, r, s], [q, t, u, v], [r, u, w, x], [s, v, x, y]] j i) (hB : ∀ i j, en ([[a0, a1, a2, a3], [a1, a4, a5, a6], [a2, a5, a7, a8], [a3, a6, a8, a9]] : List (List Int)) i j = en [[a0, a1, a2, a3], [a1, a4, a5, a6], [a2, a5, a7, a8], [a3, a6, a8, a9]] j i) : (totL [[p, q, r, s], [q, t, u, v], [r, u, w, x], [s, v, x, y]] [[a0, a1, a2, a3], [a1, a4, a5, a6], [a2, a5, a7, a8], [a3, a6, a8, a9]] 4).getD 2 0 = 192 * ((P4 p q r s t u v w x y).getD 2 0 + (P4 a0 a1 a2 a3 a4 a5 a6 a7 a8 a9).getD 2 0) + 144 * ((P4 p q r s t u v w x y).getD 1 0 * (P4 a0 a1 a2 a3 a4 a5 a6 a7 a8 a9).getD 1 0) := by
  rw [tot_get (by decide), ren4]
  simp only [ins3, List.cons_append, List.nil_append, List.map_cons, List.map_nil, List.sum_cons, List.sum_nil, in42 hA hB, P4_1, P4_2]
  simp only [G42, m4, m3, m2, en, Int.reduceToNat, List.getD_cons_zero, List.getD_cons_succ]
  grind
theorem o43 (hA : ∀ i j, en ([[p, q, r, s], [q, t, u, v], [r, u, w, x], [s, v, x, y]] : List (List Int)) i j = en [[p, q, r, s], [q, t, u, v], [r, u, w, x], [s, v, x, y]] j i) (hB : ∀ i j, en ([[a0, a1, a2, a3], [a1, a4, a5, a6], [a2, a5, a7, a8], [a3, a6, a8, a9]] : List (List Int)) i j = en [[a0, a1, a2, a3], [a1, a4, a5, a6], [a2, a5, a7, a8], [a3, a6, a8, a9]] j i) : (totL [[p, q, r, s], [q, t, u, v], [r, u, w, x], [s, v, x, y]] [[a0, a1, a2, a3], [a1, a4, a5, a6], [a2, a5, a7, a8], [a3, a6, a8, a9]] 4).getD 3 0 = 192 * ((P4 p q r s t u v w x y).getD 3 0 + (P4 a0 a1 a2 a3 a4 a5 a6 a7 a8 a9).getD 3 0) + 96 * ((P4 p q r s t u v w x y).getD 1 0 * (P4 a0 a1 a2 a3 a4 a5 a6 a7 a8 a9).getD 2 0 + (P4 p q r s t u v w x y).getD 2 0 * (P4 a0 a1 a2 a3 a4 a5 a6 a7 a8 a9).getD 1 0) := by
  rw [tot_get (by decide), ren4]
  simp only [ins3, List.cons_append, List.nil_append, List.map_cons, List.map_nil, List.sum_cons, List.sum_nil, in43 hA hB, P4_1, P4_2, P4_3]
  simp only [G43, m4, m3, m2, en, Int.reduceToNat, List.getD_cons_zero, List.getD_cons_succ]
  grind
theorem o44 (hA : ∀ i j, en ([[p, q, r, s], [q, t, u, v], [r, u, w, x], [s, v, x, y]] : List (List Int)) i j = en [[p, q, r, s], [q, t, u, v], [r, u, w, x], [s, v, x, y]] j i) (hB : ∀ i j, en ([[a0, a1, a2, a3], [a1, a4, a5, a6], [a2, a5, a7, a8], [a3, a6, a8, a9]] : List (List Int)) i j = en [[a0, a1, a2, a3], [a1, a4, a5, a6], [a2, a5, a7, a8], [a3, a6, a8, a9]] j i) : (totL [[p, q, r, s], [q, t, u, v], [r, u, w, x], [s, v, x, y]] [[a0, a1, a2, a3], [a1, a4, a5, a6], [a2, a5, a7, a8], [a3, a6, a8, a9]] 4).getD 4 0 = 192 * ((P4 p q r s t u v w x y).getD 4 0 + (P4 a0 a1 a2 a3 a4 a5 a6 a7 a8 a9).getD 4 0) + 48 * ((P4 p q r s t u v w x y).getD 1 0 * (P4 a0 a1 a2 a3 a4 a5 a6 a7 a8 a9).getD 3 0 + (P4 p q r s t u v w x y).getD 3 0 * (P4 a0 a1 a2 a3 a4 a5 a6 a7 a8 a9).getD 1 0) + 32 * ((P4 p q r s t u v w x y).getD 2 0 * (P4 a0 a1 a2 a3 a4 a5 a6 a7 a8 a9).getD 2 0) := by
  rw [tot_get (by decide), ren4]
  simp only [ins3, List.cons_append, List.nil_append, List.map_cons, List.map_nil, List.sum_cons, List.sum_nil, in44 hA hB, P4_1, P4_2, P4_3, P4_4]
  simp only [en, Int.reduceToNat, List.getD_cons_zero, List.getD_cons_succ, G44_H]
  have h1 := e44a a0 a1 a2 a3 a4 a5 a6 a7 a8 a9
  have h2 := e44b p t w y a0 a1 a2 a3 a4 a5 a6 a7 a8 a9
  have h3 := e44c (m3 t u v w x y) (m3 p r s w x y) (m3 p q s t v y) (m3 p q r t u w) a0 a1 a2 a3 a4 a5 a6 a7 a8 a9
  have h4 := e44d (m2 p q t) (m2 p r w) (m2 p s y) (m2 t u w) (m2 t v y) (m2 w x y) a0 a1 a2 a3 a4 a5 a6 a7 a8 a9
  generalize m4 p q r s t u v w x y = mA at *
  generalize m4 a0 a1 a2 a3 a4 a5 a6 a7 a8 a9 = mB at *
  rw [Int.neg_mul_neg, Int.neg_mul_neg, Int.mul_comm (m3 p q r t u w + m3 p q s t v y + m3 p r s w x y + m3 t u v w x y)]
  generalize (p + t + w + y) * (m3 a0 a1 a2 a4 a5 a7 + m3 a0 a1 a3 a4 a6 a9 + m3 a0 a2 a3 a7 a8 a9 + m3 a4 a5 a6 a7 a8 a9) = X at *
  generalize (a0 + a4 + a7 + a9) * (m3 p q r t u w + m3 p q s t v y + m3 p r s w x y + m3 t u v w x y) = Y at *
  generalize (m2 p q t + m2 p r w + m2 p s y + m2 t u w + m2 t v y + m2 w x y) * (m2 a0 a1 a4 + m2 a0 a2 a7 + m2 a0 a3 a9 + m2 a4 a5 a7 + m2 a4 a6 a9 + m2 a7 a8 a9) = Z at *
  omega
theorem o30 (hA : ∀ i j, en ([[p, q, r], [q, t, u], [r, u, w]] : List (List Int)) i j = en [[p, q, r], [q, t, u], [r, u, w]] j i) (hB : ∀ i j, en ([[a0, a1, a2], [a1, a4, a5], [a2, a5, a7]] : List (List Int)) i j = en [[a0, a1, a2], [a1, a4, a5], [a2, a5, a7]] j i) : (totL [[p, q, r], [q, t, u], [r, u, w]] [[a0, a1, a2], [a1, a4, a5], [a2, a5, a7]] 3).getD 0 0 = 24 := by
  rw [tot_get (by decide), ren3]
  simp only [List.map_cons, List.map_nil, List.sum_cons, List.sum_nil, in30 hA hB]
  decide
theorem o31 (hA : ∀ i j, en ([[p, q, r], [q, t, u], [r, u, w]] : List (List Int)) i j = en [[p, q, r], [q, t, u], [r, u, w]] j i) (hB : ∀ i j, en ([[a0, a1, a2], [a1, a4, a5], [a2, a5, a7]] : List (List Int)) i j = en [[a0, a1, a2], [a1, a4, a5], [a2, a5, a7]] j i) : (totL [[p, q, r], [q, t, u], [r, u, w]] [[a0, a1, a2], [a1, a4, a5], [a2, a5, a7]] 3).getD 1 0 = 24 * ((P3 p q r t u w).getD 1 0 + (P3 a0 a1 a2 a4 a5 a7).getD 1 0) := by
  rw [tot_get (by decide), ren3]
  simp only [List.map_cons, List.map_nil, List.sum_cons, List.sum_nil, in31 hA hB, P3_1]
  simp only [G31, m3, m2, en, Int.reduceToNat, List.getD_cons_zero, List.getD_cons_succ]
  grind
theorem o32 (hA : ∀ i j, en ([[p, q, r], [q, t, u], [r, u, w]] : List (List Int)) i j = en [[p, q, r], [q, t, u], [r, u, w]] j i) (hB : ∀ i j, en ([[a0, a1, a2], [a1, a4, a5], [a2, a5, a7]] : List (List Int)) i j = en [[a0, a1, a2], [a1, a4, a5], [a2, a5, a7]] j i) : (totL [[p, q, r], [q, t, u], [r, u, w]] [[a0, a1, a2], [a1, a4, a5], [a2, a5, a7]] 3).getD 2 0 = 24 * ((P3 p q r t u w).getD 2 0 + (P3 a0 a1 a2 a4 a5 a7).getD 2 0) + 16 * ((P3 p q r t u w).getD 1 0 * (P3 a0 a1 a2 a4 a5 a7).getD 1 0) := by
  rw [tot_get (by decide), ren3]
  simp only [List.map_cons, List.map_nil, List.sum_cons, List.sum_nil, in32 hA hB, P3_1, P3_2]
  simp only [G32, m3, m2, en, Int.reduceToNat, List.getD_cons_zero, List.getD_cons_succ]
  grind
theorem o33 (hA : ∀ i j, en ([[p, q, r], [q, t, u], [r, u, w]] : List (List Int)) i j = en [[p, q, r], [q, t, u], [r, u, w]] j i) (hB : ∀ i j, en ([[a0, a1, a2], [a1, a4, a5], [a2, a5, a7]] : List (List Int)) i j = en [[a0, a1, a2], [a1, a4, a5], [a2, a5, a7]] j i) : (totL [[p, q, r], [q, t, u], [r, u, w]] [[a0, a1, a2], [a1, a4, a5], [a2, a5, a7]] 3).getD 3 0 = 24 * ((P3 p q r t u w).getD 3 0 + (P3 a0 a1 a2 a4 a5 a7).getD 3 0) + 8 * ((P3 p q r t u w).getD 1 0 * (P3 a0 a1 a2 a4 a5 a7).getD 2 0 + (P3 p q r t u w).getD 2 0 * (P3 a0 a1 a2 a4 a5 a7).getD 1 0) := by
  rw [tot_get (by decide), ren3]
  simp only [List.map_cons, List.map_nil, List.sum_cons, List.sum_nil, in33 hA hB, P3_1, P3_2, P3_3]
  simp only [G33, m3, m2, en, Int.reduceToNat, List.getD_cons_zero, List.getD_cons_succ]
  grind
end

end K36
namespace K36
open PySem PySem.Spec PyProof.Rows L2 GS TL
local macro_rules | `(tactic| walk_at "rd") => `(tactic| (repeat (first
  | with_reducible refine r_next ?_
  | with_reducible refine r_seq ?_
  | with_reducible refine r_ret ?_
  | with_reducible refine r_ifS ?_
  | with_reducible refine r_asg ?_
  | with_reducible refine r_drop ?_
  | with_reducible refine r_op ?_
  | with_reducible refine r_un ?_
  | with_reducible refine r_cbInt ?_
  | with_reducible refine r_cbAbs ?_
  | with_reducible refine r_cbLen ?_
  | with_reducible refine r_cbList ?_
  | with_reducible refine r_cbTup ?_
  | with_reducible refine r_iEnT ?_
  | with_reducible refine r_iEnL ?_
  | with_reducible refine r_zipA ?_
  | with_reducible refine r_zipX ?_
  | with_reducible refine r_augS ?_
  | with_reducible refine r_cb ?_
  | with_reducible refine r_call ?_
  | with_reducible refine r_make ?_
  | with_reducible refine r_callN0 ?_
  | with_reducible refine r_makeK0 ?_
  | with_reducible refine r_makeS ?_
  | with_reducible refine r_callS ?_
  | with_reducible refine r_cons ?_
  | with_reducible refine r_nil ?_
  | with_reducible refine r_test ?_
  | with_reducible refine r_B ?_
  | with_reducible refine r_and ?_
  | with_reducible refine r_or ?_
  | with_reducible refine r_not ?_
  | with_reducible refine r_andV ?_
  | with_reducible refine r_orV ?_
  | with_reducible refine r_notV ?_
  | with_reducible refine r_if ?_
  | with_reducible refine r_tup ?_
  | with_reducible refine r_lst ?_
  | with_reducible refine r_c ?_
  | with_reducible refine r_lc ?_
  | with_reducible refine r_chain ?_
  | with_reducible refine r_iT ?_
  | with_reducible refine r_iL ?_
  | with_reducible refine r_iR1 ?_
  | with_reducible refine r_iR2 ?_
  | with_reducible refine r_iR3 ?_
  | with_reducible refine r_asgG ?_
  | with_reducible refine r_gSub ?_
  | with_reducible refine r_for ?_
  | with_reducible refine r_smeth ?_
  | with_reducible refine r_par ?_
  | with_reducible refine r_parK ?_
  | with_reducible refine r_gCons ?_
  | with_reducible refine r_gNil ?_
  | with_reducible refine r_gName ?_
  | with_reducible refine r_intI ?_
  | with_reducible refine r_intB ?_
  | with_reducible refine r_absI ?_
  | with_reducible refine r_k ?_
  | with_reducible refine r_kV ?_
  | ((with_reducible show tVar _ _ _ _); refine r_var3 ?_ (by rfl))
  | with_reducible refine r_I0 ?_
  | with_reducible refine r_U ?_
  | with_reducible refine r_eqI ?_
  | with_reducible refine r_neI ?_
  | with_reducible refine r_F ?_
  | dsimp only)))
local macro_rules | `(tactic| walk_at "rx") => `(tactic| (repeat (first
  | with_reducible refine r_next ?_
  | with_reducible refine r_ret ?_
  | with_reducible refine r_ifS ?_
  | with_reducible refine r_asg ?_
  | with_reducible refine r_drop ?_
  | with_reducible refine r_op ?_
  | with_reducible refine r_un ?_
  | with_reducible refine r_cbInt ?_
  | with_reducible refine r_cbAbs ?_
  | with_reducible refine r_cbLen ?_
  | with_reducible refine r_cbList ?_
  | with_reducible refine r_cbTup ?_
  | with_reducible refine r_iEnT ?_
  | with_reducible refine r_iEnL ?_
  | with_reducible refine r_zipA ?_
  | with_reducible refine r_zipX ?_
  | with_reducible refine r_augS ?_
  | with_reducible refine r_cb ?_
  | with_reducible refine r_call ?_
  | with_reducible refine r_make ?_
  | with_reducible refine r_callN0 ?_
  | with_reducible refine r_makeK0 ?_
  | with_reducible refine r_makeS ?_
  | with_reducible refine r_callS ?_
  | with_reducible refine r_cons ?_
  | with_reducible refine r_nil ?_
  | with_reducible refine r_test ?_
  | with_reducible refine r_B ?_
  | with_reducible refine r_and ?_
  | with_reducible refine r_or ?_
  | with_reducible refine r_not ?_
  | with_reducible refine r_andV ?_
  | with_reducible refine r_orV ?_
  | with_reducible refine r_notV ?_
  | with_reducible refine r_if ?_
  | with_reducible refine r_tup ?_
  | with_reducible refine r_lst ?_
  | with_reducible refine r_c ?_
  | with_reducible refine r_lc ?_
  | with_reducible refine r_chain ?_
  | with_reducible refine r_iT ?_
  | with_reducible refine r_iL ?_
  | with_reducible refine r_iR1 ?_
  | with_reducible refine r_iR2 ?_
  | with_reducible refine r_iR3 ?_
  | with_reducible refine r_asgG ?_
  | with_reducible refine r_gSub ?_
  | with_reducible refine r_for ?_
  | with_reducible refine r_smeth ?_
  | with_reducible refine r_par ?_
  | with_reducible refine r_parK ?_
  | with_reducible refine r_gCons ?_
  | with_reducible refine r_gNil ?_
  | with_reducible refine r_gName ?_
  | with_reducible refine r_intI ?_
  | with_reducible refine r_intB ?_
  | with_reducible refine r_absI ?_
  | with_reducible refine r_k ?_
  | with_reducible refine r_kV ?_
  | ((with_reducible show tVar _ _ _ _); refine r_var3 ?_ (by rfl))
  | with_reducible refine r_I0 ?_
  | with_reducible refine r_U ?_
  | with_reducible refine r_eqI ?_
  | with_reducible refine r_neI ?_
  | with_reducible refine r_F ?_
  | dsimp only)))
theorem enT2 (p q t : Int) (i j : Nat) : en ([[p, q], [q, t]] : List (List Int)) i j = en [[p, q], [q, t]] j i := by
  unfold en
  match i, j with
  | 0, 0 | 0, 1 | 1, 0 | 1, 1 => rfl
  | 0, n + 2 => simp
  | 1, n + 2 => simp
  | n + 2, 0 => simp
  | n + 2, 1 => simp
  | m + 2, n + 2 => simp
/-! ### what the law leans on -/
theorem o20 (p q t a0 a1 a4 : Int) : totL [[p, q], [q, t]] [[a0, a1], [a1, a4]] 2 = [4, 4 * ((P2 p q t).getD 1 0 + (P2 a0 a1 a4).getD 1 0), 4 * ((P2 p q t).getD 2 0 + (P2 a0 a1 a4).getD 2 0) + 2 * ((P2 p q t).getD 1 0 * (P2 a0 a1 a4).getD 1 0)] := by
  have hA : ∀ i j, en ([[p, q], [q, t]] : List (List Int)) i j = en [[p, q], [q, t]] j i := enT2 p q t
  have hB : ∀ i j, en ([[a0, a1], [a1, a4]] : List (List Int)) i j = en [[a0, a1], [a1, a4]] j i := enT2 a0 a1 a4
  refine GM.ext_getD (by rw [tot_len]; rfl) fun k hk => ?_
  rw [tot_len] at hk
  rw [tot_get hk, ren2]
  have : k = 0 ∨ k = 1 ∨ k = 2 := by omega
  rcases this with rfl | rfl | rfl
  · simp [S1, sg2, cM2 hA hB, polA2, P2]
  · simp [S1, sg2, cM2 hA hB, polA2, P2, ce, en, m2]
    grind
  · simp [S1, sg2, cM2 hA hB, polA2, P2, ce, en, m2]
    grind
theorem o10 (p a0 : Int) : totL [[p]] [[a0]] 1 = [1, (P1 p).getD 1 0 + (P1 a0).getD 1 0] := by
  refine GM.ext_getD (by rw [tot_len]; rfl) fun k hk => ?_
  rw [tot_len] at hk
  rw [tot_get hk, ren1]
  have : k = 0 ∨ k = 1 := by omega
  rcases this with rfl | rfl
  · simp [S1, sg1, cM1, polA1, P1]
  · simp [S1, sg1, cM1, polA1, P1, ce, en]
    omega
theorem wm4 : GM.Wm 4 0 = 24 ∧ GM.Wm 4 1 = 6 ∧ GM.Wm 4 2 = 2 ∧ GM.Wm 4 3 = 1 ∧ GM.Wm 4 4 = 1 := by decide
theorem wm3 : GM.Wm 3 0 = 6 ∧ GM.Wm 3 1 = 2 ∧ GM.Wm 3 2 = 1 ∧ GM.Wm 3 3 = 1 := by decide
theorem wm2 : GM.Wm 2 0 = 2 ∧ GM.Wm 2 1 = 1 ∧ GM.Wm 2 2 = 1 := by decide
theorem wm1 : GM.Wm 1 0 = 1 ∧ GM.Wm 1 1 = 1 := by decide
theorem law4 {a b t : List Int} (lt : t.length = 5) (a0 : a.getD 0 0 = 1) (b0 : b.getD 0 0 = 1) (h0 : t.getD 0 0 = 192) (h1 : t.getD 1 0 = 192 * (a.getD 1 0 + b.getD 1 0)) (h2 : t.getD 2 0 = 192 * (a.getD 2 0 + b.getD 2 0) + 144 * (a.getD 1 0 * b.getD 1 0)) (h3 : t.getD 3 0 = 192 * (a.getD 3 0 + b.getD 3 0) + 96 * (a.getD 1 0 * b.getD 2 0 + a.getD 2 0 * b.getD 1 0))
    (h4 : t.getD 4 0 = 192 * (a.getD 4 0 + b.getD 4 0) + 48 * (a.getD 1 0 * b.getD 3 0 + a.getD 3 0 * b.getD 1 0) + 32 * (a.getD 2 0 * b.getD 2 0)) :
    ∀ k, k < t.length → 3 * t.getD k 0 = 1 * (GM.fnd 4 (GM.Wm 4) a b).getD k 0 := by
  intro k hk
  obtain ⟨w0, w1, w2, w3, w4⟩ := wm4
  rw [GM.fnd_get (by omega)]
  have : k = 0 ∨ k = 1 ∨ k = 2 ∨ k = 3 ∨ k = 4 := by omega
  rcases this with rfl | rfl | rfl | rfl | rfl
  · rw [h0]
    simp only [GM.cv, GM.sm, GM.hat, w0, a0, b0, Nat.sub_self]
    decide
  · rw [h1]
    simp only [GM.cv, GM.sm, GM.hat, w0, w1, a0, b0, Nat.sub_self, Nat.sub_zero]
    rw [show (24 : Int) / 6 = 4 from rfl]
    grind
  · rw [h2]
    simp only [GM.cv, GM.sm, GM.hat, w0, w1, w2, a0, b0, Nat.sub_self, Nat.sub_zero, Nat.reduceSub]
    rw [show (24 : Int) / 2 = 12 from rfl]
    grind
  · rw [h3]
    simp only [GM.cv, GM.sm, GM.hat, w0, w1, w2, w3, a0, b0, Nat.sub_self, Nat.sub_zero, Nat.reduceSub]
    rw [show (24 : Int) / 1 = 24 from rfl]
    grind
  · rw [h4]
    simp only [GM.cv, GM.sm, GM.hat, w0, w1, w2, w3, w4, a0, b0, Nat.sub_self, Nat.sub_zero, Nat.reduceSub]
    rw [show (24 : Int) / 1 = 24 from rfl]
    grind
theorem law3 {a b t : List Int} (lt : t.length = 4) (a0 : a.getD 0 0 = 1) (b0 : b.getD 0 0 = 1) (h0 : t.getD 0 0 = 24) (h1 : t.getD 1 0 = 24 * (a.getD 1 0 + b.getD 1 0)) (h2 : t.getD 2 0 = 24 * (a.getD 2 0 + b.getD 2 0) + 16 * (a.getD 1 0 * b.getD 1 0)) (h3 : t.getD 3 0 = 24 * (a.getD 3 0 + b.getD 3 0) + 8 * (a.getD 1 0 * b.getD 2 0 + a.getD 2 0 * b.getD 1 0)) :
    ∀ k, k < t.length → 3 * t.getD k 0 = 2 * (GM.fnd 3 (GM.Wm 3) a b).getD k 0 := by
  intro k hk
  obtain ⟨w0, w1, w2, w3⟩ := wm3
  rw [GM.fnd_get (by omega)]
  have : k = 0 ∨ k = 1 ∨ k = 2 ∨ k = 3 := by omega
  rcases this with rfl | rfl | rfl | rfl
  · rw [h0]
    simp only [GM.cv, GM.sm, GM.hat, w0, a0, b0, Nat.sub_self]
    decide
  · rw [h1]
    simp only [GM.cv, GM.sm, GM.hat, w0, w1, a0, b0, Nat.sub_self, Nat.sub_zero]
    rw [show (6 : Int) / 2 = 3 from rfl]
    grind
  · rw [h2]
    simp only [GM.cv, GM.sm, GM.hat, w0, w1, w2, a0, b0, Nat.sub_self, Nat.sub_zero, Nat.reduceSub]
    rw [show (6 : Int) / 1 = 6 from rfl]
    grind
  · rw [h3]
    simp only [GM.cv, GM.sm, GM.hat, w0, w1, w2, w3, a0, b0, Nat.sub_self, Nat.sub_zero, Nat.reduceSub]
    rw [show (6 : Int) / 1 = 6 from rfl]
    grind
theorem law2 {a b t : List Int} (lt : t.length = 3) (a0 : a.getD 0 0 = 1) (b0 : b.getD 0 0 = 1) (h0 : t.getD 0 0 = 4) (h1 : t.getD 1 0 = 4 * (a.getD 1 0 + b.getD 1 0)) (h2 : t.getD 2 0 = 4 * (a.getD 2 0 + b.getD 2 0) + 2 * (a.getD 1 0 * b.getD 1 0)) :
    ∀ k, k < t.length → 3 * t.getD k 0 = 3 * (GM.fnd 2 (GM.Wm 2) a b).getD k 0 := by
  intro k hk
  obtain ⟨w0, w1, w2⟩ := wm2
  rw [GM.fnd_get (by omega)]
  have : k = 0 ∨ k = 1 ∨ k = 2 := by omega
  rcases this with rfl | rfl | rfl
  · rw [h0]
    simp only [GM.cv, GM.sm, GM.hat, w0, a0, b0, Nat.sub_self]
    decide
  · rw [h1]
    simp only [GM.cv, GM.sm, GM.hat, w0, w1, a0, b0, Nat.sub_self, Nat.sub_zero]
    rw [show (2 : Int) / 1 = 2 from rfl]
    grind
  · rw [h2]
    simp only [GM.cv, GM.sm, GM.hat, w0, w1, w2, a0, b0, Nat.sub_self, Nat.sub_zero, Nat.reduceSub]
    rw [show (2 : Int) / 1 = 2 from rfl]
    grind
theorem law1 {a b t : List Int} (lt : t.length = 2) (a0 : a.getD 0 0 = 1) (b0 : b.getD 0 0 = 1) (h0 : t.getD 0 0 = 1) (h1 : t.getD 1 0 = a.getD 1 0 + b.getD 1 0) :
    ∀ k, k < t.length → 3 * t.getD k 0 = 3 * (GM.fnd 1 (GM.Wm 1) a b).getD k 0 := by
  intro k hk
  obtain ⟨w0, w1⟩ := wm1
  rw [GM.fnd_get (by omega)]
  have : k = 0 ∨ k = 1 := by omega
  rcases this with rfl | rfl
  · rw [h0]
    simp only [GM.cv, GM.sm, GM.hat, w0, a0, b0, Nat.sub_self]
    decide
  · rw [h1]
    simp only [GM.cv, GM.sm, GM.hat, w0, w1, a0, b0, Nat.sub_self, Nat.sub_zero]
    rw [show (1 : Int) / 1 = 1 from rfl]
    grind
def two (d : Nat) : Int := if d = 4 then 1 else if d = 3 then 2 else 3
theorem two_pos (d : Nat) : 0 < two d := by
  unfold two
  by_cases c : d = 4
  · rw [if_pos c]; decide
  · rw [if_neg c]
    by_cases c2 : d = 3
    · rw [if_pos c2]; decide
    · rw [if_neg c2]; decide
theorem tot_rel {A B : List (List Int)} {d : Nat} (ha : Sy A d) (hb : Sy B d) (d1 : 1 ≤ d) (d4 : d ≤ 4) : ∀ k, k < (totL A B d).length → 3 * (totL A B d).getD k 0 = two d * (GM.fnd d (GM.Wm d) (polL A d) (polL B d)).getD k 0 := by
  have hA := ha.enS
  have hB := hb.enS
  refine ha.cases (P := fun A d => Sy B d → (∀ i j, en A i j = en A j i) → ∀ k, k < (totL A B d).length → 3 * (totL A B d).getD k 0 = two d * (GM.fnd d (GM.Wm d) (polL A d) (polL B d)).getD k 0) d1 d4 (fun p hb hA => ?_) (fun p q t hb hA => ?_) (fun p q r t u w hb hA => ?_) (fun p q r s t u v w x y hb hA => ?_) hb hA
  · refine hb.cases (P := fun B d => d = 1 → ∀ k, k < (totL [[p]] B 1).length → 3 * (totL [[p]] B 1).getD k 0 = two 1 * (GM.fnd 1 (GM.Wm 1) (polL [[p]] 1) (polL B 1)).getD k 0) (by decide) (by decide) (fun a0 _ => ?_) (fun _ _ _ h => by omega) (fun _ _ _ _ _ _ h => by omega) (fun _ _ _ _ _ _ _ _ _ _ h => by omega) rfl
    rw [o10, polA1, polA1]
    exact law1 rfl rfl rfl rfl rfl
  · refine hb.cases (P := fun B d => d = 2 → ∀ k, k < (totL [[p, q], [q, t]] B 2).length → 3 * (totL [[p, q], [q, t]] B 2).getD k 0 = two 2 * (GM.fnd 2 (GM.Wm 2) (polL [[p, q], [q, t]] 2) (polL B 2)).getD k 0) (by decide) (by decide) (fun _ h => by omega) (fun a0 a1 a4 _ => ?_) (fun _ _ _ _ _ _ h => by omega) (fun _ _ _ _ _ _ _ _ _ _ h => by omega) rfl
    rw [o20, polA2, polA2]
    exact law2 rfl rfl rfl rfl rfl rfl
  · refine hb.cases (P := fun B d => d = 3 → (∀ i j, en B i j = en B j i) → ∀ k, k < (totL [[p, q, r], [q, t, u], [r, u, w]] B 3).length → 3 * (totL [[p, q, r], [q, t, u], [r, u, w]] B 3).getD k 0 = two 3 * (GM.fnd 3 (GM.Wm 3) (polL [[p, q, r], [q, t, u], [r, u, w]] 3) (polL B 3)).getD k 0) (by decide) (by decide) (fun _ h => by omega) (fun _ _ _ h => by omega) (fun a0 a1 a2 a4 a5 a7 _ hB => ?_) (fun _ _ _ _ _ _ _ _ _ _ h => by omega) rfl hb.enS
    rw [polA3, polA3]
    exact law3 tot_len rfl rfl (o30 (p := p) (q := q) (r := r) (t := t) (u := u) (w := w) (hA := hA) (hB := hB)) (o31 (hA := hA) (hB := hB)) (o32 (hA := hA) (hB := hB)) (o33 (hA := hA) (hB := hB))
  · refine hb.cases (P := fun B d => d = 4 → (∀ i j, en B i j = en B j i) → ∀ k, k < (totL [[p, q, r, s], [q, t, u, v], [r, u, w, x], [s, v, x, y]] B 4).length → 3 * (totL [[p, q, r, s], [q, t, u, v], [r, u, w, x], [s, v, x, y]] B 4).getD k 0 = two 4 * (GM.fnd 4 (GM.Wm 4) (polL [[p, q, r, s], [q, t, u, v], [r, u, w, x], [s, v, x, y]] 4) (polL B 4)).getD k 0) (by decide) (by decide) (fun _ h => by omega) (fun _ _ _ h => by omega) (fun _ _ _ _ _ _ h => by omega) (fun a0 a1 a2 a3 a4 a5 a6 a7 a8 a9 _ hB => ?_) rfl hb.enS
    rw [polA4, polA4]
    exact law4 tot_len rfl rfl (o40 (hA := hA) (hB := hB)) (o41 (hA := hA) (hB := hB)) (o42 (hA := hA) (hB := hB)) (o43 (hA := hA) (hB := hB)) (o44 (hA := hA) (hB := hB))
theorem tot_low {A B : List (List Int)} {d : Nat} (ha : Sy A d) (hb : Sy B d) (d1 : 1 ≤ d) (d4 : d ≤ 4) : GM.low (totL A B d) = meanG (polL A d) (polL B d) := by
  unfold meanG
  rw [polL_len, Nat.add_sub_cancel]
  exact GM.low_eq (s := 3) (t := two d) (by decide) (two_pos d) (by rw [tot_len, GM.fnd_len]) (tot_rel ha hb d1 d4)
theorem mean_comm {A B : List (List Int)} {d : Nat} : meanG (polL B d) (polL A d) = meanG (polL A d) (polL B d) := by
  unfold meanG
  rw [polL_len, polL_len]
  exact GM.fnd_comm (GM.wt_m _) _ _

end K36
namespace K36
open PySem PySem.Spec PyProof.Rows L2 GS TL
local macro_rules | `(tactic| walk_at "rd") => `(tactic| (repeat (first
  | with_reducible refine r_next ?_
  | with_reducible refine r_seq ?_
  | with_reducible refine r_ret ?_
  | with_reducible refine r_ifS ?_
  | with_reducible refine r_asg ?_
  | with_reducible refine r_drop ?_
  | with_reducible refine r_op ?_
  | with_reducible refine r_un ?_
  | with_reducible refine r_cbInt ?_
  | with_reducible refine r_cbAbs ?_
  | with_reducible refine r_cbLen ?_
  | with_reducible refine r_cbList ?_
  | with_reducible refine r_cbTup ?_
  | with_reducible refine r_iEnT ?_
  | with_reducible refine r_iEnL ?_
  | with_reducible refine r_zipA ?_
  | with_reducible refine r_zipX ?_
  | with_reducible refine r_augS ?_
  | with_reducible refine r_cb ?_
  | with_reducible refine r_call ?_
  | with_reducible refine r_make ?_
  | with_reducible refine r_callN0 ?_
  | with_reducible refine r_makeK0 ?_
  | with_reducible refine r_makeS ?_
  | with_reducible refine r_callS ?_
  | with_reducible refine r_cons ?_
  | with_reducible refine r_nil ?_
  | with_reducible refine r_test ?_
  | with_reducible refine r_B ?_
  | with_reducible refine r_and ?_
  | with_reducible refine r_or ?_
  | with_reducible refine r_not ?_
  | with_reducible refine r_andV ?_
  | with_reducible refine r_orV ?_
  | with_reducible refine r_notV ?_
  | with_reducible refine r_if ?_
  | with_reducible refine r_tup ?_
  | with_reducible refine r_lst ?_
  | with_reducible refine r_c ?_
  | with_reducible refine r_lc ?_
  | with_reducible refine r_chain ?_
  | with_reducible refine r_iT ?_
  | with_reducible refine r_iL ?_
  | with_reducible refine r_iR1 ?_
  | with_reducible refine r_iR2 ?_
  | with_reducible refine r_iR3 ?_
  | with_reducible refine r_asgG ?_
  | with_reducible refine r_gSub ?_
  | with_reducible refine r_for ?_
  | with_reducible refine r_smeth ?_
  | with_reducible refine r_par ?_
  | with_reducible refine r_parK ?_
  | with_reducible refine r_gCons ?_
  | with_reducible refine r_gNil ?_
  | with_reducible refine r_gName ?_
  | with_reducible refine r_intI ?_
  | with_reducible refine r_intB ?_
  | with_reducible refine r_absI ?_
  | with_reducible refine r_k ?_
  | with_reducible refine r_kV ?_
  | ((with_reducible show tVar _ _ _ _); refine r_var3 ?_ (by rfl))
  | with_reducible refine r_I0 ?_
  | with_reducible refine r_U ?_
  | with_reducible refine r_eqI ?_
  | with_reducible refine r_neI ?_
  | with_reducible refine r_F ?_
  | dsimp only)))
local macro_rules | `(tactic| walk_at "rx") => `(tactic| (repeat (first
  | with_reducible refine r_next ?_
  | with_reducible refine r_ret ?_
  | with_reducible refine r_ifS ?_
  | with_reducible refine r_asg ?_
  | with_reducible refine r_drop ?_
  | with_reducible refine r_op ?_
  | with_reducible refine r_un ?_
  | with_reducible refine r_cbInt ?_
  | with_reducible refine r_cbAbs ?_
  | with_reducible refine r_cbLen ?_
  | with_reducible refine r_cbList ?_
  | with_reducible refine r_cbTup ?_
  | with_reducible refine r_iEnT ?_
  | with_reducible refine r_iEnL ?_
  | with_reducible refine r_zipA ?_
  | with_reducible refine r_zipX ?_
  | with_reducible refine r_augS ?_
  | with_reducible refine r_cb ?_
  | with_reducible refine r_call ?_
  | with_reducible refine r_make ?_
  | with_reducible refine r_callN0 ?_
  | with_reducible refine r_makeK0 ?_
  | with_reducible refine r_makeS ?_
  | with_reducible refine r_callS ?_
  | with_reducible refine r_cons ?_
  | with_reducible refine r_nil ?_
  | with_reducible refine r_test ?_
  | with_reducible refine r_B ?_
  | with_reducible refine r_and ?_
  | with_reducible refine r_or ?_
  | with_reducible refine r_not ?_
  | with_reducible refine r_andV ?_
  | with_reducible refine r_orV ?_
  | with_reducible refine r_notV ?_
  | with_reducible refine r_if ?_
  | with_reducible refine r_tup ?_
  | with_reducible refine r_lst ?_
  | with_reducible refine r_c ?_
  | with_reducible refine r_lc ?_
  | with_reducible refine r_chain ?_
  | with_reducible refine r_iT ?_
  | with_reducible refine r_iL ?_
  | with_reducible refine r_iR1 ?_
  | with_reducible refine r_iR2 ?_
  | with_reducible refine r_iR3 ?_
  | with_reducible refine r_asgG ?_
  | with_reducible refine r_gSub ?_
  | with_reducible refine r_for ?_
  | with_reducible refine r_smeth ?_
  | with_reducible refine r_par ?_
  | with_reducible refine r_parK ?_
  | with_reducible refine r_gCons ?_
  | with_reducible refine r_gNil ?_
  | with_reducible refine r_gName ?_
  | with_reducible refine r_intI ?_
  | with_reducible refine r_intB ?_
  | with_reducible refine r_absI ?_
  | with_reducible refine r_k ?_
  | with_reducible refine r_kV ?_
  | ((with_reducible show tVar _ _ _ _); refine r_var3 ?_ (by rfl))
  | with_reducible refine r_I0 ?_
  | with_reducible refine r_U ?_
  | with_reducible refine r_eqI ?_
  | with_reducible refine r_neI ?_
  | with_reducible refine r_F ?_
  | dsimp only)))
/-! ### sizes -/
theorem worN_zm {m : Nat} : ∀ (n : Nat) (rs : List (List Int)), n ≤ 4 → Sz rs n m → Z (10 + (m + 20) * n) (worN n rs)
  | 0, _, _, _ => by
    show Z _ 1
    refine Z.mono (n := 10) (by unfold Z; decide) (by omega)
  | n + 1, rs, hn, h => by
    obtain ⟨r, q, rfl⟩ : ∃ r q, rs = r :: q := by
      cases rs with
      | nil => exact absurd h.len (by simp)
      | cons r q => exact ⟨r, q, rfl⟩
    refine (sum_z (n := 4 + m + (10 + (m + 20) * n)) _ 6 (by simp; omega) fun c hc => ?_).mono (by rw [Nat.mul_succ]; omega)
    obtain ⟨a, ha, rfl⟩ := List.mem_map.mp hc
    have ha := List.mem_range.mp ha
    have lr := h.row r List.mem_cons_self
    have zr : Z m (r.getD a 0) := h.z r List.mem_cons_self _ (List.mem_of_getElem? (i := a) (by rw [List.getD_eq_getElem?_getD]; simp [lr, ha]))
    exact ((sgn_z a).mul zr).mul (worN_zm n _ (by omega) (h.cut ha))
theorem polF_z {rs : List (List Int)} {B : Nat} : ∀ (ss : List (List Int)) (ns : List Int) (c : Nat), (∀ x ∈ ns, x.natAbs ≤ c * B) → (∀ s ∈ ss, (minr rs s).natAbs ≤ B) → ∀ x ∈ polF rs ns ss, x.natAbs ≤ (c + ss.length) * B
  | [], ns, c, h, _, x, hx => by simpa using h x hx
  | s :: ss, ns, c, h, g, x, hx => by
    have hs := g s List.mem_cons_self
    have := polF_z ss (addAt ns s.length (minr rs s)) (c + 1) (fun y hy => by
      rw [Nat.succ_mul]
      rcases List.mem_or_eq_of_mem_set hy with z | rfl
      · have := h y z; omega
      · have h1 : (ns.getD s.length 0).natAbs ≤ c * B := by
          rw [List.getD_eq_getElem?_getD]
          cases q : ns[s.length]? with
          | none => exact Nat.zero_le _
          | some v => exact h v (List.mem_of_getElem? q)
        have := Int.natAbs_add_le (ns.getD s.length 0) (minr rs s)
        omega) (fun s' hs' => g s' (List.mem_cons_of_mem _ hs')) x hx
    rw [List.length_cons]
    rwa [show c + (ss.length + 1) = c + 1 + ss.length by omega]
theorem Sy.sz {rs : List (List Int)} {d m : Nat} (h : Sy rs d) (hm : 41 ≤ m := by decide) : Sz rs d m := by
  refine ⟨h.len, h.row, fun r hr c hc => ?_⟩
  obtain ⟨i, hi⟩ := List.getElem?_of_mem hr
  have hid : i < d := by rw [← h.len]; exact (List.getElem?_eq_some_iff.mp hi).1
  obtain ⟨r', hr', lr, gr⟩ := h.cell hid
  obtain rfl : r' = r := by rw [hi] at hr'; exact (Option.some.inj hr').symm
  obtain ⟨j, hj⟩ := List.getElem?_of_mem hc
  have hjd : j < d := by rw [← lr]; exact (List.getElem?_eq_some_iff.mp hj).1
  obtain ⟨g1, g2, g3⟩ := gr j hjd
  rw [hj] at g1
  obtain rfl : c = en rs i j := Option.some.inj g1
  refine Z.mono (n := 41) ?_ hm
  unfold Z
  have := far12_is
  have : (2 : Nat) ^ 41 = 2199023255552 := rfl
  omega
theorem polL_z {rs : List (List Int)} {d : Nat} (h : Sy rs d) (d4 : d ≤ 4) : zin (polL rs d) := by
  intro c hc
  have hm : ∀ s ∈ lotsL d, (minr rs s).natAbs ≤ 2 ^ 260 := fun s hs => by
    obtain ⟨l, hin⟩ := lots_in d d4 s hs
    have := worN_zm s.length _ (by omega) (subM_sz (h.sz (m := 41)) hin)
    have z : Z 260 (worN s.length (subM rs s)) := this.mono (by omega)
    unfold Z at z
    unfold minr
    split <;> omega
  have := polF_z (B := 2 ^ 260) (lotsL d) (GM.zr (d + 1)) 0 (fun x hx => by rw [List.eq_of_mem_replicate hx]; simp) hm c hc
  have few := lots_few d d4
  unfold Z
  have e : (2 : Nat) ^ 300 = 2 ^ 260 * 1099511627776 := Nat.pow_add 2 260 40
  have : (0 + (lotsL d).length) * 2 ^ 260 ≤ 16 * 2 ^ 260 := Nat.mul_le_mul_right _ (by omega)
  have p : 0 < (2 : Nat) ^ 260 := Nat.pow_pos (by decide)
  omega
theorem pol_head {rs : List (List Int)} {d : Nat} (h : Sy rs d) (d1 : 1 ≤ d) (d4 : d ≤ 4) : (polL rs d).headD 0 = 1 := h.cases (P := fun rs d => (polL rs d).headD 0 = 1) d1 d4 (fun _ => by rw [polA1]; rfl) (fun _ _ _ => by rw [polA2]; rfl) (fun _ _ _ _ _ _ => by rw [polA3]; rfl) (fun _ _ _ _ _ _ _ _ _ _ => by rw [polA4]; rfl)
theorem Sy.tab {rs : List (List Int)} {d : Nat} (h : Sy rs d) (d1 : 1 ≤ d) (d4 : d ≤ 4) : Tab rs d := ⟨h.len, d1, d4, h.row, h.sym, (h.sz (m := 100)).z⟩
theorem tot_z {A B : List (List Int)} {d : Nat} (ha : Sy A d) (hb : Sy B d) (d1 : 1 ≤ d) (d4 : d ≤ 4) : (∀ c ∈ totL A B d, Z 6000 c) ∧ 0 < (totL A B d).headD 0 := by
  have rel := tot_rel ha hb d1 d4
  have hl := tot_len (A := A) (B := B) (d := d)
  have hz := fnd_z (GM.wt_m d) (wm_z (by omega)) (polL_z ha d4) (polL_z hb d4) (by omega)
  have t3 : two d ≤ 3 := by
    unfold two
    by_cases c : d = 4
    · rw [if_pos c]; decide
    · rw [if_neg c]
      by_cases c2 : d = 3
      · rw [if_pos c2]; decide
      · rw [if_neg c2]; decide
  have t0 := two_pos d
  refine ⟨fun c hc => ?_, ?_⟩
  · obtain ⟨k, hk⟩ := List.getElem?_of_mem hc
    have hkl := (List.getElem?_eq_some_iff.mp hk).1
    have hr := rel k hkl
    rw [List.getD_eq_getElem?_getD, hk] at hr
    have hf : (GM.fnd d (GM.Wm d) (polL A d) (polL B d))[k]? = some ((GM.fnd d (GM.Wm d) (polL A d) (polL B d)).getD k 0) := by
      have : k < (GM.fnd d (GM.Wm d) (polL A d) (polL B d)).length := by rw [GM.fnd_len]; omega
      simp [this]
    have zf := hz _ (List.mem_of_getElem? hf)
    generalize (GM.fnd d (GM.Wm d) (polL A d) (polL B d)).getD k 0 = x at hr zf
    have h9 : (3 * c).natAbs = (two d).natAbs * x.natAbs := by
      show ((3 : Int) * ((some c).getD 0)).natAbs = _
      rw [hr, Int.natAbs_mul]
    have h18 : (two d).natAbs * x.natAbs ≤ 3 * x.natAbs := Nat.mul_le_mul_right _ (by omega)
    have : Z 2420 c := by
      unfold Z at *
      have e : (2 : Nat) ^ 2420 = 2 ^ 2410 * 1024 := Nat.pow_add 2 2410 10
      omega
    exact this.mono (by decide)
  · have hr := rel 0 (by omega)
    have h0 := GM.fnd_head (GM.wt_m d) (a := polL A d) (b := polL B d) (by rw [pol_head ha d1 d4]; decide) (by rw [pol_head hb d1 d4]; decide)
    have e0 : ∀ l : List Int, l.headD 0 = l.getD 0 0 := fun l => by cases l <;> rfl
    rw [e0] at h0 ⊢
    have : 0 < two d * (GM.fnd d (GM.Wm d) (polL A d) (polL B d)).getD 0 0 := Int.mul_pos t0 h0
    omega
theorem pol_ok {rs : List (List Int)} {d : Nat} (h : Sy rs d) (d1 : 1 ≤ d) (d4 : d ≤ 4) : okN (polL rs d) := ⟨by rw [polL_len]; omega, by rw [polL_len]; omega, by rw [pol_head h d1 d4]; decide⟩

end K36
namespace K36
open PySem PySem.Spec PyProof.Rows L2 GS TL
local macro_rules | `(tactic| walk_at "rd") => `(tactic| (repeat (first
  | with_reducible refine r_next ?_
  | with_reducible refine r_seq ?_
  | with_reducible refine r_ret ?_
  | with_reducible refine r_ifS ?_
  | with_reducible refine r_asg ?_
  | with_reducible refine r_drop ?_
  | with_reducible refine r_op ?_
  | with_reducible refine r_un ?_
  | with_reducible refine r_cbInt ?_
  | with_reducible refine r_cbAbs ?_
  | with_reducible refine r_cbLen ?_
  | with_reducible refine r_cbList ?_
  | with_reducible refine r_cbTup ?_
  | with_reducible refine r_iEnT ?_
  | with_reducible refine r_iEnL ?_
  | with_reducible refine r_zipA ?_
  | with_reducible refine r_zipX ?_
  | with_reducible refine r_augS ?_
  | with_reducible refine r_cb ?_
  | with_reducible refine r_call ?_
  | with_reducible refine r_make ?_
  | with_reducible refine r_callN0 ?_
  | with_reducible refine r_makeK0 ?_
  | with_reducible refine r_makeS ?_
  | with_reducible refine r_callS ?_
  | with_reducible refine r_cons ?_
  | with_reducible refine r_nil ?_
  | with_reducible refine r_test ?_
  | with_reducible refine r_B ?_
  | with_reducible refine r_and ?_
  | with_reducible refine r_or ?_
  | with_reducible refine r_not ?_
  | with_reducible refine r_andV ?_
  | with_reducible refine r_orV ?_
  | with_reducible refine r_notV ?_
  | with_reducible refine r_if ?_
  | with_reducible refine r_tup ?_
  | with_reducible refine r_lst ?_
  | with_reducible refine r_c ?_
  | with_reducible refine r_lc ?_
  | with_reducible refine r_chain ?_
  | with_reducible refine r_iT ?_
  | with_reducible refine r_iL ?_
  | with_reducible refine r_iR1 ?_
  | with_reducible refine r_iR2 ?_
  | with_reducible refine r_iR3 ?_
  | with_reducible refine r_asgG ?_
  | with_reducible refine r_gSub ?_
  | with_reducible refine r_for ?_
  | with_reducible refine r_smeth ?_
  | with_reducible refine r_par ?_
  | with_reducible refine r_parK ?_
  | with_reducible refine r_gCons ?_
  | with_reducible refine r_gNil ?_
  | with_reducible refine r_gName ?_
  | with_reducible refine r_intI ?_
  | with_reducible refine r_intB ?_
  | with_reducible refine r_absI ?_
  | with_reducible refine r_k ?_
  | with_reducible refine r_kV ?_
  | ((with_reducible show tVar _ _ _ _); refine r_var3 ?_ (by rfl))
  | with_reducible refine r_I0 ?_
  | with_reducible refine r_U ?_
  | with_reducible refine r_eqI ?_
  | with_reducible refine r_neI ?_
  | with_reducible refine r_F ?_
  | dsimp only)))
local macro_rules | `(tactic| walk_at "rx") => `(tactic| (repeat (first
  | with_reducible refine r_next ?_
  | with_reducible refine r_ret ?_
  | with_reducible refine r_ifS ?_
  | with_reducible refine r_asg ?_
  | with_reducible refine r_drop ?_
  | with_reducible refine r_op ?_
  | with_reducible refine r_un ?_
  | with_reducible refine r_cbInt ?_
  | with_reducible refine r_cbAbs ?_
  | with_reducible refine r_cbLen ?_
  | with_reducible refine r_cbList ?_
  | with_reducible refine r_cbTup ?_
  | with_reducible refine r_iEnT ?_
  | with_reducible refine r_iEnL ?_
  | with_reducible refine r_zipA ?_
  | with_reducible refine r_zipX ?_
  | with_reducible refine r_augS ?_
  | with_reducible refine r_cb ?_
  | with_reducible refine r_call ?_
  | with_reducible refine r_make ?_
  | with_reducible refine r_callN0 ?_
  | with_reducible refine r_makeK0 ?_
  | with_reducible refine r_makeS ?_
  | with_reducible refine r_callS ?_
  | with_reducible refine r_cons ?_
  | with_reducible refine r_nil ?_
  | with_reducible refine r_test ?_
  | with_reducible refine r_B ?_
  | with_reducible refine r_and ?_
  | with_reducible refine r_or ?_
  | with_reducible refine r_not ?_
  | with_reducible refine r_andV ?_
  | with_reducible refine r_orV ?_
  | with_reducible refine r_notV ?_
  | with_reducible refine r_if ?_
  | with_reducible refine r_tup ?_
  | with_reducible refine r_lst ?_
  | with_reducible refine r_c ?_
  | with_reducible refine r_lc ?_
  | with_reducible refine r_chain ?_
  | with_reducible refine r_iT ?_
  | with_reducible refine r_iL ?_
  | with_reducible refine r_iR1 ?_
  | with_reducible refine r_iR2 ?_
  | with_reducible refine r_iR3 ?_
  | with_reducible refine r_asgG ?_
  | with_reducible refine r_gSub ?_
  | with_reducible refine r_for ?_
  | with_reducible refine r_smeth ?_
  | with_reducible refine r_par ?_
  | with_reducible refine r_parK ?_
  | with_reducible refine r_gCons ?_
  | with_reducible refine r_gNil ?_
  | with_reducible refine r_gName ?_
  | with_reducible refine r_intI ?_
  | with_reducible refine r_intB ?_
  | with_reducible refine r_absI ?_
  | with_reducible refine r_k ?_
  | with_reducible refine r_kV ?_
  | ((with_reducible show tVar _ _ _ _); refine r_var3 ?_ (by rfl))
  | with_reducible refine r_I0 ?_
  | with_reducible refine r_U ?_
  | with_reducible refine r_eqI ?_
  | with_reducible refine r_neI ?_
  | with_reducible refine r_F ?_
  | dsimp only)))
/-! ### the law -/
def spLaw (K : PySem.W.Frag) : Sp := sp1 fun v H Q _ => ∃ (L : Addr) (xs : List Int), v = .ref L ∧ SqL K H L (xs.map V.int) ∧ (∀ x ∈ xs, Z 2000000 x) ∧ ∀ H', Q (.bl true) H'
theorem r_neTI {K : PySem.W.Frag} {H : Hp} {Q : VK} {p q : Addr} {xs ys : List Int} (h1 : H p = some (.tup (xs.map V.int))) (h2 : H q = some (.tup (ys.map V.int))) (k : Q (.bl (!decide (xs = ys))) H) : rNeD K (.ref p) (.ref q) H Q := by
  refine ⟨_, _, .tup (SqT.of h1) (dp_ints xs), .tup (SqT.of h2) (dp_ints ys), (shaped_ints xs).2, (shaped_ints ys).2, ?_⟩
  show Q (.bl (!PyData.eqvAll (xs.map PyData.int) (ys.map PyData.int))) H
  rw [eqv_ints]
  exact k
theorem r_PNe {K : PySem.W.Frag} {mg : Str → Option Value} {H : Hp} {Q : VK} {E : XK} {a b : Addr} {ns ms : List Int} (T : Txt K mg) (ha : Pl K H a ns) (hb : Pl K H b ms) (q : Q (.bl (!decide (ns = ms))) H) : rNeOwn K (He.ga K "Poly") (spPEq K) E (.ref a) (.ref b) H Q := by
  obtain ⟨dx, fs, h1⟩ := ha.inst
  obtain ⟨dx2, fs2, h2⟩ := hb.inst
  exact ⟨a, dx, fs, _, rfl, h1, ty_own T (by decide) h2, T.cc_Poly.nf, a, ns, rfl, ha, .inl ⟨b, ms, rfl, hb, _, rfl, q⟩⟩
/-- a field of what was just made -/
theorem r_fk {K : PySem.W.Frag} {mg : Str → Option Value} {H : Hp} {Q : VK} {a : Addr} {ns : List Int} (T : Txt K mg) (h : Pl K H a ns) (q : ∀ t, H t = some (.tup (ns.map V.int)) → Q (.ref t) H) : fldK K "numbers" Q (.ref a) H := by
  obtain ⟨_, _, _, dx, t, h, ht⟩ := h
  exact ⟨a, _, dx, _, _, rfl, h, T.cl_Poly, T.na_Poly_numbers, rfl, q t ht⟩
theorem Pl.bg {K : PySem.W.Frag} {H H' : Hp} {a p : Addr} {n : Int} {ns : List Int} (h : Pl K H a ns) (hb : Bag H p n) (g : Bg p H H') : Pl K H' a ns := by
  obtain ⟨h1, h2, h3, dx, t, h4, h5⟩ := h
  exact ⟨h1, h2, h3, dx, t, g.at_ (hb.ne h4 fun _ _ _ z => by cases z) h4, g.at_ (hb.ne h5 fun _ _ _ z => by cases z) h5⟩
theorem ok_law {P : Program} {w : World} {K : PySem.W.Frag} {mg : Str → Option Value} {base : Heap} {fd : FuncData} (T : Txt K mg) (F : FunD K "law" "law" (defArgs s_law) (defBody s_law) (defScope s_law) [] [] (He.ga K "law") fd) : FnOk P w K mg base (L2.CX P w) 8 (He.ga K "law") fd ["script"] (spLaw K) := by
  obtain ⟨fd_mean_sum, F_mean_sum, B_mean_sum, kb_mean_sum_0⟩ := ok_mean_sum (P := P) (w := w) (base := base) T
  obtain ⟨fd__law_lowest, F__law_lowest, B__law_lowest⟩ := ok__law_lowest (P := P) (w := w) (base := base) T
  obtain ⟨fd__law_total, F__law_total, B__law_total⟩ := ok__law_total (P := P) (w := w) (base := base) T
  obtain ⟨fd_Poly_eq, F_Poly_eq, B_Poly_eq⟩ := ok_Poly_eq (P := P) (w := w) (base := base) T
  obtain ⟨fd_table_poly, F_table_poly, B_table_poly, kb_table_poly_0⟩ := ok_table_poly (P := P) (w := w) (base := base) T
  obtain ⟨fd__law_poly, F__law_poly, B__law_poly⟩ := ok__law_poly (P := P) (w := w) (base := base) T
  obtain ⟨fd_Poly_init, F_Poly_init, B_Poly_init⟩ := ok_Poly_init (P := P) (w := w) (base := base) T
  obtain ⟨fd__law_table, F__law_table, B__law_table⟩ := ok__law_table (P := P) (w := w) (base := base) T
  obtain ⟨fd__law_choose, F__law_choose, B__law_choose⟩ := ok__law_choose (P := P) (w := w) (base := base) T
  obtain ⟨fd__law_crate, F__law_crate, B__law_crate⟩ := ok__law_crate (P := P) (w := w) (base := base) T
  refine F.ok sc_law sp1_len (fun cdv A outer s H vs Q E hr h => ?_)
  have hr_mean_sum : Room 7 _ := hr.mono (by decide)
  have hr__law_lowest : Room 1 _ := hr.mono (by decide)
  have hr__law_total : Room 7 _ := hr.mono (by decide)
  have hr_Poly_eq2 : Room 3 _ := hr.mono (by decide)
  have hr_table_poly : Room 5 _ := hr.mono (by decide)
  have hr__law_poly : Room 6 _ := hr.mono (by decide)
  have hr_Poly_init : Room 4 _ := hr.mono (by decide)
  have hr__law_table : Room 3 _ := hr.mono (by decide)
  have hr__law_choose : Room 2 _ := hr.mono (by decide)
  have hr__law_crate : Room 1 _ := hr.mono (by decide)
  obtain ⟨v0, rfl, L, xs, rfl, hL, hz, k⟩ := sp1_is h
  refine ⟨_, (pss_cons (ps_set (i := 1) sc_law.nd rfl (Or.inl rfl) (pe_call F__law_crate hr__law_crate (by rfl) T.g__law_crate T.k__law_crate B__law_crate .nil passL (pa_cons (pv 0) pa_nil)))
      (pss_cons (ps_for (passes_of rfl) rfl (pi_range1 (by rfl) T.b_range (pa_cons pe_int pa_nil)) (pg_name (i := 2) sc_law.nd rfl (Or.inl rfl)) (pss_cons (ps_set (i := 3) sc_law.nd rfl (Or.inl rfl) (pe_call F__law_choose hr__law_choose (by rfl) T.g__law_choose T.k__law_choose B__law_choose .nil passL (pa_cons (pv 1) (pa_cons (pe_lst (pa_cons pe_int (pa_cons pe_int (pa_cons pe_int (pa_cons pe_int (pa_cons (pe_ifExp (pt_cmpR op_eq (pv 2) pe_int (nomark _)) pe_int pe_int) pa_nil)))))) pa_nil))))
      (pss_cons (ps_par (i := 4) (j := 5) (by rfl) sc_law.nd rfl rfl (by decide) rfl rfl (pa_cons (pe_call F__law_table hr__law_table (by rfl) T.g__law_table T.k__law_table B__law_table .nil passL (pa_cons (pv 1) (pa_cons (pv 3) pa_nil))) (pa_cons (pe_call F__law_table hr__law_table (by rfl) T.g__law_table T.k__law_table B__law_table .nil passL (pa_cons (pv 1) (pa_cons (pv 3) pa_nil))) pa_nil)) (by rfl))
      (pss_cons (ps_par (i := 6) (j := 7) (by rfl) sc_law.nd rfl rfl (by decide) rfl rfl (pa_cons (pe_call F_table_poly hr_table_poly (by rfl) T.g_table_poly T.k_table_poly B_table_poly .nil passL (pa_cons (pv 4) pa_nil)) (pa_cons (pe_make T.mk_Poly F_Poly_init hr_Poly_init (by rfl) T.g_Poly B_Poly_init .nil passL (pa_cons (pe_call F__law_poly hr__law_poly (by rfl) T.g__law_poly T.k__law_poly B__law_poly .nil passL (pa_cons (pv 5) pa_nil)) pa_nil)) pa_nil)) (by rfl))
      (pss_cons (ps_if (PW.pt (pw_or (pt_cmpR (op_neD hr.units) (kx_fld rfl (pv 6) rfl) (pe_callTy (kx_tupOf (K := K) rfl) (by rfl) T.b_tuple (by decide +kernel) (pa_cons (pe_call F__law_poly hr__law_poly (by rfl) T.g__law_poly T.k__law_poly B__law_poly .nil passL (pa_cons (pv 4) pa_nil)) pa_nil)) (nomark _)) (pw_or1 (pt_cmpR (op_neOwn F_Poly_eq (hr_Poly_eq2) T.ne_Poly T.cc_Poly.hm T.me_Poly_eq.at_ T.me_Poly_eq.fn B_Poly_eq passL) (pe_callK0 F_table_poly hr_table_poly (by rfl) T.g_table_poly T.k_table_poly kb_table_poly_0 passL (pk_cons (pe_lc (own := [("row", 8)]) (g := gName 8) (tt := tYes)  rfl sc_law.nd (pi_list (pv 5)) (blkOk_by (own := [("row", 8)]) (N := ["script", "crate", "turn", "size", "one", "other", "mine", "its", "row", "due"]) (sc := defScope s_law) (by decide +kernel)) (fun _ _ _ _ _ => (pg_name (i := 8) sc_law.nd rfl (Or.inl rfl))) (fun _ _ _ _ _ => pts_nil) (fun _ _ _ _ _ => (pe_callTy (kx_tupOf (K := K) rfl) (by rfl) T.b_tuple (by decide +kernel) (pa_cons (pv 8) pa_nil)))) pk_nil)) (pv 7) (nomark _))))) (pss_one (ps_ret pe_bl)) pss_nil)
      (pss_cons (ps_set (i := 9) sc_law.nd rfl (Or.inl rfl) (pe_call F__law_lowest hr__law_lowest (by rfl) T.g__law_lowest T.k__law_lowest B__law_lowest .nil passL (pa_cons (pe_call F__law_total hr__law_total (by rfl) T.g__law_total T.k__law_total B__law_total .nil passL (pa_cons (pv 4) (pa_cons (pv 5) pa_nil))) pa_nil)))
      (pss_cons (ps_if (PW.pt (pw_or (pt_cmpR (op_neD hr.units) (kx_fld rfl (pe_call F_mean_sum hr_mean_sum (by rfl) T.g_mean_sum T.k_mean_sum B_mean_sum .nil passL (pa_cons (pv 6) (pa_cons (pv 7) pa_nil))) rfl) (pv 9) (nomark _)) (pw_or1 (pt_cmpR (op_neD hr.units) (kx_fld rfl (pe_callK0 F_mean_sum hr_mean_sum (by rfl) T.g_mean_sum T.k_mean_sum kb_mean_sum_0 passL (pk_cons (pv 6) (pk_cons (pv 7) pk_nil))) rfl) (pv 9) (nomark _))))) (pss_one (ps_ret pe_bl)) pss_nil)
      (pss_one (ps_if (PW.pt (pw_and (pt_cmpR op_lt (pv 3) pe_int (nomark _)) (pw_and1 (pt_cmpR (op_neD hr.units) (kx_fld rfl (pe_call F_mean_sum hr_mean_sum (by rfl) T.g_mean_sum T.k_mean_sum B_mean_sum .nil passL (pa_cons (pv 6) (pa_cons (pv 6) pa_nil))) rfl) (pe_call F__law_lowest hr__law_lowest (by rfl) T.g__law_lowest T.k__law_lowest B__law_lowest .nil passL (pa_cons (pe_call F__law_total hr__law_total (by rfl) T.g__law_total T.k__law_total B__law_total .nil passL (pa_cons (pv 4) (pa_cons (pv 4) pa_nil))) pa_nil)) (nomark _))))) (pss_one (ps_ret pe_bl)) pss_nil)))))))))
      (pss_one (ps_ret pe_bl)))), ?_⟩
  walk_at "rd"
  refine ⟨L, xs, rfl, hL, hz, fun b H1 e1 hb0 hb => ?_⟩
  walk_at "rd"
  refine ⟨2, rfl, by decide, by decide, ?_⟩
  refine for_of (walk_range (lo := 0) (n := 2)) (fun i σ' H' => Bag H' b (100 * (i : Nat)) ∧ ∃ s2 s3 s4 s5 s6 s7 s9, σ' = [some (.ref L), some (.ref b), s2, s3, s4, s5, s6, s7, none, s9]) ⟨hb.le (by decide), none, none, none, none, none, none, none, rfl⟩ (fun _ _ _ _ _ => trivial) ?_ ?_
  · rintro i x σ' H' H2 hi ⟨hb2, s2, s3, s4, s5, s6, s7, s9, rfl⟩ ⟨rfl, rfl⟩
    have hi' : (100 * (i : Int)) ≤ 200 := by omega
    refine r_gName ?_
    walk_at "rx"
    refine r_seqJ (fun σ' H' => ∃ d : Nat, 1 ≤ d ∧ d ≤ 4 ∧ Bag H' b (100 * (i : Nat) + 1) ∧ σ' = [some (.ref L), some (.ref b), some (.int (0 + (i : Nat))), some (.int d), s4, s5, s6, s7, none, s9]) (fun N hN => ?_) ?_
    · walk_at "rd"
      refine ite_b (fun _ => ?_) fun _ => ?_
      · walk_at "rd"
        refine r_newL (sz_le (by simp)) fun t H3 ht e3 h3 => ?_
        walk_at "rd"
        refine r_One (H0 := H3) (hb2.ex e3) h3 (fun _ _ _ z => by cases z) (by simp) (by simp) (by omega) fun v H4 hv g4 b4 => ?_
        have hd : ∃ d : Nat, v = .int d ∧ 1 ≤ d ∧ d ≤ 4 := by
          simp only [List.mem_cons, List.not_mem_nil, or_false] at hv
          rcases hv with rfl | rfl | rfl | rfl | rfl
          · exact ⟨2, rfl, by decide, by decide⟩
          · exact ⟨3, rfl, by decide, by decide⟩
          · exact ⟨1, rfl, by decide, by decide⟩
          · exact ⟨3, rfl, by decide, by decide⟩
          · exact ⟨4, rfl, by decide, by decide⟩
        obtain ⟨d, rfl, d1, d4⟩ := hd
        walk_at "rd"
        exact hN _ _ ⟨d, d1, d4, b4, rfl⟩
      · walk_at "rd"
        refine r_newL (sz_le (by simp)) fun t H3 ht e3 h3 => ?_
        walk_at "rd"
        refine r_One (H0 := H3) (hb2.ex e3) h3 (fun _ _ _ z => by cases z) (by simp) (by simp) (by omega) fun v H4 hv g4 b4 => ?_
        have hd : ∃ d : Nat, v = .int d ∧ 1 ≤ d ∧ d ≤ 4 := by
          simp only [List.mem_cons, List.not_mem_nil, or_false] at hv
          rcases hv with rfl | rfl | rfl | rfl | rfl
          · exact ⟨2, rfl, by decide, by decide⟩
          · exact ⟨3, rfl, by decide, by decide⟩
          · exact ⟨1, rfl, by decide, by decide⟩
          · exact ⟨3, rfl, by decide, by decide⟩
          · exact ⟨2, rfl, by decide, by decide⟩
        obtain ⟨d, rfl, d1, d4⟩ := hd
        walk_at "rd"
        exact hN _ _ ⟨d, d1, d4, b4, rfl⟩
    clear hb2
    rintro σ' H3 ⟨d, d1, d4, b3, rfl⟩
    refine r_seqJ (fun σ' H' => ∃ p q cs ds A B, Bag H' b (100 * (i : Nat) + 90) ∧ H' p = some (.lst (cs.map V.ref)) ∧ H' q = some (.lst (ds.map V.ref)) ∧ LA H' cs A ∧ LA H' ds B ∧ Sy A d ∧ Sy B d ∧ σ' = [some (.ref L), some (.ref b), some (.int (0 + (i : Nat))), some (.int d), some (.ref p), some (.ref q), s6, s7, none, s9]) (fun N hN => ?_) ?_
    · walk_at "rd"
      refine ⟨b, _, d, rfl, rfl, d1, d4, by omega, b3, fun p cs A H4 g4 b4 h4 la4 sa => ?_⟩
      walk_at "rd"
      refine ⟨b, _, d, rfl, rfl, d1, d4, (by omega : 100 * (i : Int) + 1 + 40 ≤ 80000), b4, fun q ds B H5 g5 b5 h5 lb5 sb => ?_⟩
      walk_at "rd"
      exact hN _ _ ⟨p, q, cs, ds, A, B, b5.le (by omega), g5.at_ (ls_ne b4 h4) h4, h5, la4.bg b4 g5, lb5, sa, sb, rfl⟩
    clear b3
    rintro σ' H4 ⟨p, q, cs, ds, A, B, b4, hp, hq, la, lb, sa, sb, rfl⟩
    refine r_seqJ (fun σ' H' => ∃ m n, Ex H4 H' ∧ Pl K H' m (polL A d) ∧ Pl K H' n (polL B d) ∧ σ' = [some (.ref L), some (.ref b), some (.int (0 + (i : Nat))), some (.int d), some (.ref p), some (.ref q), some (.ref m), some (.ref n), none, s9]) (fun N hN => ?_) ?_
    · walk_at "rd"
      refine ⟨A, d, ⟨p, cs, rfl, hp, la.ra⟩, sa.tab d1 d4, fun m H6 hm e6 hpm => ?_⟩
      rw [pol_tn sa d1 d4] at hpm
      walk_at "rd"
      refine ⟨B, d, ⟨q, ds, rfl, e6 _ _ hq, lb.ex e6⟩, sb.sz, d1, d4, fun R H7 hR e7 h7 => ?_⟩
      walk_at "rd"
      refine r_Poly ⟨R, rfl, .inl h7⟩ (pol_ok sb d1 d4) fun n H8 hn e8 hpn => ?_
      walk_at "rd"
      exact hN _ _ ⟨m, n, (e6.trans e7).trans e8, (hpm.ex e7).ex e8, hpn, rfl⟩
    rintro σ' H5 ⟨m, n, e5, hpm, hpn, rfl⟩
    have hp5 := e5 _ _ hp
    have hq5 := e5 _ _ hq
    have la5 := la.ex e5
    have lb5 := lb.ex e5
    have b5 := b4.ex e5
    clear hp hq la lb b4 e5
    refine r_seqJ (fun σ' H' => Ex H5 H' ∧ σ' = [some (.ref L), some (.ref b), some (.int (0 + (i : Nat))), some (.int d), some (.ref p), some (.ref q), some (.ref m), some (.ref n), none, s9]) (fun N hN => ?_) ?_
    · walk_at "rd"
      refine r_fk T hpm fun t ht => ?_
      walk_at "rd"
      refine ⟨A, d, ⟨p, cs, rfl, hp5, la5⟩, sa.sz, d1, d4, fun R H6 hR e6 h6 => ?_⟩
      walk_at "rd"
      refine r_tupL (SqL.of h6) fun u H7 hu e7 h7 => ?_
      refine r_neTI (e7 _ _ (e6 _ _ ht)) h7 ?_
      walk_at "rd"
      refine ite_f (by simp) ?_
      walk_at "rd"
      have e57 := e6.trans e7
      have hq7 := e57 _ _ hq5
      have lb7 := lb5.ex e57
      have lds : ds.length = d := by rw [lb7.1]; exact sb.len
      refine ⟨q, rfl, ⟨_, SqL.of hq7⟩, ?_⟩
      refine r_lcP (n := d) (by have := walk_list (K := K) (a := q) (xs := ds.map V.ref); rwa [List.length_map, lds] at this) (fun D i ys H' => ∃ ts : List Addr, ys = ts.map V.ref ∧ D ∉ ts ∧ RA H' ts (B.take i)) (by omega) (fun H' e => SqL.of (e _ _ hq7)) (fun D H' e => ⟨[], rfl, by simp, by simpa using RA.nil⟩) (fun D i ys H7 H8 ⟨ts, h1, h2, h3⟩ bu => ⟨ts, h1, h2, h3.1, fun j t r ht hr => (h3.2 j t r ht hr).elim (fun z => .inl (bu _ _ (fun z => h2 (by rw [← z]; exact List.mem_of_getElem? ht)) z)) fun z => .inr (bu _ _ (fun z => h2 (by rw [← z]; exact List.mem_of_getElem? ht)) z)⟩) ?_ ?_
      · rintro D j x ys H8 H9 hj hD e8 hdD ⟨ts, rfl, nD, hl'⟩ ⟨rfl, hx⟩ N2 hN2
        obtain ⟨t2, ht2, rfl⟩ := ref_at hx
        obtain ⟨r, hr, hrow⟩ := (lb7.ex e8).at ht2
        refine r_gName ⟨rfl, ?_⟩
        walk_at "rd"
        refine r_tupL (SqL.of hrow) fun w H10 hw e10 h10 => ?_
        have nwD : w ≠ D := fun z => by rw [z, hdD] at hw; cases hw
        refine hN2 _ H10 e10 ⟨ts ++ [w], by simp, fun z => ?_, ?_⟩
        · rcases List.mem_append.mp z with z | z
          · exact nD z
          · exact nwD (List.mem_singleton.mp z).symm
        · rw [List.take_add_one, hr]
          exact (hl'.ex e10).app (RA.cons (.inr h10) RA.nil)
      · rintro D ys H8 hD e8 hdD hlen ⟨ts, rfl, nD, hl'⟩
        rw [List.take_of_length_le (by rw [sb.len]; omega)] at hl'
        walk_at "rd"
        refine ⟨rfl, rfl, ?_⟩
        refine ⟨B, d, ⟨D, ts, rfl, hdD, hl'⟩, sb.tab d1 d4, fun w H9 hw e9 hpw => ?_⟩
        rw [pol_tn sb d1 d4] at hpw
        walk_at "rd"
        refine r_PNe T hpw (((hpn.ex e57).ex e8).ex e9) ?_
        walk_at "rd"
        refine ite_f (by simp) ?_
        exact hN _ _ ⟨(e57.trans e8).trans e9, rfl⟩
    rintro σ' H6 ⟨e6, rfl⟩
    refine r_seqJ (fun σ' H' => ∃ t, Ex H6 H' ∧ H' t = some (.tup ((meanG (polL A d) (polL B d)).map V.int)) ∧ σ' = [some (.ref L), some (.ref b), some (.int (0 + (i : Nat))), some (.int d), some (.ref p), some (.ref q), some (.ref m), some (.ref n), none, some (.ref t)]) (fun N hN => ?_) ?_
    · obtain ⟨tz, th⟩ := tot_z sa sb d1 d4
      walk_at "rd"
      refine ⟨p, q, cs, ds, A, B, d, rfl, rfl, e6 _ _ hp5, e6 _ _ hq5, la5.ex e6, lb5.ex e6, sa, sb, d1, d4, fun R H7 hR e7 h7 => ?_⟩
      walk_at "rd"
      refine ⟨R, _, rfl, h7, by rw [tot_len]; omega, th, tz, fun t H8 e8 h8 => ?_⟩
      rw [tot_low sa sb d1 d4] at h8
      walk_at "rd"
      exact hN _ _ ⟨t, e7.trans e8, h8, rfl⟩
    rintro σ' H7 ⟨t, e7, ht7, rfl⟩
    have e57 := e6.trans e7
    have la' := polL_len A d
    have lb' := polL_len B d
    have zA := polL_z sa d4
    have zB := polL_z sb d4
    refine r_seqJ (fun σ' H' => Ex H7 H' ∧ σ' = [some (.ref L), some (.ref b), some (.int (0 + (i : Nat))), some (.int d), some (.ref p), some (.ref q), some (.ref m), some (.ref n), none, some (.ref t)]) (fun N hN => ?_) ?_
    · walk_at "rd"
      refine .inr ⟨m, _, rfl, (hpm.ex e57), .inr ⟨n, _, rfl, (hpn.ex e57), fun z => absurd (by rw [la', lb']) z, fun _ => ⟨zA, zB, fun r H8 hr e8 hpr => ?_⟩⟩⟩
      refine r_fk T hpr fun w hw => ?_
      walk_at "rd"
      refine r_neTI hw (e8 _ _ ht7) ?_
      walk_at "rd"
      refine ite_f (by simp) ?_
      walk_at "rd"
      have e58 := e57.trans e8
      refine ⟨rfl, rfl, ?_⟩
      refine .inr ⟨n, _, rfl, (hpn.ex e58), .inr ⟨m, _, rfl, (hpm.ex e58), fun z => absurd (by rw [la', lb']) z, fun _ => ⟨zB, zA, fun r2 H9 hr2 e9 hpr2 => ?_⟩⟩⟩
      rw [mean_comm] at hpr2
      refine r_fk T hpr2 fun w2 hw2 => ?_
      walk_at "rd"
      refine r_neTI hw2 ((e8.trans e9) _ _ ht7) ?_
      walk_at "rd"
      refine ite_f (by simp) ?_
      exact hN _ _ ⟨e8.trans e9, rfl⟩
    rintro σ' H8 ⟨e8, rfl⟩
    have e58 := e57.trans e8
    walk_at "rd"
    by_cases c4 : d < 4
    · refine ite_t (decide_eq_true (by omega)) ?_
      walk_at "rd"
      refine .inr ⟨m, _, rfl, (hpm.ex e58), .inr ⟨m, _, rfl, (hpm.ex e58), fun z => absurd rfl z, fun _ => ⟨zA, zA, fun r H9 hr e9 hpr => ?_⟩⟩⟩
      refine r_fk T hpr fun w hw => ?_
      walk_at "rd"
      obtain ⟨tz, th⟩ := tot_z sa sa d1 d4
      have e59 := e58.trans e9
      refine ⟨p, p, cs, cs, A, A, d, rfl, rfl, e59 _ _ hp5, e59 _ _ hp5, la5.ex e59, la5.ex e59, sa, sa, d1, d4, fun R H10 hR e10 h10 => ?_⟩
      walk_at "rd"
      refine ⟨R, _, rfl, h10, by rw [tot_len]; omega, th, tz, fun t2 H11 e11 h11 => ?_⟩
      rw [tot_low sa sa d1 d4] at h11
      refine r_neTI (e11 _ _ (e10 _ _ hw)) h11 ?_
      walk_at "rd"
      refine ite_f (by simp) ?_
      walk_at "rd"
      exact ⟨(b5.ex ((e59.trans e10).trans e11)).le (by push_cast; omega), _, _, _, _, _, _, _, rfl⟩
    · refine ite_f (decide_eq_false (by omega)) ?_
      walk_at "rd"
      exact ⟨(b5.ex e58).le (by push_cast; omega), _, _, _, _, _, _, _, rfl⟩
  · rintro σ' H2 ⟨hb2, s2, s3, s4, s5, s6, s7, s9, rfl⟩
    walk_at "rd"
    exact k H2

end K36
set_option maxHeartbeats 0
namespace K36
open PySem PySem.Spec PyProof.Rows L2 GS
theorem law_fact {P : Program} {w : World} {K : PySem.W.Frag} {h : Heap} {mg : Str → Option Value} {f : Addr} (X : K.In h) (G : h.Ns mainGlobals mg) (hf : mg ("law" : Str) = some (.ref f)) (c : SaysM fa_all ex_all fn_all K) :
    ∃ fd : FuncData, (∀ (s : Shared) (u : Value), BindsTo s fd ⟨[u], []⟩ [("script", u)]) ∧ ∀ base : Heap, FnOk P w K mg base (L2.CX P w) 8 f fd ["script"] (spLaw K) := by
  have T := txt_of X G c
  obtain ⟨fd, F⟩ := T.d_law
  have e := hf.symm.trans T.g_law
  cases e
  refine ⟨fd, fun s u => ?_, fun base => ok_law T F⟩
  exact F.bindsA (ps := ["script"]) (fun _ _ _ _ _ _ us hl => match us, hl with | [_], _ => rfl) s [u] rfl
theorem nothing_out {P : Program} {w : World} {H : Hp} {s s' : Shared} {e : Value} (c : L2.CX P w [] H s (fun _ _ _ => False) e s') : False := by
  obtain ⟨a, B, H', cls, d, -, -, -, -, -, -, -, z⟩ := c
  exact z
/-- the end of a law: the script's bits are told -/
theorem end_bits {l : PySem.W.OpenLaw} {k n : Nat} {q : Program} {loose : List Str} {XP : (Str → Option Value) → Heap → Prop} {YP : World → Heap → Prop} {d : DefRec} {x : Str} (most : l.most = some n) (line : n ≤ sizeLine) (plain : d.params.defaults = []) (room : Room k callerA)
    (F : ∀ (w : World) (mg : Str → Option Value) (fa : Addr) (h : Heap), YP w h → h.Ns mainGlobals mg → mg d.name = some (.ref fa) → ∃ (K : PySem.W.Frag) (fd : FuncData) (sp : Sp), K.In h ∧ (∀ (s : Shared) (u : Value), BindsTo s fd ⟨[u], []⟩ [(x, u)]) ∧
      (∀ (H : Hp) (a : Addr) (ns : List Int), (∀ z ∈ ns, Builtin.Int.intBits z ≤ 1048576) → SqL K H a (ns.map V.int) → sp [.ref a] H (fun v _ => v = .bl true) fun _ _ _ => False) ∧ ∀ base : Heap, FnOk l.prog w K mg base (L2.CX l.prog w) k fa fd [x] sp) :
    PySem.W.WalkO q loose XP YP l.row.toRowW d [] (fun f vs => PySem.call f vs) := by
  refine Att.attach_callB most plain fun w s₀ s₁ mg mb fa o pm cd doc a vs ns Gr Yp _ _ _ named there numb short bits gens => ?_
  obtain ⟨K, fd, sp, KX, binds, goes, ok⟩ := F w mg fa _ Yp Gr.T.g named
  refine law_call (sp := sp) (CX := L2.CX l.prog w) KX Gr.T.g Gr.T.b Gr.T.builtins Gr.T.nolimit gens there numb ?_ room ?_ binds ?_ ?_
  · exact Nat.le_trans short line
  · exact fun base _ _ => ok base
  · exact fun H _ hs => goes H a ns bits hs
  · exact fun H e s' z => nothing_out z
theorem bits_lt (n : Int) : n.natAbs < 2 ^ Builtin.Int.intBits n := by
  unfold Builtin.Int.intBits
  split
  · rename_i h
    have : n = 0 := by simpa using h
    subst this
    decide
  · exact Nat.lt_log2_self
theorem law_sp {K : PySem.W.Frag} {H : Hp} {a : Addr} {ns : List Int} (bits : ∀ z ∈ ns, Builtin.Int.intBits z ≤ 1048576) (hs : SqL K H a (ns.map V.int)) : spLaw K [.ref a] H (fun v _ => v = .bl true) fun _ _ _ => False := by
  refine ⟨a, ns, rfl, hs, fun x hx => ?_, fun _ => rfl⟩
  exact Nat.lt_of_lt_of_le (bits_lt x) (Nat.pow_le_pow_right (by decide) (Nat.le_trans (bits x hx) (by decide)))
end K36
open PySem PySem.W PySem.Calls PyProof.Rows
theorem PySem.Challenge.cw_goodsigns_k36_whole_mean_over_signed_ren_holds : PySem.Challenge.rw_goodsigns_k36_whole_mean_over_signed_ren.Holds := by
  w_on; o_law
  refine HandSHeadRun.head_imp (r := K36.R) (q := view K36.R.prog [0, 55]) (H := K36.hk) (ob := K36.ob) (M := 4000) (loose := K36.loose) (d := HandSHeadRun.topDef K36.R.prog 55) (kwd := []) K36.ob_eq K36.run ?a3 ?a4 ?a5 ?a6 ?a7 ?a8 ?a9 ?hw ?hc
  case a3 => kernel_rfl
  case a4 => kernel_rfl
  case a5 => kernel_rfl
  case a6 => rfl
  case a7 => first | assumption | decide +kernel
  case a8 => decide +kernel
  case a9 => exact ⟨rfl, rfl, rfl, rfl, rfl, by decide +kernel⟩
  case hw => w_witness2
  case hc =>
    refine K36.end_bits (l := PySem.Challenge.rw_goodsigns_k36_whole_mean_over_signed_ren) (n := 63) (k := 8) (x := "script") rfl (by decide) (by kernel_rfl) ⟨rfl, by decide, by decide⟩ fun w mg fa h Y G named => ?_
    obtain ⟨K, KX, c⟩ := Y
    have hmg : mg ("law" : PySem.Str) = some (.ref fa) := by
      have e : (HandSHeadRun.topDef K36.R.prog 55).name = ("law" : PySem.Str) := by kernel_rfl
      rw [← e]
      exact named
    obtain ⟨fd, hb, hF⟩ := K36.law_fact (P := (PySem.Challenge.rw_goodsigns_k36_whole_mean_over_signed_ren).prog) (w := w) KX G hmg c
    exact ⟨K, fd, K36.spLaw K, KX, hb, fun H a ns bits hs => K36.law_sp bits hs, hF⟩
