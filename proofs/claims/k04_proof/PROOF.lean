import PyProof.Rows.All
import Wide.All
import OpenK.AllK
import Wide.FinOn
import HandS.ForMost
import HandS.ForExc
import HandS.ExcInit
import HandS.ExcField
import HandS.TryMany
import HandS.IsInst
import HandS.MakeKw
import HandS.OwnEq
import HandS.Wide
import HandS.Defaults
import HandS.ClsMeth
import KE.KCallOwn
import HandS.Head0
import HandS.Head1
import HandS.Head2
import HandS.HeadEnd
import HandS.HeadHook1
import HandS.HeadHook2
import HandS.HeadNt
import HandS.WideBits
import HandS.StrMore
import HandS.Walk
import HandS.MakeKwOnly
import HandS.TupAny
import HandS.Iter
import HandS.Zip
import HandS.Gcd
import HandS.Style
import PyProof.WalksMore
import KE.GoesMore
import KE.GoesEnum
import KE.KIsAll
import HandS.ExcIs
import HandS.Head3
import HandS.EndBits
import PySem.Challenge.RW_goodsigns_k04_polys_multiplied_divided_d
set_option Elab.async false
set_option linter.all false
set_option maxRecDepth 100000
set_option maxHeartbeats 4000000
/-! Polynomials as rows of integers, the highest power first. -/
namespace GM
/-- what a row is worth -/
def ev : List Int → Int → Int
  | [], _ => 0
  | a :: as, x => a * x ^ as.length + ev as x
def zadd (xs ys : List Int) : List Int := List.zipWith (· + ·) xs ys
def scl (a : Int) (bs : List Int) : List Int := bs.map (a * ·)
def zr (n : Nat) : List Int := List.replicate n 0
def mulH : List Int → List Int → List Int
  | [], bs => zr (bs.length - 1)
  | a :: as, bs => zadd (scl a bs ++ zr as.length) (0 :: mulH as bs)
theorem zr_len (n : Nat) : (zr n).length = n := by simp [zr]
theorem scl_len (a : Int) (bs : List Int) : (scl a bs).length = bs.length := by simp [scl]
theorem zadd_len {xs ys : List Int} (h : xs.length = ys.length) : (zadd xs ys).length = xs.length := by simp [zadd, h]
theorem ev_zr (n : Nat) (x : Int) : ev (zr n) x = 0 := by
  induction n with
  | zero => rfl
  | succ n ih => rw [zr, List.replicate_succ, ev]; show 0 * _ + ev (zr n) x = 0; rw [ih]; simp
theorem ev_append (as bs : List Int) (x : Int) : ev (as ++ bs) x = ev as x * x ^ bs.length + ev bs x := by
  induction as with
  | nil => simp [ev]
  | cons a as ih =>
    rw [List.cons_append, ev, ev, ih, List.length_append, Int.pow_add]
    grind
theorem ev_snoc (as : List Int) (a x : Int) : ev (as ++ [a]) x = ev as x * x + a := by
  rw [ev_append]
  simp [ev, Int.pow_succ]
theorem ev_scl (a : Int) (bs : List Int) (x : Int) : ev (scl a bs) x = a * ev bs x := by
  induction bs with
  | nil => simp [scl, ev]
  | cons b bs ih =>
    show ev (a * b :: scl a bs) x = _
    rw [ev, ev, ih, scl_len]
    grind
theorem ev_zadd : ∀ {xs ys : List Int}, xs.length = ys.length → ∀ x, ev (zadd xs ys) x = ev xs x + ev ys x
  | [], [], _, x => by simp [zadd, ev]
  | a :: as, b :: bs, h, x => by
    have h' : as.length = bs.length := by simpa using h
    show ev ((a + b) :: zadd as bs) x = _
    rw [ev, ev, ev, ev_zadd h' x, zadd_len h', h']
    grind
theorem mulH_len {bs : List Int} (hb : bs ≠ []) : ∀ as : List Int, (mulH as bs).length = as.length + bs.length - 1
  | [] => by simp [mulH, zr_len]
  | a :: as => by
    have ih := mulH_len hb as
    have : 0 < bs.length := List.length_pos_iff.mpr hb
    rw [mulH, zadd_len]
    · simp [scl_len, zr_len]; omega
    · simp [scl_len, zr_len, ih]; omega
theorem mulH_eq {bs : List Int} (hb : bs ≠ []) (a : Int) (as : List Int) : (scl a bs ++ zr as.length).length = (0 :: mulH as bs).length := by
  have : 0 < bs.length := List.length_pos_iff.mpr hb
  simp [scl_len, zr_len, mulH_len hb]; omega
theorem ev_mulH {bs : List Int} (hb : bs ≠ []) (x : Int) : ∀ as : List Int, ev (mulH as bs) x = ev as x * ev bs x
  | [] => by simp [mulH, ev_zr, ev]
  | a :: as => by
    rw [mulH, ev_zadd (mulH_eq hb a as), ev_append, ev_scl, ev_zr, ev, ev, ev_mulH hb x as, zr_len]
    grind
/-- rows of one length that are worth the same far out are one -/
theorem ext_ev : ∀ (n : Nat) {xs ys : List Int} (N : Int), xs.length = n → ys.length = n → (∀ x, N < x → ev xs x = ev ys x) → xs = ys
  | 0, xs, ys, _, hx, hy, _ => by rw [List.length_eq_zero_iff.mp hx, List.length_eq_zero_iff.mp hy]
  | n + 1, xs, ys, N, hx, hy, h => by
    rcases List.eq_nil_or_concat xs with rfl | ⟨as, a, rfl⟩
    · simp at hx
    rcases List.eq_nil_or_concat ys with rfl | ⟨bs, b, rfl⟩
    · simp at hy
    simp only [List.concat_eq_append] at *
    have hx' : as.length = n := by simpa using hx
    have hy' : bs.length = n := by simpa using hy
    have key : ∀ x, N < x → ev as x * x + a = ev bs x * x + b := fun x hx => by
      have := h x hx
      rwa [ev_snoc, ev_snoc] at this
    have ab : a = b := by
      have hk := key (N.natAbs + (b - a).natAbs + 1) (by omega)
      generalize hX : ((N.natAbs : Int) + (b - a).natAbs + 1) = X at hk
      have e : (ev as X - ev bs X) * X = b - a := by grind
      rcases Decidable.em (ev as X - ev bs X = 0) with z | z
      · rw [z] at e
        omega
      · have h1 : (b - a).natAbs = (ev as X - ev bs X).natAbs * X.natAbs := by rw [← e, Int.natAbs_mul]
        have h2 : 1 ≤ (ev as X - ev bs X).natAbs := by omega
        have h3 := Nat.mul_le_mul_right X.natAbs h2
        omega
    subst ab
    have : as = bs := ext_ev n (N.natAbs) hx' hy' fun x hx => by
      have hk := key x (by omega)
      have e : (ev as x - ev bs x) * x = 0 := by grind
      rcases Int.mul_eq_zero.mp e with z | z
      · omega
      · omega
    rw [this]
theorem ext_ev' {xs ys : List Int} (hl : xs.length = ys.length) (h : ∀ x, ev xs x = ev ys x) : xs = ys := ext_ev ys.length 0 hl rfl fun x _ => h x
/-! ### worths, step by step -/
def hor (x : Int) (t : Int) (l : List Int) : Int := l.foldl (fun t a => t * x + a) t
theorem hor_ev (x : Int) : ∀ (l : List Int) (t : Int), hor x t l = t * x ^ l.length + ev l x
  | [], t => by simp [hor, ev]
  | a :: l, t => by
    show hor x (t * x + a) l = _
    rw [hor_ev x l, ev, List.length_cons, Int.pow_succ]
    grind
/-! ### digits -/
def bal (b r : Int) : Int := if 2 * r > b then r - b else r
def digs (b : Int) : Nat → Int → List Int
  | 0, _ => []
  | n + 1, z => bal b (z % b) :: digs b n ((z - bal b (z % b)) / b)
theorem digs_len (b : Int) : ∀ (n : Nat) (z : Int), (digs b n z).length = n
  | 0, _ => rfl
  | n + 1, z => by simp [digs, digs_len b n]
theorem bal_of {b M c q : Int} (h : 2 * M < b) (h1 : -M ≤ c) (h2 : c ≤ M) : bal b ((q * b + c) % b) = c := by
  have hb : 0 < b := by omega
  have e : (q * b + c) % b = c % b := by rw [Int.add_comm, Int.add_mul_emod_self_right]
  rw [e, bal]
  rcases Int.lt_or_le c 0 with n | n
  · have : c % b = c + b := by
      rw [show c = (c + b) + (-1) * b by grind, Int.add_mul_emod_self_right]
      rw [Int.emod_eq_of_lt (by omega) (by omega)]
      grind
    rw [this, if_pos (by omega)]
    omega
  · rw [Int.emod_eq_of_lt n (by omega), if_neg (by omega)]
theorem digs_ev {b M : Int} (h : 2 * M < b) (h0 : 0 ≤ M) : ∀ (n : Nat) (l : List Int), l.length = n → (∀ c ∈ l, -M ≤ c ∧ c ≤ M) → digs b n (ev l b) = l.reverse
  | 0, l, hl, _ => by rw [List.length_eq_zero_iff.mp hl]; rfl
  | n + 1, l, hl, hc => by
    rcases List.eq_nil_or_concat l with rfl | ⟨as, a, rfl⟩
    · simp at hl
    simp only [List.concat_eq_append] at *
    have hl' : as.length = n := by simpa using hl
    obtain ⟨c1, c2⟩ := hc a (by simp)
    have e := bal_of (q := ev as b) h c1 c2
    rw [ev_snoc, digs, e, List.reverse_append, List.reverse_singleton, List.singleton_append]
    rw [show (ev as b * b + a - a) / b = ev as b by rw [Int.add_sub_cancel, Int.mul_ediv_cancel _ (by omega)]]
    rw [digs_ev h h0 n as hl' fun c m => hc c (by simp [m])]
/-! ### how great the numbers of a product are -/
theorem mem_zadd : ∀ {xs ys : List Int} {c : Int}, c ∈ zadd xs ys → ∃ a ∈ xs, ∃ b ∈ ys, c = a + b
  | [], _, c, h => by simp [zadd] at h
  | _ :: _, [], c, h => by simp [zadd] at h
  | a :: as, b :: bs, c, h => by
    rcases List.mem_cons.mp (show c ∈ (a + b) :: zadd as bs from h) with rfl | h
    · exact ⟨a, by simp, b, by simp, rfl⟩
    · obtain ⟨x, hx, y, hy, e⟩ := mem_zadd h
      exact ⟨x, by simp [hx], y, by simp [hy], e⟩
theorem mulH_le {bs : List Int} {A B : Nat} (hb : ∀ b ∈ bs, b.natAbs ≤ B) : ∀ (as : List Int), (∀ a ∈ as, a.natAbs ≤ A) → ∀ c ∈ mulH as bs, c.natAbs ≤ as.length * (A * B)
  | [], _, c, h => by
    have : c = 0 := (List.mem_replicate.mp h).2
    simp [this]
  | a :: as, ha, c, h => by
    obtain ⟨u, hu, v, hv, rfl⟩ := mem_zadd h
    have h1 : u.natAbs ≤ A * B := by
      rcases List.mem_append.mp hu with hu | hu
      · obtain ⟨b, hb', rfl⟩ := List.mem_map.mp hu
        rw [Int.natAbs_mul]
        exact Nat.mul_le_mul (ha a (by simp)) (hb b hb')
      · have : u = 0 := (List.mem_replicate.mp hu).2
        simp [this]
    have h2 : v.natAbs ≤ as.length * (A * B) := by
      rcases List.mem_cons.mp hv with rfl | hv
      · simp
      · exact mulH_le hb as (fun a m => ha a (by simp [m])) v hv
    rw [List.length_cons, Nat.add_mul]
    omega
/-! ### derived -/
def der : List Int → List Int
  | [] => []
  | [_] => []
  | a :: b :: as => a * ((as.length : Int) + 1) :: der (b :: as)
theorem der_len : ∀ l : List Int, (der l).length = l.length - 1
  | [] => rfl
  | [_] => rfl
  | a :: b :: as => by simp [der, der_len (b :: as)]
/-- the derivative's worth -/
def dv : List Int → Int → Int
  | [], _ => 0
  | a :: as, x => a * (as.length * x ^ (as.length - 1)) + dv as x
theorem ev_der (x : Int) : ∀ l : List Int, ev (der l) x = dv l x
  | [] => rfl
  | [a] => by simp [der, ev, dv]
  | a :: b :: as => by
    rw [der, ev, ev_der x (b :: as), der_len]
    show _ = a * (((b :: as).length : Int) * x ^ ((b :: as).length - 1)) + dv (b :: as) x
    simp only [List.length_cons, Nat.add_sub_cancel]
    rw [Int.natCast_add]
    grind
theorem dv_zr (n : Nat) (x : Int) : dv (zr n) x = 0 := by
  induction n with
  | zero => rfl
  | succ n ih => rw [zr, List.replicate_succ, dv]; show 0 * _ + dv (zr n) x = 0; rw [ih]; simp
theorem dv_scl (a : Int) (bs : List Int) (x : Int) : dv (scl a bs) x = a * dv bs x := by
  induction bs with
  | nil => simp [scl, dv]
  | cons b bs ih =>
    show dv (a * b :: scl a bs) x = _
    rw [dv, dv, ih, scl_len]
    grind
theorem dv_zadd : ∀ {xs ys : List Int}, xs.length = ys.length → ∀ x, dv (zadd xs ys) x = dv xs x + dv ys x
  | [], [], _, x => by simp [zadd, dv]
  | a :: as, b :: bs, h, x => by
    have h' : as.length = bs.length := by simpa using h
    show dv ((a + b) :: zadd as bs) x = _
    rw [dv, dv, dv, dv_zadd h' x, zadd_len h', h']
    grind
theorem pw_add (x : Int) (i j : Nat) : ((i + j : Nat) : Int) * x ^ (i + j - 1) = (i * x ^ (i - 1)) * x ^ j + x ^ i * (j * x ^ (j - 1)) := by
  rcases i with _ | i
  · simp
  · rcases j with _ | j
    · simp
    · rw [show i + 1 + (j + 1) - 1 = i + (j + 1) by omega, show i + 1 - 1 = i from rfl, show j + 1 - 1 = j from rfl, Int.pow_add, Int.pow_succ x j, Int.pow_succ x i]
      simp only [Int.natCast_add, Int.natCast_one]
      grind
theorem dv_append (as bs : List Int) (x : Int) : dv (as ++ bs) x = dv as x * x ^ bs.length + ev as x * (bs.length * x ^ (bs.length - 1)) + dv bs x := by
  induction as with
  | nil => simp [ev, dv]
  | cons a as ih =>
    rw [List.cons_append, dv, dv, ev, ih, List.length_append, pw_add]
    grind
theorem dv_mulH {bs : List Int} (hb : bs ≠ []) (x : Int) : ∀ as : List Int, dv (mulH as bs) x = dv as x * ev bs x + ev as x * dv bs x
  | [] => by simp [mulH, dv_zr, dv, ev]
  | a :: as => by
    rw [mulH, dv_zadd (mulH_eq hb a as), dv_append, dv_scl, dv_zr, ev_scl, dv, dv, ev, dv_mulH hb x as, zr_len]
    grind
/-- the rule of products -/
theorem der_mulH {as bs : List Int} (ha : 2 ≤ as.length) (hb : 2 ≤ bs.length) : zadd (mulH (der as) bs) (mulH as (der bs)) = der (mulH as bs) := by
  have nb : bs ≠ [] := fun z => by simp [z] at hb
  have nd : der bs ≠ [] := fun z => by have := der_len bs; rw [z] at this; simp at this; omega
  have e : (mulH (der as) bs).length = (mulH as (der bs)).length := by rw [mulH_len nb, mulH_len nd, der_len, der_len]; omega
  refine ext_ev' ?_ fun x => ?_
  · rw [zadd_len e, mulH_len nb, der_len, der_len, mulH_len nb]; omega
  · rw [ev_zadd e, ev_mulH nb, ev_mulH nd, ev_der, ev_der, ev_der, dv_mulH nb]
/-! ### a row added from a place on -/
def addR (l : List Int) (o : Nat) (s : Int) (b : List Int) : List Int := zadd l (zr o ++ (scl s b ++ zr (l.length - o - b.length)))
theorem addR_eq {l b : List Int} {o : Nat} (h : o + b.length ≤ l.length) (s : Int) : l.length = (zr o ++ (scl s b ++ zr (l.length - o - b.length))).length := by
  simp [zr_len, scl_len]; omega
theorem addR_len {l b : List Int} {o : Nat} (h : o + b.length ≤ l.length) (s : Int) : (addR l o s b).length = l.length := zadd_len (addR_eq h s)
theorem ev_addR {l b : List Int} {o : Nat} (h : o + b.length ≤ l.length) (s x : Int) : ev (addR l o s b) x = ev l x + s * ev b x * x ^ (l.length - o - b.length) := by
  rw [addR, ev_zadd (addR_eq h s), ev_append, ev_append, ev_zr, ev_zr, ev_scl, zr_len]
  grind
theorem zadd_get {xs ys : List Int} {k : Nat} (h1 : k < xs.length) (h2 : k < ys.length) : (zadd xs ys)[k]? = some (xs[k] + ys[k]) := by
  simp [zadd, List.getElem?_zipWith, h1, h2]
theorem addR_get {l b : List Int} {o : Nat} (h : o + b.length ≤ l.length) (s : Int) {k : Nat} (hk : k < l.length) : (addR l o s b)[k]? = some (l.getD k 0 + if o ≤ k ∧ k < o + b.length then s * b.getD (k - o) 0 else 0) := by
  have e := addR_eq h s
  rw [addR, zadd_get hk (by rw [← e]; exact hk)]
  have g : l.getD k 0 = l[k] := by simp [hk]
  rw [g]
  congr 2
  by_cases c1 : o ≤ k
  · by_cases c2 : k < o + b.length
    · rw [if_pos ⟨c1, c2⟩, List.getElem_append_right (by simpa [zr_len] using c1), List.getElem_append_left (by simp [zr_len, scl_len]; omega)]
      simp only [scl, List.getElem_map, zr_len]
      congr 1
      have : k - o < b.length := by omega
      simp [this]
    · rw [if_neg (fun z => c2 z.2), List.getElem_append_right (by simpa [zr_len] using c1), List.getElem_append_right (by simp [zr_len, scl_len]; omega)]
      simp [zr]
  · rw [if_neg (fun z => c1 z.1), List.getElem_append_left (by simp [zr_len]; omega)]
    simp [zr]
theorem addR_nil (l : List Int) (o : Nat) (s : Int) (h : o ≤ l.length) : addR l o s [] = l := by
  refine List.ext_getElem? fun k => ?_
  by_cases hk : k < l.length
  · rw [addR_get (by simpa using h) s hk]
    simp [hk]
  · rw [List.getElem?_eq_none (by rw [addR_len (by simpa using h)]; omega), List.getElem?_eq_none (by omega)]
theorem addR_step {l b : List Int} {o j : Nat} (h : o + b.length ≤ l.length) (hj : j < b.length) (s v : Int) (hv : v = (addR l o s (b.take j)).getD (o + j) 0 + s * b.getD j 0) : (addR l o s (b.take j)).set (o + j) v = addR l o s (b.take (j + 1)) := by
  have l1 : o + (b.take j).length ≤ l.length := by simp; omega
  have l2 : o + (b.take (j + 1)).length ≤ l.length := by simp; omega
  have old : (addR l o s (b.take j)).getD (o + j) 0 = l.getD (o + j) 0 := by
    rw [List.getD_eq_getElem?_getD, addR_get l1 s (by omega), if_neg (by simp; omega)]
    simp
  refine List.ext_getElem? fun k => ?_
  by_cases hk : k < l.length
  · rw [addR_get l2 s hk, List.getElem?_set]
    by_cases c : o + j = k
    · subst c
      rw [if_pos rfl, if_pos (by rw [addR_len l1]; exact hk), hv, old, if_pos (by simp; omega)]
      have : (b.take (j + 1)).getD (o + j - o) 0 = b.getD j 0 := by
        rw [show o + j - o = j by omega, List.getD_eq_getElem?_getD, List.getElem?_take_of_lt (by omega), List.getD_eq_getElem?_getD]
      rw [this]
    · rw [if_neg c, addR_get l1 s hk]
      congr 2
      have same : o ≤ k → k < o + j → (b.take j).getD (k - o) 0 = (b.take (j + 1)).getD (k - o) 0 := fun q0 q => by
        have z : k - o < j := by omega
        rw [List.getD_eq_getElem?_getD, List.getElem?_take_of_lt z, List.getD_eq_getElem?_getD, List.getElem?_take_of_lt (by omega)]
      have m1 : min j b.length = j := by omega
      have m2 : min (j + 1) b.length = j + 1 := by omega
      simp only [List.length_take, m1, m2]
      by_cases q : o ≤ k ∧ k < o + j
      · rw [if_pos q, if_pos ⟨q.1, by omega⟩, same q.1 q.2]
      · rw [if_neg q, if_neg (by omega)]
  · rw [List.getElem?_eq_none (by rw [List.length_set, addR_len l1]; omega), List.getElem?_eq_none (by rw [addR_len l2]; omega)]
/-! ### quotients -/
theorem ev_take {l : List Int} {j : Nat} (h : j < l.length) (x : Int) : ev (l.take (j + 1)) x = ev (l.take j) x * x + l.getD j 0 := by
  have : l.take (j + 1) = l.take j ++ [l.getD j 0] := by
    rw [List.take_add_one]
    simp [h]
  rw [this, ev_snoc]
theorem mulH_head {b : Int} {bs : List Int} (a : Int) (as : List Int) : (mulH (a :: as) (b :: bs)).headD 0 = a * b := by
  simp [mulH, zadd, scl]
theorem zr_append (i j : Nat) : zr i ++ zr j = zr (i + j) := by simp [zr]
theorem div_get {b : Int} {bs : List Int} {Q : List Int} {i : Nat} (hi : i < Q.length) : (zr i ++ mulH (Q.drop i) (b :: bs))[i]? = some (Q.getD i 0 * b) := by
  rw [List.getElem?_append_right (by simp [zr_len]), zr_len, Nat.sub_self, List.drop_eq_getElem_cons hi]
  have g : Q.getD i 0 = Q[i] := by simp [hi]
  rw [g, ← mulH_head (bs := bs) Q[i] (Q.drop (i + 1))]
  have : (mulH (Q[i] :: Q.drop (i + 1)) (b :: bs)) ≠ [] := fun z => by
    have := mulH_len (bs := b :: bs) (by simp) (Q[i] :: Q.drop (i + 1))
    rw [z] at this
    simp at this
    omega
  obtain ⟨c, cs, e⟩ := List.exists_cons_of_ne_nil this
  rw [e]
  rfl
theorem div_step {b : Int} {bs : List Int} {Q : List Int} {i : Nat} (hi : i < Q.length) : addR (zr i ++ mulH (Q.drop i) (b :: bs)) i (-(Q.getD i 0)) (b :: bs) = zr (i + 1) ++ mulH (Q.drop (i + 1)) (b :: bs) := by
  have ne : b :: bs ≠ [] := by simp
  have dl : (Q.drop i).length = Q.length - i := List.length_drop
  have dl' : (Q.drop (i + 1)).length = Q.length - (i + 1) := List.length_drop
  have l0 : (zr i ++ mulH (Q.drop i) (b :: bs)).length = Q.length + bs.length := by
    rw [List.length_append, zr_len, mulH_len ne, dl, List.length_cons]; omega
  have fit : i + (b :: bs).length ≤ (zr i ++ mulH (Q.drop i) (b :: bs)).length := by rw [l0, List.length_cons]; omega
  refine ext_ev' ?_ fun x => ?_
  · rw [addR_len fit, l0, List.length_append, zr_len, mulH_len ne, dl', List.length_cons]; omega
  · rw [ev_addR fit, ev_append, ev_append, ev_zr, ev_zr, ev_mulH ne, ev_mulH ne, l0, List.drop_eq_getElem_cons hi, ev, dl']
    have g : Q.getD i 0 = Q[i] := by simp [hi]
    rw [g, show Q.length + bs.length - i - (b :: bs).length = Q.length - (i + 1) by rw [List.length_cons]; omega]
    grind
/-! ### one number changed -/
theorem ev_set {l : List Int} {i : Nat} (h : i < l.length) (s x : Int) : ev (l.set i (l.getD i 0 + s)) x = ev l x + s * x ^ (l.length - 1 - i) := by
  have g : l.getD i 0 = l[i] := by simp [h]
  have e1 : l.set i (l.getD i 0 + s) = l.take i ++ (l[i] + s) :: l.drop (i + 1) := by rw [g, List.set_eq_take_append_cons_drop, if_pos h]
  have e2 : l = l.take i ++ l[i] :: l.drop (i + 1) := by rw [← List.drop_eq_getElem_cons h, List.take_append_drop]
  have dl : (l.drop (i + 1)).length = l.length - 1 - i := by rw [List.length_drop]; omega
  rw [e1]
  conv => rhs; rw [e2]
  rw [ev_append, ev_append, ev, ev, dl]
  simp only [List.length_append, List.length_cons, List.length_take, List.length_drop]
  rw [show min i l.length + (l.length - (i + 1) + 1) - 1 - i = l.length - 1 - i by omega]
  grind
theorem strip : ∀ (n : Nat) (l : List Int), l.length = n → (∀ x, ev l x = 0) ∨ ∃ l' a k, l = (l' ++ [a]) ++ zr k ∧ a ≠ 0
  | 0, l, h => .inl fun x => by rw [List.length_eq_zero_iff.mp h]; rfl
  | n + 1, l, h => by
    rcases List.eq_nil_or_concat l with rfl | ⟨as, a, rfl⟩
    · simp at h
    simp only [List.concat_eq_append] at *
    by_cases z : a = 0
    · subst z
      rcases strip n as (by simpa using h) with q | ⟨l', b, k, rfl, hb⟩
      · exact .inl fun x => by rw [ev_snoc, q x]; simp
      · refine .inr ⟨l', b, k + 1, ?_, hb⟩
        rw [List.append_assoc, show zr k ++ [0] = zr (k + 1) from (zr_append k 1)]
    · exact .inr ⟨as, a, 0, by simp [zr], z⟩
theorem ev_low (l : List Int) (a x : Int) : ∃ y, ev (l ++ [a]) x = x * y + a := ⟨ev l x, by rw [ev_snoc]; grind⟩
theorem mono {d o : List Int} {s : Int} {p : Nat} (hs : s = 1 ∨ s = -1) (ho : 0 < o.headD 0) (h : ∀ x, ev d x * ev o x = s * x ^ p) : o = 1 :: zr (o.length - 1) ∧ o.length - 1 ≤ p := by
  have one := h 1
  rw [Int.one_pow] at one
  rcases strip _ d rfl with q | ⟨d', b, k, ed, hb⟩
  · rw [q] at one
    omega
  rcases strip _ o rfl with q | ⟨o', a, l, eo, ha⟩
  · rw [q] at one
    omega
  have hh : ∀ x, (ev (d' ++ [b]) x * ev (o' ++ [a]) x) * x ^ (k + l) = s * x ^ p := fun x => by
    rw [← h x, ed, eo, ev_append _ (zr k), ev_append _ (zr l), ev_zr, ev_zr, zr_len, zr_len, Int.pow_add]
    grind
  have le : k + l ≤ p := by
    rcases Nat.lt_or_ge p (k + l) with c | c
    · obtain ⟨j, hj⟩ : ∃ j, k + l = p + (j + 1) := ⟨k + l - p - 1, by omega⟩
      have h3 := hh 2
      rw [hj, Int.pow_add, Int.pow_succ] at h3
      have np : (2 : Int) ^ p ≠ 0 := by have := Int.pow_pos (n := 2) (m := p) (by omega); omega
      have e : (ev (d' ++ [b]) 2 * ev (o' ++ [a]) 2 * 2 ^ j * 2) * 2 ^ p = s * 2 ^ p := by rw [← h3]; grind
      have := Int.eq_of_mul_eq_mul_right np e
      omega
    · exact c
  obtain ⟨r, rfl⟩ : ∃ r, p = k + l + r := ⟨p - (k + l), by omega⟩
  have hr : ∀ x, 0 < x → ev (d' ++ [b]) x * ev (o' ++ [a]) x = s * x ^ r := fun x hx => by
    have np : x ^ (k + l) ≠ 0 := by have := Int.pow_pos (n := x) (m := k + l) hx; omega
    refine Int.eq_of_mul_eq_mul_right np ?_
    rw [hh x, Int.pow_add]
    grind
  have r0 : r = 0 := by
    rcases r with _ | r
    · rfl
    · exfalso
      have nz : b * a ≠ 0 := Int.mul_ne_zero hb ha
      generalize hX : ((b * a).natAbs : Int) + 1 = X
      have hx := hr X (by omega)
      obtain ⟨y1, e1⟩ := ev_low d' b X
      obtain ⟨y2, e2⟩ := ev_low o' a X
      rw [e1, e2, Int.pow_succ] at hx
      have : b * a = X * (s * X ^ r - (X * y1 * y2 + y1 * a + b * y2)) := by grind
      have hd : X ∣ b * a := ⟨_, this⟩
      have := Int.natAbs_dvd_natAbs.mpr hd
      have := Nat.le_of_dvd (by omega) this
      omega
  subst r0
  have sq : ∀ x, 0 < x → ev (o' ++ [a]) x * ev (o' ++ [a]) x = 1 := fun x hx => by
    have e := hr x hx
    rw [Int.pow_zero, Int.mul_one] at e
    have u : (ev (o' ++ [a]) x).natAbs = 1 := by
      have : (ev (d' ++ [b]) x).natAbs * (ev (o' ++ [a]) x).natAbs = 1 := by rw [← Int.natAbs_mul, e]; omega
      exact Nat.eq_one_of_mul_eq_one_left this
    rcases Int.natAbs_eq (ev (o' ++ [a]) x) with z | z <;> rw [u] at z <;> rw [z] <;> decide
  have ne : o' ++ [a] ≠ [] := by simp
  have e : mulH (o' ++ [a]) (o' ++ [a]) = zr ((mulH (o' ++ [a]) (o' ++ [a])).length - 1) ++ [1] := by
    have l0 := mulH_len ne (o' ++ [a])
    simp only [List.length_append, List.length_singleton] at l0
    refine ext_ev _ 0 rfl (by rw [List.length_append, zr_len]; simp; omega) fun x hx => ?_
    rw [ev_mulH ne, sq x hx, ev_snoc, ev_zr]
    simp
  obtain ⟨c, cs, ec⟩ := List.exists_cons_of_ne_nil ne
  have hc : 0 < c := by
    rw [eo, ec] at ho
    simpa using ho
  rw [ec] at e
  have hd := mulH_head (b := c) (bs := cs) c cs
  have pos : 0 < c * c := Int.mul_pos hc hc
  rw [e] at hd
  have l0 := mulH_len (bs := c :: cs) (by simp) (c :: cs)
  rcases hcs : cs with _ | ⟨c2, cs2⟩
  · subst hcs
    simp [mulH, zadd, scl, zr] at hd
    have c1 : c = 1 := by
      rcases Int.lt_or_le c 2 with z | z
      · omega
      · have := Int.mul_le_mul z z (by omega) (by omega)
        omega
    subst c1
    rw [eo, ec]
    exact ⟨by simp [zr_len], by simp [zr_len] <;> omega⟩
  · exfalso
    subst hcs
    rw [l0] at hd
    simp only [List.length_cons] at hd
    rw [show cs2.length + 1 + 1 + (cs2.length + 1 + 1) - 1 - 1 = (cs2.length + cs2.length + 1) + 1 by omega] at hd
    simp [zr, List.replicate_succ] at hd
    omega
/-- the quotient of a product of which one number is changed -/
theorem changed {one other Q : List Int} {power : Nat} {s : Int} (hs : s = 1 ∨ s = -1) (h1 : one ≠ []) (ho : 0 < other.headD 0) (hl : Q.length = one.length) (hp : power < one.length + other.length - 1)
    (h : ∀ x, ev one x * ev other x + s * x ^ power = ev Q x * ev other x) :
    other = 1 :: zr (other.length - 1) ∧ other.length - 1 ≤ power ∧ Q = one.set (one.length - 1 - (power - (other.length - 1))) (one.getD (one.length - 1 - (power - (other.length - 1))) 0 + s) := by
  have e : Q.length = (scl (-1) one).length := by rw [scl_len, hl]
  obtain ⟨a, b⟩ := mono (d := zadd Q (scl (-1) one)) (p := power) hs ho fun x => by
    rw [ev_zadd e, ev_scl]
    have := h x
    grind
  refine ⟨a, b, ?_⟩
  have hn : 0 < one.length := List.length_pos_iff.mpr h1
  have hi : one.length - 1 - (power - (other.length - 1)) < one.length := by omega
  refine ext_ev _ 0 hl (by simp) fun x hx => ?_
  rw [ev_set hi]
  have eo : ev other x = x ^ (other.length - 1) := by
    conv => lhs; rw [a]
    rw [ev, ev_zr, zr_len]
    simp
  have hx' := h x
  rw [eo] at hx'
  have np : x ^ (other.length - 1) ≠ 0 := by have := Int.pow_pos (n := x) (m := other.length - 1) hx; omega
  refine Int.eq_of_mul_eq_mul_right np ?_
  rw [← hx']
  rw [show one.length - 1 - (one.length - 1 - (power - (other.length - 1))) = power - (other.length - 1) by omega, Int.add_mul, Int.mul_assoc, ← Int.pow_add, show power - (other.length - 1) + (other.length - 1) = power by omega]
/-! ### u + v root c -/
abbrev P2 := Int × Int
def rm (u : Int) (a b : P2) : P2 := (a.1 * b.1 + a.2 * b.2 * u, a.1 * b.2 + a.2 * b.1)
def ra (a b : P2) : P2 := (a.1 + b.1, a.2 + b.2)
def rs (n : Int) (a : P2) : P2 := (n * a.1, n * a.2)
def rp (u : Int) (z : P2) : Nat → P2
  | 0 => (1, 0)
  | n + 1 => rm u (rp u z n) z
def eR (u : Int) (z : P2) : List Int → P2
  | [] => (0, 0)
  | a :: as => ra (rs a (rp u z as.length)) (eR u z as)
theorem p2 {a b : P2} (h1 : a.1 = b.1) (h2 : a.2 = b.2) : a = b := Prod.ext h1 h2
section
variable (u : Int) (z : P2)
theorem rp_add (i : Nat) : ∀ j, rp u z (i + j) = rm u (rp u z i) (rp u z j)
  | 0 => by simp [rp, rm]
  | j + 1 => by
    rw [← Nat.add_assoc, rp, rp_add i j, rp]
    apply p2 <;> simp only [rm] <;> grind
theorem eR_append (as bs : List Int) : eR u z (as ++ bs) = ra (rm u (eR u z as) (rp u z bs.length)) (eR u z bs) := by
  induction as with
  | nil => simp [eR, rm, ra]
  | cons a as ih =>
    rw [List.cons_append, eR, eR, ih, List.length_append, rp_add]
    apply p2 <;> simp only [rm, ra, rs] <;> grind
theorem eR_zr (n : Nat) : eR u z (zr n) = (0, 0) := by
  induction n with
  | zero => rfl
  | succ n ih =>
    rw [zr, List.replicate_succ, eR]
    show ra _ (eR u z (zr n)) = _
    rw [ih]
    simp [ra, rs]
theorem eR_scl (a : Int) (bs : List Int) : eR u z (scl a bs) = rs a (eR u z bs) := by
  induction bs with
  | nil => simp [scl, eR, rs]
  | cons b bs ih =>
    show eR u z (a * b :: scl a bs) = _
    rw [eR, eR, ih, scl_len]
    apply p2 <;> simp only [ra, rs] <;> grind
theorem eR_zadd : ∀ {xs ys : List Int}, xs.length = ys.length → eR u z (zadd xs ys) = ra (eR u z xs) (eR u z ys)
  | [], [], _ => by simp [zadd, eR, ra]
  | a :: as, b :: bs, h => by
    have h' : as.length = bs.length := by simpa using h
    show eR u z ((a + b) :: zadd as bs) = _
    rw [eR, eR, eR, eR_zadd h', zadd_len h', h']
    apply p2 <;> simp only [ra, rs] <;> grind
theorem eR_mulH {bs : List Int} (hb : bs ≠ []) : ∀ as : List Int, eR u z (mulH as bs) = rm u (eR u z as) (eR u z bs)
  | [] => by simp [mulH, eR_zr, eR, rm]
  | a :: as => by
    rw [mulH, eR_zadd u z (mulH_eq hb a as), eR_append, eR_scl, eR_zr, eR, eR, eR_mulH hb as, zr_len]
    apply p2 <;> simp only [rm, ra, rs] <;> grind
/-- the numbers up to the one at j, worked out at z -/
def Hn (c : Nat → P2) : Nat → P2
  | 0 => c 0
  | j + 1 => ra (rm u (Hn c j) z) (c (j + 1))
theorem Hn_congr {c d : Nat → P2} : ∀ j, (∀ k ≤ j, c k = d k) → Hn u z c j = Hn u z d j
  | 0, h => h 0 (Nat.le_refl _)
  | j + 1, h => by rw [Hn, Hn, Hn_congr j fun k hk => h k (by omega), h (j + 1) (Nat.le_refl _)]
theorem Hn_eR (p : List Int) : ∀ j, j < p.length → Hn u z (fun k => (p.getD k 0, 0)) j = eR u z (p.take (j + 1))
  | 0, h => by
    rw [List.take_one]
    rcases p with _ | ⟨a, p⟩
    · simp at h
    · simp [Hn, eR, ra, rs, rp]
  | j + 1, h => by
    have e : p.take (j + 1 + 1) = p.take (j + 1) ++ [p.getD (j + 1) 0] := by
      rw [List.take_add_one (l := p) (i := j + 1)]
      simp [h]
    rw [Hn, Hn_eR p j (by omega), e, eR_append]
    apply p2 <;> simp [rm, ra, rs, eR, rp]
end
/-- each number with t times the new one ahead of it -/
def sc (u : Int) (t : P2) (c : Nat → P2) : Nat → P2
  | 0 => c 0
  | k + 1 => ra (c (k + 1)) (rm u t (sc u t c k))
theorem Hn_sc (u : Int) (t : P2) (y : Int) (c : Nat → P2) : ∀ j, Hn u (ra (y, 0) t) c (j + 1) = ra (rs y (Hn u (ra (y, 0) t) (sc u t c) j)) (sc u t c (j + 1))
  | 0 => by
    simp only [Hn, sc]
    apply p2 <;> simp only [rm, ra, rs] <;> grind
  | j + 1 => by
    rw [Hn, Hn_sc u t y c j, Hn]
    rw [show sc u t c (j + 1 + 1) = ra (c (j + 1 + 1)) (rm u t (sc u t c (j + 1))) from rfl]
    apply p2 <;> simp only [rm, ra, rs] <;> grind
/-- the numbers worked out at an integer -/
def En (y : Int) (c : Nat → P2) : Nat → P2
  | 0 => (0, 0)
  | m + 1 => ra (rs y (En y c m)) (c m)
theorem En_congr (y : Int) {c d : Nat → P2} : ∀ m, (∀ k < m, c k = d k) → En y c m = En y d m
  | 0, _ => rfl
  | m + 1, h => by rw [En, En, En_congr y m fun k hk => h k (by omega), h m (by omega)]
theorem En_cons (y : Int) (c : Nat → P2) : ∀ m, En y c (m + 1) = ra (rs (y ^ m) (c 0)) (En y (fun k => c (k + 1)) m)
  | 0 => by apply p2 <;> simp [En, ra, rs]
  | m + 1 => by
    rw [En, En_cons y c m, En, Int.pow_succ]
    apply p2 <;> simp only [ra, rs] <;> grind
def Shd (u : Int) (t : P2) (n : Nat) (P : Int → P2) (e : Nat) (c : Nat → P2) : Prop := ∀ y, P y = ra (rs (y ^ (n - e)) (Hn u (ra (y, 0) t) c e)) (En y (fun k => c (e + 1 + k)) (n - e))
theorem Shd.first (u : Int) (t : P2) {p : List Int} {n : Nat} (h : p.length = n + 1) : Shd u t n (fun y => eR u (ra (y, 0) t) p) n (fun k => (p.getD k 0, 0)) := fun y => by
  rw [Nat.sub_self, Hn_eR u _ p n (by omega), List.take_of_length_le (by omega)]
  apply p2 <;> simp [ra, rs, En]
theorem Shd.step {u : Int} {t : P2} {n e : Nat} {P : Int → P2} {c : Nat → P2} (he : e + 1 ≤ n) (h : Shd u t n P (e + 1) c) : Shd u t n P e (fun k => if k ≤ e + 1 then sc u t c k else c k) := fun y => by
  rw [h y, Hn_sc, show n - e = (n - (e + 1)) + 1 by omega, En_cons, Int.pow_succ]
  have e1 : Hn u (ra (y, 0) t) (fun k => if k ≤ e + 1 then sc u t c k else c k) e = Hn u (ra (y, 0) t) (sc u t c) e := Hn_congr _ _ e fun k hk => if_pos (by omega)
  have e2 : En y (fun k => (fun k => (fun k => if k ≤ e + 1 then sc u t c k else c k) (e + 1 + k)) (k + 1)) (n - (e + 1)) = En y (fun k => c (e + 1 + 1 + k)) (n - (e + 1)) := En_congr y _ fun k _ => by
    show (if e + 1 + (k + 1) ≤ e + 1 then _ else _) = _
    rw [if_neg (by omega), show e + 1 + (k + 1) = e + 1 + 1 + k by omega]
  rw [e1, e2]
  show _ = ra _ (ra (rs _ (if e + 1 + 0 ≤ e + 1 then _ else _)) _)
  rw [if_pos (by omega), Nat.add_zero]
  apply p2 <;> simp only [ra, rs] <;> grind
theorem Shd.last {u : Int} {t : P2} {n : Nat} {P : Int → P2} {c : Nat → P2} (h : Shd u t n P 0 c) (y : Int) : P y = En y c (n + 1) := by
  rw [h y, En_cons]
  simp only [Nat.sub_zero, Hn, Nat.zero_add]
  congr 2
  funext k
  rw [Nat.add_comm]
theorem En_ev (y : Int) (c : Nat → P2) : ∀ m, (En y c m).1 = ev ((List.range m).map fun k => (c k).1) y ∧ (En y c m).2 = ev ((List.range m).map fun k => (c k).2) y
  | 0 => ⟨rfl, rfl⟩
  | m + 1 => by
    obtain ⟨a, b⟩ := En_ev y c m
    rw [List.range_succ, List.map_append, List.map_append, List.map_singleton, List.map_singleton, ev_snoc, ev_snoc, ← a, ← b, En]
    exact ⟨by simp only [ra, rs]; grind, by simp only [ra, rs]; grind⟩
theorem En_ext {c d : Nat → P2} {m : Nat} (h : ∀ y, En y c m = En y d m) {k : Nat} (hk : k < m) : c k = d k := by
  have a : ((List.range m).map fun k => (c k).1) = (List.range m).map fun k => (d k).1 := ext_ev' (by simp) fun y => by rw [← (En_ev y c m).1, h y, (En_ev y d m).1]
  have b : ((List.range m).map fun k => (c k).2) = (List.range m).map fun k => (d k).2 := ext_ev' (by simp) fun y => by rw [← (En_ev y c m).2, h y, (En_ev y d m).2]
  have a' := congrArg (fun l : List Int => l[k]?) a
  have b' := congrArg (fun l : List Int => l[k]?) b
  simp [hk] at a' b'
  exact p2 a' b'
theorem En_add (y : Int) (c d : Nat → P2) : ∀ m, En y (fun k => ra (c k) (d k)) m = ra (En y c m) (En y d m)
  | 0 => rfl
  | m + 1 => by
    rw [En, En_add y c d m, En, En]
    apply p2 <;> simp only [ra, rs] <;> grind
/-- a row of products from a place on -/
def rowD (u : Int) (i : Nat) (a : P2) (B : Nat → P2) (m : Nat) (k : Nat) : P2 := if i ≤ k ∧ k < i + m then rm u a (B (k - i)) else (0, 0)
theorem En_row0 (u y : Int) (i : Nat) (a : P2) (B : Nat → P2) (m : Nat) : ∀ L, L ≤ i → En y (rowD u i a B m) L = (0, 0)
  | 0, _ => rfl
  | L + 1, h => by
    rw [En, En_row0 u y i a B m L (by omega), rowD, if_neg (by omega)]
    simp [ra, rs]
theorem En_row1 (u y : Int) (i : Nat) (a : P2) (B : Nat → P2) (m : Nat) : ∀ q, q ≤ m → En y (rowD u i a B m) (i + q) = rm u a (En y B q)
  | 0, _ => by rw [Nat.add_zero, En_row0 u y i a B m i (Nat.le_refl _)]; simp [En, rm]
  | q + 1, h => by
    rw [← Nat.add_assoc, En, En_row1 u y i a B m q (by omega), rowD, if_pos (by omega), Nat.add_sub_cancel_left, En]
    apply p2 <;> simp only [ra, rs, rm] <;> grind
theorem En_row2 (u y : Int) (i : Nat) (a : P2) (B : Nat → P2) (m : Nat) : ∀ r, En y (rowD u i a B m) (i + m + r) = rs (y ^ r) (rm u a (En y B m))
  | 0 => by rw [Nat.add_zero, En_row1 u y i a B m m (Nat.le_refl _)]; simp [rs]
  | r + 1 => by
    rw [← Nat.add_assoc, En, En_row2 u y i a B m r, rowD, if_neg (by omega), Int.pow_succ]
    apply p2 <;> simp only [ra, rs] <;> grind
/-- the product of two rows, row by row -/
def Fn (u : Int) (A B : Nat → P2) (m : Nat) : Nat → Nat → P2
  | 0, _ => (0, 0)
  | i + 1, k => ra (Fn u A B m i k) (rowD u i (A i) B m k)
theorem En_zero (y : Int) : ∀ L, En y (fun _ => ((0 : Int), (0 : Int))) L = (0, 0)
  | 0 => rfl
  | L + 1 => by rw [En, En_zero y L]; simp [ra, rs]
theorem En_Fn (u y : Int) (A B : Nat → P2) (m n : Nat) (hm : 1 ≤ m) (hn : 1 ≤ n) : ∀ i, i ≤ n → En y (Fn u A B m i) (n + m - 1) = rs (y ^ (n - i)) (rm u (En y A i) (En y B m))
  | 0, _ => by
    show En y (fun _ => ((0 : Int), (0 : Int))) _ = _
    rw [En_zero]
    simp [En, rm, rs]
  | i + 1, h => by
    show En y (fun k => ra (Fn u A B m i k) (rowD u i (A i) B m k)) _ = _
    rw [En_add, En_Fn u y A B m n hm hn i (by omega)]
    have e := En_row2 u y i (A i) B m (n - (i + 1))
    rw [show i + m + (n - (i + 1)) = n + m - 1 by omega] at e
    rw [e, En, show n - i = (n - (i + 1)) + 1 by omega, Int.pow_succ]
    apply p2 <;> simp only [ra, rs, rm] <;> grind
/-- the numbers of a shifted product are those of the product -/
theorem shift_prod {u : Int} {t : P2} {one other : List Int} (h1 : one ≠ []) (h2 : other ≠ []) {A B C : Nat → P2} (hA : ∀ y, eR u (ra (y, 0) t) one = En y A one.length) (hB : ∀ y, eR u (ra (y, 0) t) other = En y B other.length)
    (hC : ∀ y, eR u (ra (y, 0) t) (mulH one other) = En y C (one.length + other.length - 1)) {k : Nat} (hk : k < one.length + other.length - 1) : Fn u A B other.length one.length k = C k := by
  have l1 : 0 < one.length := List.length_pos_iff.mpr h1
  have l2 : 0 < other.length := List.length_pos_iff.mpr h2
  refine En_ext (m := one.length + other.length - 1) (fun y => ?_) hk
  rw [En_Fn u y A B other.length one.length l2 l1 one.length (Nat.le_refl _), ← hC, eR_mulH u _ h2, hA, hB, Nat.sub_self]
  simp [rs]
end GM
/-! Own rules: == and != by an own __eq__, str by an own __str__, a staticmethod of a class. -/
namespace GS
open PySem PySem.Spec PyProof.Rows L2
section
variable {X : Cx}
theorem notImpl_no {v : V} (h : RelV v Value.notImplemented) : False := by
  cases v with
  | non => cases (show Value.notImplemented = Value.none from h)
  | bl b => cases (show Value.notImplemented = Value.bool b from h)
  | int i => obtain ⟨t, q⟩ := (show ∃ t, Value.notImplemented = Value.int i t from h); cases q
  | str i => obtain ⟨t, q⟩ := (show ∃ t, Value.notImplemented = Value.str i t from h); cases q
  | byt i => obtain ⟨t, q⟩ := (show ∃ t, Value.notImplemented = Value.bytes i t from h); cases q
  | flt i => obtain ⟨t, q⟩ := (show ∃ t, Value.notImplemented = Value.float i t from h); cases q
  | ref a => cases (show Value.notImplemented = Value.ref a from h)
  | ty n => cases (show Value.notImplemented = Value.type n from h)
/-- what a call of the def gives, from any place below the body -/
theorem run_at {CX : CXT} {k : Nat} {f : Addr} {fd : FuncData} {ps : List Str} {sp : Sp} {E : XK} {pins : List (Addr × Obj)} {σ : L2.St} {H : Hp} {s : Shared} {Q : VK} {us : List Value} {vs : List V} {A : Around}
    (F : FnOk X.prog X.w X.K X.mg X.base CX k f fd ps sp) (hr : Room k A) (hA : A.frames = X.A.frames) (hb : Binds X.K fd ps []) (hx : Passes CX X E) (I : Inv X pins σ H s) (r : Vals vs us) (hsp : sp vs H Q E) :
    wpAny (model X.prog X.w) A (call (.ref f) us) (EP X pins σ Q) X.xe s := by
  have e0 : Env0 X.prog X.w X.K X.mg X.base A X.stack s H := by
    have e := I.env0
    exact ⟨by rw [hA]; exact e.frames, e.mod, e.bs, e.bsz, e.funs, e.frf, e.hok, e.bare⟩
  have hl := F.len _ _ _ _ hsp
  refine wpAny_call (codeAny_mono (F.run A X.stack s H ⟨us, []⟩ us vs _ E hr e0 (by
    have := hb s us I.kIn (by rw [List.append_nil, ← r.length]; exact hl)
    simpa using this) r hsp) fun r s' hq => ?_)
  cases r with
  | error e => exact hx pins σ H s e s' I hq
  | ok fl =>
    cases fl with
    | ret w => exact I.after hq
    | next => exact False.elim hq
    | brk => exact False.elim hq
    | cont => exact False.elim hq
/-- x == y by the own __eq__ of x's class; y of any kind -/
def rEqOwn (K : PySem.W.Frag) (C : Addr) (sp : Sp) (E : XK) : R2 := fun x y H Q => ∃ a dx fs t, x = .ref a ∧ H a = some (.ins C dx fs) ∧ TyX K H y t ∧ PySem.W.notFirst K C t = true ∧ sp [x, y] H Q E
theorem op_eqOwn {CX : CXT} {k : Nat} {C f : Addr} {fd : FuncData} {ps : List Str} {sp : Sp} {E : XK} (F : FnOk X.prog X.w X.K X.mg X.base CX k f fd ps sp) (hr : Room k X.A)
    (hs : PySem.W.findIn X.K (.ref C) "__eq__" = some (some (.ref f))) (hf : PySem.W.isFn X.K (.ref f) = true) (hb : Binds X.K fd ps []) (hx : Passes CX X E) : OpR X (compareOp .Eq) (rEqOwn X.K C sp E) := by
  intro pins s σ H x y v u Q I rx ry hq
  obtain ⟨a, dx, fs, t, rfl, ha, ty, hn, hsp⟩ := hq
  cases rx
  obtain ⟨mA, J, _⟩ := ins_get I.hok ha
  obtain ⟨od, J, _⟩ := J.look
  obtain ⟨m, hF⟩ := I.fr
  obtain ⟨P, Z, p, _⟩ := kit_of I ry ty
  show wpAny (model X.prog X.w) X.A (richCompare .Eq (.ref a) u) (EP X pins σ Q) X.xe s
  refine PySem.W.cmp_K (op := .Eq) (tb := t) hr.units0 hF I.ok.mod.kin J (Z.ty _ _ I.kIn p) hn hs hf ?_
  refine wpAny_mono (run_at F hr rfl hb hx I (.cons (show L2.RelV (V.ref a) (Value.ref a) from rfl) (.cons ry .nil)) hsp) (fun v s' hv => ?_) fun _ _ z => z
  cases v <;> first | exact hv | (obtain ⟨w, _, _, z, _⟩ := hv; exact (notImpl_no z).elim)
open Builtin in
theorem objNe_K {A : Around} {s : Shared} {a C f : Addr} {ox : Obj} {od : Option Obj} {u : Value} {E : Value → Shared → Prop} {Q : Fin → Shared → Prop} (hu : A.units < cLine) (XI : X.K.In s.heap) (J : PySem.W.InstAt s.heap a ox C od)
    (hs : PySem.W.findIn X.K (.ref C) "__eq__" = some (some (.ref f))) (hf : PySem.W.isFn X.K (.ref f) = true)
    (hcall : wpAny (model X.prog X.w) A (call (.ref f) [.ref a, u]) (fun v s' => ∃ b, v = .bool b ∧ Q (.done (.ret (.bool (!b)))) s') E s) :
    wpAny (model X.prog X.w) A (Builtin.«object.__ne__» ⟨[.ref a, u], []⟩) Q E s := by
  unfold Builtin.«object.__ne__»
  repeat (first
    | with_reducible refine wpAny_cRoomFor hu ?_
    | (refine wpAny_bind (m := callSpecialIfBound? (.ref a) (Str.ofString "__eq__") [u])
        (PySem.W.ifBound_K XI J hs hf (wpAny_mono hcall (fun r s' hr => by
          obtain ⟨b, rfl, hq⟩ := hr
          repeat (first | exact hq | exact wpAny_pure hq | exact wpAny_truthy_bool hq | (refine wpAny_bind (m := truthy (.bool _)) (wpAny_truthy_bool ?_)) | wp_step)) fun _ _ e => e)))
    | wp_step)
/-- x != y, the class says nothing of != -/
def rNeOwn (K : PySem.W.Frag) (C : Addr) (sp : Sp) (E : XK) : R2 := fun x y H Q => ∃ a dx fs t, x = .ref a ∧ H a = some (.ins C dx fs) ∧ TyX K H y t ∧ PySem.W.notFirst K C t = true ∧ sp [x, y] H (fun v H' => ∃ b, v = .bl b ∧ Q (.bl (!b)) H') E

theorem ifBound_B {M : Model} {A : Around} {s : Shared} {a C : Addr} {ox : Obj} {od : Option Obj} {name : Str} {id : String} {args : List Value} {E : Value → Shared → Prop} {Q : Option Value → Shared → Prop} (XI : X.K.In s.heap) (J : PySem.W.InstAt s.heap a ox C od)
    (hs : PySem.W.findIn X.K (.ref C) name = some (some (.builtin id))) (S : Slot "object" name id) (h : wpAny M A (call (.builtin id) (.ref a :: args)) (fun v => Q (some v)) E s) : wpAny M A (callSpecialIfBound? (.ref a) name args) Q E s := by
  have last : wpAny M A (call (.builtin id) ([.ref a] ++ args) >>= fun v => pure (some v)) Q E s := wpAny_bind (wpAny_mono h (fun _ _ z => wpAny_pure z) fun _ _ z => z)
  simp only [callSpecialIfBound?, bindSpecialIfBound?]
  refine wpAny_holding (wpAny_bind (wpAny_bind (wpAny_bind (J.type.here ((PySem.W.looks_findIn XI hs).here ?_)))))
  simp only [S.bind]
  refine wpAny_bind (wpAny_askSetting (wpAny_ite ?_))
  split
  · exact wpAny_bind (wpAny_pure (wpAny_pure last))
  · exact wpAny_tryCatch (wpAny_bind (wpAny_pure (wpAny_pure last)))
theorem op_neOwn {CX : CXT} {k : Nat} {C f : Addr} {fd : FuncData} {ps : List Str} {sp : Sp} {E : XK} (F : FnOk X.prog X.w X.K X.mg X.base CX k f fd ps sp) (hr : Room (k + 2) X.A) (hn0 : PySem.W.findIn X.K (.ref C) "__ne__" = some (some (.builtin "object.__ne__"))) (hm : PySem.W.mroIn X.K C (.type "object") = some true)
    (hs : PySem.W.findIn X.K (.ref C) "__eq__" = some (some (.ref f))) (hf : PySem.W.isFn X.K (.ref f) = true) (hb : Binds X.K fd ps []) (hx : Passes CX X E) : OpR X (compareOp .NotEq) (rNeOwn X.K C sp E) := by
  intro pins s σ H x y v u Q I rx ry hq
  obtain ⟨a, dx, fs, t, rfl, ha, ty, hn, hsp⟩ := hq
  cases rx
  obtain ⟨mA, J, _⟩ := ins_get I.hok ha
  obtain ⟨od, J, _⟩ := J.look
  obtain ⟨P, Z, p, _⟩ := kit_of I ry ty
  have LU := Z.ty (model X.prog X.w) _ I.kIn p
  have sub : PySem.W.Looks (model X.prog X.w) s.heap (isInstance (.ref a) (.type "object")) true := J.type.andThen (PySem.W.looks_mroIn I.kIn hm)
  have try1 : wpAny (model X.prog X.w) X.A (tryCompare (.ref a) "__ne__" u) (fun r s' => ∃ v, r = some v ∧ EP X pins σ Q v s') X.xe s := by
    unfold tryCompare
    refine wpAny_bind (ifBound_B I.kIn J hn0 PySem.F.cmp_object.ne (wpAny_call (codeAny_call_builtin PySem.F.cmp_object.ne.plain PySem.F.cmpEntry_ne
      (PySem.W.check_slot PySem.F.cmpKind_ne PySem.F.cmpSplit_ne sub (PySem.F.cmpArgs_ne _ _) ?_))))
    refine objNe_K (A := X.A.in1) hr.in1.units0 I.kIn J hs hf ?_
    refine wpAny_mono (run_at F (hr.in1.mono (by omega)) rfl hb hx I (.cons (show L2.RelV (V.ref a) (Value.ref a) from rfl) (.cons ry .nil)) hsp) (fun v s' hv => ?_) fun _ _ z => z
    obtain ⟨z, H', I', rz, b, rfl, q⟩ := hv
    have ev : v = .bool b := rz
    have fin : EP X pins σ Q (.bool (!b)) s' := ⟨.bl (!b), H', I', rfl, q⟩
    refine ⟨b, ev, ?_⟩
    first
      | exact wpAny_pure ⟨_, rfl, fin⟩
      | exact ⟨_, wpAny_pure ⟨_, rfl, fin⟩⟩
      | (show _ ∧ _; exact ⟨by simp, wpAny_pure ⟨_, rfl, fin⟩⟩)
  show wpAny (model X.prog X.w) X.A (richCompare .NotEq (.ref a) u) (EP X pins σ Q) X.xe s
  unfold richCompare
  simp only [oneThing_ref]
  refine wpAny_holding (wpAny_bind (wpAny_cRoomFor hr.units0 (wpAny_bind (J.type.here (wpAny_bind (LU.here ?_))))))
  have fin : ∀ r s', (∃ v, r = some v ∧ EP X pins σ Q v s') → wpAny (model X.prog X.w) X.A (match r with | some v => pure v | none => richCompare .NotEq (.ref a) u) (EP X pins σ Q) X.xe s' := fun r s' ⟨v, e, z⟩ => by subst e; exact wpAny_pure z
  split
  · rename_i q
    have e : PySem.W.subIn X.K t (.ref C) = some false := by
      cases Bool.or_eq_true_iff.mp hn with
      | inl e => rw [beq_iff_eq.mp e] at q; simp at q
      | inr e => exact beq_iff_eq.mp e
    refine wpAny_bind ((PySem.W.looks_subIn I.kIn e).here ?_)
    simp only [Bool.false_eq_true, if_false]
    refine wpAny_bind (wpAny_mono try1 (fun r s' ⟨v, e, z⟩ => ?_) fun _ _ z => z)
    subst e
    exact wpAny_pure z
  · refine wpAny_bind (wpAny_pure ?_)
    simp only [Bool.false_eq_true, if_false]
    refine wpAny_bind (wpAny_mono try1 (fun r s' ⟨v, e, z⟩ => ?_) fun _ _ z => z)
    subst e
    exact wpAny_pure z
/-- str(x) by an own __str__ -/
def rStrOwn (C : Addr) (sp : Sp) (E : XK) : List V → Hp → VK → Prop := fun xs H Q => ∃ a dx fs, xs = [.ref a] ∧ H a = some (.ins C dx fs) ∧ sp xs H (fun v H' => (∃ z, v = .str z) ∧ Q v H') E
theorem call_strOwn {CX : CXT} {k : Nat} {C f : Addr} {fd : FuncData} {ps : List Str} {sp : Sp} {E : XK} (F : FnOk X.prog X.w X.K X.mg X.base CX k f fd ps sp) (hr : Room (k + 2) X.A)
    (hs : PySem.W.findIn X.K (.ref C) "__str__" = some (some (.ref f))) (hf : PySem.W.isFn X.K (.ref f) = true) (hb : Binds X.K fd ps []) (hx : Passes CX X E) : CallR X (.type "str") (rStrOwn C sp E) := by
  intro pins s σ H xs us Q I r hq
  obtain ⟨a, dx, fs, rfl, ha, hsp⟩ := hq
  obtain ⟨u, rfl, ru⟩ := vals1 r
  cases ru
  obtain ⟨mA, J, _⟩ := ins_get I.hok ha
  obtain ⟨od, J, _⟩ := J.look
  refine PySem.W.kso_call hr.in1.in1.units0 I.kIn J hs hf ?_
  refine wpAny_mono (run_at F hr.in1.in1 rfl hb hx I r hsp) (fun v s' hv => ?_) fun _ _ z => z
  obtain ⟨w, H', I', rw', ⟨z, rfl⟩, q⟩ := hv
  obtain ⟨tk, e⟩ := rw'
  subst e
  exact ⟨.str z, H', I', ⟨tk, rfl⟩, q⟩
/-! ### a staticmethod of a class -/
structure SMet (K : PySem.W.Frag) (C : Addr) (mc : Value) (m : Str) (p g : Addr) : Prop where
  at_ : PySem.W.findCls K (.ref C) mc m = some (.get (.builtin "staticmethod.__get__") (.ref p) .none (.ref C))
  rc : ∃ rest, PySem.W.recIn K p "staticmethod" = some (.ref g :: rest)
def tSMeth (C : Addr) (sp : Sp) (E : XK) (ta : TE) (t : TA) : TE := fun σ H Q => ta σ H fun x H1 => x = .ref C ∧ t σ H1 fun vs H2 => sp vs H2 Q E
theorem pe_smeth {CX : CXT} {k : Nat} {C p g : Addr} {mc : Value} {fd : FuncData} {ps : List Str} {sp : Sp} {E : XK} {o e : Expr} {es : List Expr} {m : Str} {pos apos : Pos} {ta : TE} {t : TA} {pl : Sem Bool}
    (he : PE X o ta) (r : ClX.CRead X.K C mc) (c : SMet X.K C mc m p g) (F : FnOk X.prog X.w X.K X.mg X.base CX k g fd ps sp) (hk : PySem.W.keepIn X.K (.ref g) = true) (hr : Room k X.A) (hb : Binds X.K fd ps []) (hx : Passes CX X E) (ha : PA X (e :: es) t)
    (hst : starEach (e :: es) X.env = (false, eval e X.env) :: starEach es X.env := by rfl) (hpl : (backTo pos (starEach es X.env)).any (·.1) = false := by rfl)
    (ht : eval (.Call (.Attribute o m apos) (e :: es) [] pos) X.env = (do let ov ← eval o X.env; standAt apos.atName; let (f, first) ← holding [ov] (getMethod ov m pl); callWith pos f first (backTo pos (starEach (e :: es) X.env)) (backToKw pos (keywordEach [] X.env))) := by rfl) :
    PE X (.Call (.Attribute o m apos) (e :: es) [] pos) (tSMeth C sp E ta t) := by
  refine ⟨fun pins s σ H Q I h => PySem.W.methodCall_KW (pl := pl) (thn (he.run pins s σ H _ I h) fun u s1 ⟨x, H1, I1, rx, ex, q⟩ => ?_) ht⟩
  subst ex
  obtain rfl : u = Value.ref C := rx
  obtain ⟨rest, hp⟩ := c.rc
  refine PySem.W.method_cls I1.kIn r.ga (PySem.W.cls_bind I1.kIn r.rd c.at_ (wpAny_call (PySem.W.sm_get (s := { s1 with toks := s1.toks + 1 }) I1.kIn hp (PySem.W.handed_on rfl ?_))))
  have I2 := I1.tok (s1.toks + 1)
  refine PySem.W.callWith_K (h₀ := X.base) I2.ok.mod.kin hk (thn (ha.run pos pins _ σ H1 _ I2 q) fun us s3 ⟨vs, H2, I3, rv, q2⟩ => ⟨I3.kIn, ?_⟩) hst hpl
  exact run_at F hr rfl hb hx I3 rv q2
end
end GS
/-! Own rule: several except clauses, each with or without «as n». -/
namespace GS
open PySem PySem.Spec PyProof.Rows L2
abbrev Cl := Value × Option Nat × (Addr → Value → Option Addr → TS)
/-- the ends and the slots of a suite whose error's name has slot i -/
def asEnds (i : Nat) (D : Ends) : Ends := { nx := fun σ' H' => D.nx (σ'.set i none) H', rt := D.rt, bk := fun σ' H' => D.bk (σ'.set i none) H', ct := fun σ' H' => D.ct (σ'.set i none) H' }
def wCl (D : Ends) (q : Cl) (a : Addr) (cls : Value) (d : Option Addr) (σ : L2.St) (H : Hp) : Prop := match q.2.1 with
  | none => q.2.2 a cls d D σ H
  | some i => q.2.2 a cls d (asEnds i D) (σ.set i (some (.ref a))) H
def wCls (K : PySem.W.Frag) (Wout : WX) (D : Ends) : List Cl → WX
  | [] => Wout
  | q :: r => fun cls d σ H => ∃ b, PySem.W.exmOne K cls q.1 = some b ∧ (b = true → ∀ a, H a = none → wCl D q a cls d σ H) ∧ (b = false → wCls K Wout D r cls d σ H)
/-- one clause is as it is told -/
inductive ClOk (X : Cx) : ExceptHandler → Cl → Prop
  | bare {x : Str} {c : Value} {ts : Addr → Value → Option Addr → TS} {st : Stmt} {sts : List Stmt} {np pos' : Pos} (hc : Names X x c)
      (su : ∀ (a : Addr) (oe : Obj) (cls : Value) (d : Option Addr) (pn : List (Addr × Obj)), Zc cls d oe → (∃ vs, oe.data = .fields vs) → PSs (X.suite a ((a, oe) :: pn)) (st :: sts) (ts a cls d)) :
      ClOk X (.ExceptHandler (some (.Name x np)) none (st :: sts) pos') (c, none, ts)
  | as {x n : Str} {c : Value} {ts : Addr → Value → Option Addr → TS} {st : Stmt} {sts : List Stmt} {np pos' : Pos} {i : Nat} (hc : Names X x c) (hN : X.N.Nodup) (hi : X.N[i]? = some n) (hln : X.env.kindOf n = some .local)
      (su : ∀ (a : Addr) (oe : Obj) (cls : Value) (d : Option Addr) (pn : List (Addr × Obj)), Zc cls d oe → (∃ vs, oe.data = .fields vs) → PSs (X.suite a ((a, oe) :: pn)) (st :: sts) (ts a cls d)) :
      ClOk X (.ExceptHandler (some (.Name x np)) (some n) (st :: sts) pos') (c, some i, ts)
inductive ClsOk (X : Cx) : List ExceptHandler → List Cl → Prop
  | nil : ClsOk X [] []
  | cons {h : ExceptHandler} {q : Cl} {hs : List ExceptHandler} {qs : List Cl} (o : ClOk X h q) (r : ClsOk X hs qs) : ClsOk X (h :: hs) (q :: qs)

/-- the frame holds the error at a; sI: the body's last state -/
structure Caught (X : Cx) (pins : List (Addr × Obj)) (σ : L2.St) (H : Hp) (a : Addr) (B : Heap) (cls : Value) (d : Option Addr) (sI s : Shared) : Prop where
  inv : Inv X pins σ H sI
  nb : ∀ (b : Addr) (o : Obj), sI.heap.get? b = some o → ¬b ∈ frs X.stack → B.get? b = some o
  up : sI.heap.UpToSlots s.heap
  na : H a = none
  os : s.os = sI.os
  ag : AllBare s.gens
  fl : PySem.HandSPX.FlyingZ B (X.env :: X.outer) a (Zc cls d) s.heap
section
variable {X : Cx} {pins : List (Addr × Obj)} {σ : L2.St} {H : Hp} {s sI : Shared} {a : Addr} {B : Heap} {cls : Value} {d : Option Addr} {D : Ends} {Wout : WX}
theorem Caught.here (c : Caught X pins σ H a B cls d sI s) : Inv X pins σ H s := c.inv.landed c.nb c.fl.1 c.up c.os c.ag
theorem Caught.off (c : Caught X pins σ H a B cls d sI s) (hf : X.env.frame = some X.env.locals) : a ≠ X.env.locals ∧ ¬ a ∈ X.fs := by
  obtain ⟨oe, vs, e1, _, e3⟩ := c.fl.there
  have none_of : ∀ b, b ∈ frs (X.env :: X.outer) → b ≠ a := fun b hb z => by
    obtain ⟨_, o, ho, hnf⟩ := c.fl.2.2.1.mem hb
    rw [z, e1] at ho
    exact hnf vs (by rw [← Option.some.inj ho]; exact e3)
  refine ⟨fun z => none_of a ?_ rfl, fun z => none_of a ?_ rfl⟩
  · rw [z]; exact List.mem_filterMap.mpr ⟨X.env, List.mem_cons_self, hf⟩
  · obtain ⟨e, he, q⟩ := List.mem_filterMap.mp z
    exact List.mem_filterMap.mpr ⟨e, List.mem_cons_of_mem _ he, q⟩
/-- it flies again -/
theorem Caught.again {M : Model} {A : Around} {E : Value → Shared → Prop} {Q : Unit → Shared → Prop} (c : Caught X pins σ H a B cls d sI s) (k : ∀ s', Caught X pins σ H a B cls d sI s' → Q () s') : wpAny M A (setFlight (.ref a) none) Q E s :=
  PySem.HandSPX.lands_againZ c.fl fun h' f u => k _ ⟨c.inv, c.nb, c.up.trans u, c.na, c.os, c.ag, f⟩
/-- a suite, from what its reading says, to the ends -/
theorem Caught.suite {M : Model} (c : Caught X pins σ H a B cls d sI s) (hf : X.env.frame = some X.env.locals) : ∃ oe, Zc cls d oe ∧ (∃ vs, oe.data = .fields vs) ∧ Inv (X.suite a ((a, oe) :: (X.pn ++ pins))) [] σ H s := by
  obtain ⟨oe, vs, e1, e2, e3⟩ := c.fl.there
  obtain ⟨n1, n2⟩ := c.off hf
  exact ⟨oe, e2, ⟨vs, e3⟩, c.here.suite e1 e3 c.na n1 n2⟩
/-- the class named in a clause, evaluated -/
theorem names_eval {x : Str} {c0 : Value} {np : Pos} {Q : Value → Shared → Prop} {E : Value → Shared → Prop} (c : Caught X pins σ H a B cls d sI s) (hf : X.env.frame = some X.env.locals) (hc : Names X x c0) (q : Q c0 s) :
    wpAny (model X.prog X.w) (X.A.mark (some (.ref a))) (eval (.Name x np) X.env) Q E s := by
  obtain ⟨oe, _, _, S⟩ := c.suite (M := model X.prog X.w) hf
  obtain ⟨hg, hdb, hh⟩ := hc
  cases hh with
  | inl hm => exact ld_glob (X := X.suite a ((a, oe) :: (X.pn ++ pins))) S hg hm q hdb
  | inr hm => exact ld_blt (X := X.suite a ((a, oe) :: (X.pn ++ pins))) S hg hm.1 hm.2.1 q hm.2.2 hdb
theorem clauses {hs : List ExceptHandler} {qs : List Cl} (k : ClsOk X hs qs) (hst : X.stack = X.env :: X.outer) (hf : X.env.frame = some X.env.locals) (tk : Takes X Wout) :
    ∀ {s : Shared}, Caught X pins σ H a B cls d sI s → wCls X.K Wout D qs cls d σ H → wpAny (model X.prog X.w) X.A (handleBy (.ref a) X.env hs) (SP X pins D) X.xe s := by
  induction k with
  | nil =>
    intro s c w
    refine wpAny_handleBy_nil ?_
    obtain ⟨k1, k2, k3, oe, vs, T, oT, ts', he, hz, hd, h1, hr⟩ := id c.fl
    have out : wpAny (model X.prog X.w) X.A (setFlight (.ref a) X.env.frame) (fun _ s4 => wpAny (model X.prog X.w) X.A (throw (.ref a) : Sem Flow) (SP X pins D) X.xe s4) X.xe s := by
      rw [hf]
      exact PySem.HandSPX.setFlight_upZ c.fl fun h4 hh4 up4 => wpAny_throw (tk _ _ ⟨a, B, sI, pins, σ, H, cls, d, rfl, c.inv, c.nb, c.up.trans up4, .inr (.inr (by rw [hst]; exact hh4)), c.na, c.os, c.ag, w⟩)
    unfold PySem.passOn
    refine wpAny_bind (wpAny_field he hd h1 ?_)
    rw [if_neg (show ¬ ((Value.ref T == Value.none) = true) from by simp)]
    first
      | exact wpAny_bind (wpAny_pure (wpAny_bind out))
      | exact wpAny_bind out
  | @cons h q hs qs o r ih =>
    intro s c w
    obtain ⟨b, hb1, hyes, hno⟩ := w
    obtain ⟨oe0, vs0, e01, e02, e03⟩ := c.fl.there
    have LT : PySem.W.Looks (model X.prog X.w) s.heap (typeOf (.ref a)) cls := fun A Q E s' kk z => wpAny_typeOf_ref (kk _ _ e01) (by rw [e02.1]; exact z)
    have LM := PySem.W.exm_one (M := model X.prog X.w) c.here.kIn LT hb1
    cases o with
    | bare hc su =>
      refine wpAny_handleBy_cons (codeAny_handlers_test ?_) (by intro q; cases q)
      refine names_eval c hf hc (LM.here ?_)
      cases b with
      | false => exact ih c (hno rfl)
      | true =>
        refine codeAny_handlers_suite (c.again fun s4 c4 => ?_)
        obtain ⟨oe, z1, z2, S⟩ := c4.suite (M := model X.prog X.w) hf
        have ok := c4.here.ok
        refine wpAny_mono ((su a oe cls d (X.pn ++ pins) z1 z2).run [] _ _ H _ S (hyes rfl a c.na)) (fun f s6 hsp => ?_) (fun _ _ z => False.elim z)
        cases f with
        | next => exact let ⟨σ6, H6, S6, q6⟩ := hsp; ⟨_, _, S6.unsuite ok, q6⟩
        | brk => exact let ⟨σ6, H6, S6, q6⟩ := hsp; ⟨_, _, S6.unsuite ok, q6⟩
        | cont => exact let ⟨σ6, H6, S6, q6⟩ := hsp; ⟨_, _, S6.unsuite ok, q6⟩
        | ret u => exact let ⟨v6, σ6, H6, S6, r6, q6⟩ := hsp; ⟨_, _, _, S6.unsuite ok, r6, q6⟩
    | @as x n c0 ts st sts np pos' i hc hN hi hln su =>
      refine wpAny_handleBy_cons (codeAny_handlers_test ?_) (by intro q; cases q)
      refine names_eval c hf hc (LM.here ?_)
      cases b with
      | false => exact ih c (hno rfl)
      | true =>
        refine codeAny_handlers_suite_as (c.again fun s4 c4 => ?_)
        obtain ⟨oe, z1, z2, S⟩ := c4.suite (M := model X.prog X.w) hf
        have ok := c4.here.ok
        refine store_ok (X := X.suite a ((a, oe) :: (X.pn ++ pins))) (v := .ref a) S hN hi (.inl hln) rfl (fun s5 S5 => ?_) (.inr hln)
        refine wpAny_mono ((su a oe cls d (X.pn ++ pins) z1 z2).run [] s5 _ H (asEnds i D) S5 (hyes rfl a c.na)) (fun f s6 hsp => ?_) (fun _ _ z => False.elim z)
        cases f with
        | next => exact let ⟨σ6, H6, S6, q6⟩ := hsp; gone_ok (S6.unsuite ok) hN hi hln fun s7 J7 => ⟨_, _, J7, q6⟩
        | brk => exact let ⟨σ6, H6, S6, q6⟩ := hsp; gone_ok (S6.unsuite ok) hN hi hln fun s7 J7 => ⟨_, _, J7, q6⟩
        | cont => exact let ⟨σ6, H6, S6, q6⟩ := hsp; gone_ok (S6.unsuite ok) hN hi hln fun s7 J7 => ⟨_, _, J7, q6⟩
        | ret u => exact let ⟨v6, σ6, H6, S6, r6, q6⟩ := hsp; gone_ok (S6.unsuite ok) hN hi hln fun s7 J7 => ⟨_, _, _, J7, r6, q6⟩
/-- THE RULE: try .. except A as x: .. except B: .. -/
theorem ps_try_cls {body : List Stmt} {h₀ : ExceptHandler} {hds : List ExceptHandler} {qs : List Cl} {pos : Pos} {tb : WX → TS} (hst : X.stack = X.env :: X.outer) (hf : X.env.frame = some X.env.locals) (tk : Takes X Wout)
    (hb : ∀ (W : WX) (pn : List (Addr × Obj)) (xe : Value → Shared → Prop), Takes (X.tr pn xe) W → PassesOwn (model X.prog X.w) X.A X.env xe → PSs (X.tr pn xe) body (tb W)) (hh : ClsOk X (h₀ :: hds) qs) :
    PS X (.Try body (h₀ :: hds) [] [] pos) (fun D σ H => tb (wCls X.K Wout D qs) D σ H) := by
  refine ⟨fun pins s σ H D I h => wpAny_Try_except ?_⟩
  have ok := I.ok
  have fr : X.A.frames = some (X.env :: X.outer) := by rw [ok.frames, hst]
  have B0 := hb (wCls X.K Wout D qs) (X.pn ++ pins) (fun e s₁ => wpAny (model X.prog X.w) X.A (noteFrame e X.env) (fun _ s₂ => wpAny (model X.prog X.w) X.A (setFlight e none) (fun _ s₃ => wpAny (model X.prog X.w) X.A (handleBy e X.env (h₀ :: hds)) (SP X pins D) X.xe s₃) X.xe s₂) X.xe s₁)
    (fun u s' xx => by
      obtain ⟨a, B, sI, pins', σ', H', cls, d, rfl, J', nb, up, sky, na, os, ag, w⟩ := xx
      refine Sky.land Zc.steady fr hf (show Sky B (X.env :: X.outer) a (Zc cls d) X.env.locals s'.heap by rw [← hst]; exact sky) fun h3 fl3 up3 => ?_
      exact clauses hh hst hf tk ⟨J'.ofTry ok, nb, up.trans up3, na, os, ag, fl3⟩ w) PassesOwn.looking
  refine wpAny_mono (B0.run [] s σ H D (I.toTry _) h) (fun f s1 hsp => ?_) (fun _ _ z => z)
  cases f with
  | next => exact let ⟨σ', H', J', q⟩ := hsp; wpAny_execs_nil ⟨σ', H', J'.ofTry ok, q⟩
  | brk => exact let ⟨σ', H', J', q⟩ := hsp; ⟨σ', H', J'.ofTry ok, q⟩
  | cont => exact let ⟨σ', H', J', q⟩ := hsp; ⟨σ', H', J'.ofTry ok, q⟩
  | ret u => exact let ⟨v, σ', H', J', r, q⟩ := hsp; ⟨v, σ', H', J'.ofTry ok, r, q⟩
end
end GS
/-! What the head tells: a list of Bools of the written part, and the defs. -/
namespace GS
open PySem PySem.W PySem.Calls PyProof.Rows He
abbrev Chk := PySem.W.Frag → Bool
def obsM (fa : List He.Fa) (ex : List Chk) (fn : List He5.DefA) (K : PySem.W.Frag) : He.AlD := ((fa.all fun f => f.ok K) && ((ex.all fun f => f K) && fn.all fun d => d.ok K), fn.map fun d => He5.fnA K (d.at_ K))
def SaysM (fa : List He.Fa) (ex : List Chk) (fn : List He5.DefA) (K : PySem.W.Frag) : Prop := obsM fa ex fn K = He5.valA fn
def obsMG (n : Nat) (fa : List He.Fa) (ex : List Chk) (fn : List He5.DefA) (g : Addr → Option Obj) : He.AlD := obsM fa ex fn (frG g (He5.asA g n))
def hookM (n : Nat) (fa : List He.Fa) (ex : List Chk) (fn : List He5.DefA) : PySem.W.Hook where
  α := He.AlD
  obs s := obsMG n fa ex fn s.heap.get?
  val _ := He5.valA fn
  says _ h := ∃ K : PySem.W.Frag, K.In h ∧ SaysM fa ex fn K
  of _ _ e := ⟨_, frG_in, e⟩
  keeps := fun _ _ _ ⟨K, i, c⟩ k => ⟨K, Frag.In.keeps i k, c⟩
theorem obsMG_eq {n : Nat} {fa : List He.Fa} {ex : List Chk} {fn : List He5.DefA} {g : Addr → Option Obj} {s : Shared} (h : ∀ a, g a = s.heap.get? a) : obsMG n fa ex fn g = (hookM n fa ex fn).obs s := by
  obtain rfl : g = s.heap.get? := funext h
  rfl
section
variable {fa : List He.Fa} {ex : List Chk} {fn : List He5.DefA} {K : PySem.W.Frag}
theorem SaysM.fst (c : SaysM fa ex fn K) : (∀ f ∈ fa, f.ok K = true) ∧ (∀ f ∈ ex, f K = true) ∧ ∀ d ∈ fn, d.ok K = true := by
  have e : ((fa.all fun f => f.ok K) && ((ex.all fun f => f K) && fn.all fun d => d.ok K)) = true := congrArg (fun z : He.AlD => z.1) c
  obtain ⟨h1, h2⟩ := ba e
  obtain ⟨h3, h4⟩ := ba h2
  exact ⟨List.all_eq_true.mp h1, List.all_eq_true.mp h3, List.all_eq_true.mp h4⟩
theorem SaysM.fact (c : SaysM fa ex fn K) (i : Nat) {f : He.Fa} (h : fa[i]? = some f := by rfl) : f.ok K = true := c.fst.1 f (List.mem_of_getElem? h)
theorem SaysM.chk (c : SaysM fa ex fn K) (i : Nat) {f : Chk} (h : ex[i]? = some f := by rfl) : f K = true := c.fst.2.1 f (List.mem_of_getElem? h)
theorem SaysM.def_ (c : SaysM fa ex fn K) (i : Nat) {d : He5.DefA} (h : fn[i]? = some d := by rfl) : ∃ fd, L2.FunD K d.name d.qual d.params d.body d.scope (d.dvs K) (d.kws K) (d.at_ K) fd := by
  have e : fn.map (fun d => He5.fnA K (d.at_ K)) = fn.map He5.DefA.val := congrArg (fun z : He.AlD => z.2) c
  have e2 := congrArg (fun l => l[i]?) e
  simp only [List.getElem?_map, h, Option.map_some, Option.some.injEq] at e2
  exact He5.DefA.funD e2 (c.fst.2.2 d (List.mem_of_getElem? h))
end
/-! ### classes of errors -/
def oexB (K : PySem.W.Frag) (C : Addr) : Bool := (match K.lookup C with
    | some ⟨.type t, _, .cls cd, sl⟩ => (match cd.mro, sl.toList with
      | .ref c :: bm, [_, _, _, _, some (.builtin n), _] => decide (t = "type") && (decide (c = C) && (decide (n = "ValueError.__new__") && (!cd.hasDel && (cd.hasDict && PySem.HandSPX.refsVE bm))))
      | _, _ => false)
    | _ => false) && (eqO (findIn K (.ref C) "__setattr__") (some (some (.builtin "object.__setattr__"))) && (decide (subIn K (.ref C) (.type "BaseException") = some true) && (decide (typeIn K (.ref C) = some (.type "type")) && keepIn K (.ref C))))
theorem oexB_ok {K : PySem.W.Frag} {C : Addr} (h : oexB K C = true) : L2.OexC K C := by
  obtain ⟨h0, h⟩ := ba h
  obtain ⟨h1, h⟩ := ba h
  obtain ⟨h2, h⟩ := ba h
  obtain ⟨h3, h4⟩ := ba h
  refine ⟨?_, eqO_ok h1, of_decide_eq_true h2, of_decide_eq_true h3, h4⟩
  clear h1 h2 h3 h4 h
  split at h0
  · rename_i t dd cd sl ho
    split at h0
    · rename_i c bm k0 k1 k2 k3 n k5 hm hs
      obtain ⟨a1, a⟩ := ba h0
      obtain ⟨a2, a⟩ := ba a
      obtain ⟨a3, a⟩ := ba a
      obtain ⟨a4, a⟩ := ba a
      obtain ⟨a5, a6⟩ := ba a
      obtain ⟨nm, bs, mro, ns, qn, hd, sn, sub, ab, col, del⟩ := cd
      obtain ⟨l⟩ := sl
      dsimp only at hm hs a4 a5
      subst hm hs a5
      obtain rfl := of_decide_eq_true a1
      obtain rfl := of_decide_eq_true a2
      obtain rfl := of_decide_eq_true a3
      have a4' : del = false := by simpa using a4
      subst a4'
      exact ⟨nm, qn, ns, bs, bm, sn, sub, ab, col, dd, k0, k1, k2, k3, k5, ho, a6⟩
    · cases h0
  · cases h0
/-- an error class X with the fields fs: made by its own __init__, caught by the classes yes, not by the classes no; its fields are read -/
def errB (x : PySem.Str) (fs : List PySem.Str) (yes no : List PySem.Str) : Chk := fun K => oexB K (ga K x) && (L2.xfB K (ga K x) && ((fs.all fun f => eqO (findIn K (.ref (ga K x)) f) (some none)) &&
  ((yes.all fun y => decide (exmOne K (.ref (ga K x)) (.ref (ga K y)) = some true)) && ((no.all fun y => decide (exmOne K (.ref (ga K x)) (.ref (ga K y)) = some false)) &&
    (eqO (findIn K (.ref (ga K x)) "__init__") (some (some (.ref (ma K (ga K x) "__init__")))) && decide (typeIn K (.ref (ma K (ga K x) "__init__")) = some (.type "function")))))))
structure ErrC (K : PySem.W.Frag) (x : PySem.Str) (fs yes no : List PySem.Str) : Prop where
  o : L2.OexC K (ga K x)
  xf : L2.XfC K (ga K x)
  no_ : ∀ f ∈ fs, findIn K (.ref (ga K x)) f = some none
  y : ∀ c ∈ yes, exmOne K (.ref (ga K x)) (.ref (ga K c)) = some true
  n : ∀ c ∈ no, exmOne K (.ref (ga K x)) (.ref (ga K c)) = some false
  i : findIn K (.ref (ga K x)) "__init__" = some (some (.ref (ma K (ga K x) "__init__")))
  t : typeIn K (.ref (ma K (ga K x) "__init__")) = some (.type "function")
theorem errB_ok {K : PySem.W.Frag} {x : PySem.Str} {fs yes no : List PySem.Str} (h : errB x fs yes no K = true) : ErrC K x fs yes no := by
  obtain ⟨h1, h⟩ := ba h
  obtain ⟨h2, h⟩ := ba h
  obtain ⟨h3, h⟩ := ba h
  obtain ⟨h4, h⟩ := ba h
  obtain ⟨h5, h⟩ := ba h
  obtain ⟨h6, h7⟩ := ba h
  exact ⟨oexB_ok h1, L2.xfB_ok h2, fun f hf => eqO_ok (List.all_eq_true.mp h3 f hf), fun f hf => of_decide_eq_true (List.all_eq_true.mp h4 f hf), fun f hf => of_decide_eq_true (List.all_eq_true.mp h5 f hf), eqO_ok h6, of_decide_eq_true h7⟩
/-! ### own classes -/
/-- a class whose instances are asked by isinstance; values of built-in types are none of it, and it is none of them -/
def clsB (x : PySem.Str) (tys : List String) : Chk := fun K => eqO (findIn K (.ref (ga K x)) "__class__") (some (some (.builtin "object.__class__"))) && (decide (mroIn K (ga K x) (.type "object") = some true) &&
  ((tys.all fun t => decide (kitOne K (.type t) (.ref (ga K x)) = some false) && (decide (kitOne K (.ref (ga K x)) (.type t) = some false) && notFirst K (ga K x) (.type t))) &&
    (decide (kitOne K (.ref (ga K x)) (.ref (ga K x)) = some true) && notFirst K (ga K x) (.ref (ga K x)))))
structure ClsC (K : PySem.W.Frag) (x : PySem.Str) (tys : List String) : Prop where
  ha : findIn K (.ref (ga K x)) "__class__" = some (some (.builtin "object.__class__"))
  hm : mroIn K (ga K x) (.type "object") = some true
  ty : ∀ t ∈ tys, kitOne K (.type t) (.ref (ga K x)) = some false ∧ kitOne K (.ref (ga K x)) (.type t) = some false ∧ notFirst K (ga K x) (.type t) = true
  me : kitOne K (.ref (ga K x)) (.ref (ga K x)) = some true
  nf : notFirst K (ga K x) (.ref (ga K x)) = true
theorem clsB_ok {K : PySem.W.Frag} {x : PySem.Str} {tys : List String} (h : clsB x tys K = true) : ClsC K x tys := by
  obtain ⟨h1, h⟩ := ba h
  obtain ⟨h2, h⟩ := ba h
  obtain ⟨h3, h⟩ := ba h
  obtain ⟨h4, h5⟩ := ba h
  refine ⟨eqO_ok h1, of_decide_eq_true h2, fun t ht => ?_, of_decide_eq_true h4, h5⟩
  obtain ⟨a, b⟩ := ba (List.all_eq_true.mp h3 t ht)
  obtain ⟨b, c⟩ := ba b
  exact ⟨of_decide_eq_true a, of_decide_eq_true b, c⟩
/-- what holds of every program: how __class__ is read -/
def topB : Chk := fun K => eqO (specialIn K (.builtin "object.__class__") "__get__") (some (some (.builtin "getset_descriptor.__get__"))) && decide (takesIn K (.builtin "object.__class__") = some true)
/-- the class says nothing of != -/
def neB (x : PySem.Str) : Chk := fun K => eqO (findIn K (.ref (ga K x)) "__ne__") (some (some (.builtin "object.__ne__")))
/-- a staticmethod -/
def smB (x m : PySem.Str) : Chk := fun K => He5.wrapB K (ga K x) "staticmethod" "staticmethod.__get__" m && (readsIn K (ga K x) (.type "type") && (eqO (specialIn K (.ref (ga K x)) "__getattribute__") (some (some (.builtin "type.__getattribute__"))) && keepIn K (.ref (He5.wf K (ga K x) "staticmethod" m))))
theorem smB_ok {K : PySem.W.Frag} {x m : PySem.Str} (h : smB x m K = true) : SMet K (ga K x) (.type "type") m (ma K (ga K x) m) (He5.wf K (ga K x) "staticmethod" m) ∧ ClX.CRead K (ga K x) (.type "type") ∧ keepIn K (.ref (He5.wf K (ga K x) "staticmethod" m)) = true := by
  obtain ⟨h1, h⟩ := ba h
  obtain ⟨h2, h⟩ := ba h
  obtain ⟨h3, h4⟩ := ba h
  obtain ⟨a, b⟩ := He5.wrapB_ok h1
  exact ⟨⟨a, b⟩, ⟨h2, eqO_ok h3⟩, h4⟩
end GS
/-! Readings, step by step: one lemma a construct, and a step tactic. -/
namespace GS
open PySem PySem.Spec PyProof.Rows L2

/-! ### promises by the number of arguments -/
def sp1 (S : V → Hp → VK → XK → Prop) : Sp := fun vs H Q E => match vs with | [a] => S a H Q E | _ => False
def sp2 (S : V → V → Hp → VK → XK → Prop) : Sp := fun vs H Q E => match vs with | [a, b] => S a b H Q E | _ => False
def sp3 (S : V → V → V → Hp → VK → XK → Prop) : Sp := fun vs H Q E => match vs with | [a, b, c] => S a b c H Q E | _ => False
def sp4 (S : V → V → V → V → Hp → VK → XK → Prop) : Sp := fun vs H Q E => match vs with | [a, b, c, d] => S a b c d H Q E | _ => False
theorem sp1_len {S : V → Hp → VK → XK → Prop} : ∀ vs H Q E, sp1 S vs H Q E → vs.length = 1 := fun vs _ _ _ h => match vs, h with | [_], _ => rfl
theorem sp2_len {S : V → V → Hp → VK → XK → Prop} : ∀ vs H Q E, sp2 S vs H Q E → vs.length = 2 := fun vs _ _ _ h => match vs, h with | [_, _], _ => rfl
theorem sp3_len {S : V → V → V → Hp → VK → XK → Prop} : ∀ vs H Q E, sp3 S vs H Q E → vs.length = 3 := fun vs _ _ _ h => match vs, h with | [_, _, _], _ => rfl
theorem sp4_len {S : V → V → V → V → Hp → VK → XK → Prop} : ∀ vs H Q E, sp4 S vs H Q E → vs.length = 4 := fun vs _ _ _ h => match vs, h with | [_, _, _, _], _ => rfl
theorem sp1_is {S : V → Hp → VK → XK → Prop} {vs H Q E} (h : sp1 S vs H Q E) : ∃ a, vs = [a] ∧ S a H Q E := match vs, h with | [a], h => ⟨a, rfl, h⟩
theorem sp2_is {S : V → V → Hp → VK → XK → Prop} {vs H Q E} (h : sp2 S vs H Q E) : ∃ a b, vs = [a, b] ∧ S a b H Q E := match vs, h with | [a, b], h => ⟨a, b, rfl, h⟩
theorem sp3_is {S : V → V → V → Hp → VK → XK → Prop} {vs H Q E} (h : sp3 S vs H Q E) : ∃ a b c, vs = [a, b, c] ∧ S a b c H Q E := match vs, h with | [a, b, c], h => ⟨a, b, c, rfl, h⟩
theorem sp4_is {S : V → V → V → V → Hp → VK → XK → Prop} {vs H Q E} (h : sp4 S vs H Q E) : ∃ a b c d, vs = [a, b, c, d] ∧ S a b c d H Q E := match vs, h with | [a, b, c, d], h => ⟨a, b, c, d, rfl, h⟩

/-! ### heaps that grow -/
def Ex (H H' : Hp) : Prop := ∀ a o, H a = some o → H' a = some o
theorem Ex.refl (H : Hp) : Ex H H := fun _ _ h => h
theorem Ex.trans {H H1 H2 : Hp} (a : Ex H H1) (b : Ex H1 H2) : Ex H H2 := fun x o h => b x o (a x o h)
theorem Ex.new {H : Hp} {p : Addr} {o : HO} (h : H p = none) : Ex H (upd H p o) := fun a u e => by rw [upd_ne (ne_of_none e h)]; exact e
theorem Ex.get {H H' : Hp} {a : Addr} {o : HO} (e : Ex H H') (h : H a = some o) : H' a = some o := e _ _ h
theorem Ex.free {H H' : Hp} {p : Addr} (e : Ex H H') (h : H' p = none) : H p = none := by
  cases q : H p with
  | none => rfl
  | some o => rw [e _ _ q] at h; cases h
theorem Ex.sql {K : PySem.W.Frag} {H H' : Hp} {a : Addr} {xs : List V} (e : Ex H H') (h : SqL K H a xs) : SqL K H' a xs := Same.seq e h
theorem Ex.sqt {K : PySem.W.Frag} {H H' : Hp} {a : Addr} {xs : List V} (e : Ex H H') (h : SqT K H a xs) : SqT K H' a xs := SqT.ext h e
/-- the heap without what stands at b -/
def wo (H : Hp) (b : Addr) : Hp := fun a => if a = b then none else H a
theorem wo_ex (H : Hp) (b : Addr) : Ex (wo H b) H := fun a o h => by
  unfold wo at h
  split at h
  · cases h
  · exact h
theorem Ex.wo {H H' : Hp} (b : Addr) (e : Ex H H') : Ex (wo H b) (wo H' b) := fun a o h => by
  unfold GS.wo at h ⊢
  split at h
  · cases h
  · rename_i n
    rw [if_neg n]
    exact e _ _ h
theorem wo_at {H : Hp} {a b : Addr} {o u : HO} (h : H a = some o) (hb : H b = some u) (n : o ≠ u) : wo H b a = some o := by
  unfold wo
  rw [if_neg (ne_of h hb n)]
  exact h
theorem wo_upd {H : Hp} {b : Addr} {o : HO} : wo (upd H b o) b = wo H b := by
  funext a
  unfold wo upd
  split <;> rfl

/-- what is wished of a new instance -/
def mkK (C : Addr) (sp : Sp) (E : XK) (Q : VK) : List V → Hp → Prop := fun vs H1 => ∀ x dx, H1 x = none → H1 dx = none → dx ≠ x → sp (.ref x :: (vs ++ [])) (upd (upd H1 dx (.own x)) x (.ins C dx [])) (fun v H2 => v = .non ∧ Q (.ref x) H2) E
/-- what is wished of a new tuple, a new list -/
def newT (Q : VK) : List V → Hp → Prop := fun xs H1 => xs.length ≤ sizeLine ∧ ∀ p, H1 p = none → Q (.ref p) (upd H1 p (.tup xs))
def newL (Q : VK) : List V → Hp → Prop := fun xs H1 => xs.length ≤ sizeLine ∧ ∀ p, H1 p = none → Q (.ref p) (upd H1 p (.lst xs))
theorem r_newT {Q : VK} {xs : List V} {H : Hp} (hz : xs.length ≤ sizeLine) (q : ∀ p H', H p = none → Ex H H' → H' p = some (.tup xs) → Q (.ref p) H') : newT Q xs H := ⟨hz, fun p hp => q p _ hp (Ex.new hp) upd_same⟩
theorem r_newL {Q : VK} {xs : List V} {H : Hp} (hz : xs.length ≤ sizeLine) (q : ∀ p H', H p = none → Ex H H' → H' p = some (.lst xs) → Q (.ref p) H') : newL Q xs H := ⟨hz, fun p hp => q p _ hp (Ex.new hp) upd_same⟩
/-! ### expressions -/
section
variable {K : PySem.W.Frag} {σ : L2.St} {H : Hp} {Q : VK} {ta tb te tc : TE} {t u : TT} {v x y : V} {i j : Int}
theorem r_var {n : Nat} (h : σ[n]? = some (some v)) (q : Q v H) : tVar n σ H Q := ⟨v, h, q⟩
theorem r_var3 {n : Nat} (q : Q v H) (h : σ[n]? = some (some v)) : tVar n σ H Q := ⟨v, h, q⟩
theorem r_c (q : Q v H) : tC v σ H Q := q
theorem r_op {r : R2} (q : ta σ H fun x H1 => tb σ H1 fun y H2 => r x y H2 Q) : tOp r ta tb σ H Q := q
theorem r_un {r : V → Hp → VK → Prop} (q : ta σ H fun x H1 => r x H1 Q) : tUn r ta σ H Q := q
theorem r_I0 {g : Int → Int → V} (q : Q (g i j) H) : rI0 g (.int i) (.int j) H Q := ⟨i, j, rfl, rfl, q⟩
theorem r_I {C : Int → Int → Prop} {g : Int → Int → V} (c : C i j) (q : Q (g i j) H) : rI C g (.int i) (.int j) H Q := ⟨i, j, rfl, rfl, c, q⟩
theorem r_U {g : Int → V} (q : Q (g i) H) : rU g (.int i) H Q := ⟨i, rfl, q⟩
theorem r_eq (h : scal x y = true) (q : Q (.bl (decide (x = y))) H) : rEq x y H Q := ⟨h, q⟩
theorem r_eqI (q : Q (.bl (decide (i = j))) H) : rEq (.int i) (.int j) H Q := ⟨rfl, by rwa [show decide (V.int i = V.int j) = decide (i = j) from by simp]⟩
theorem r_neI (q : Q (.bl (!decide (i = j))) H) : rNe (.int i) (.int j) H Q := ⟨rfl, by rwa [show decide (V.int i = V.int j) = decide (i = j) from by simp]⟩
theorem r_ne (h : scal x y = true) (q : Q (.bl (!decide (x = y))) H) : rNe x y H Q := ⟨h, q⟩
theorem r_test {R : Bool → Hp → Prop} (q : ta σ H fun x H' => ∃ k, x = .bl k ∧ R k H') : tTest ta σ H R := q
theorem r_B {R : Bool → Hp → Prop} (q : ta σ H fun x H' => ∃ k, x = .bl k ∧ R k H') : tB ta σ H R := q
theorem r_k {b : Bool} {R : Bool → Hp → Prop} (q : R b H) : ∃ k, V.bl b = .bl k ∧ R k H := ⟨b, rfl, q⟩
theorem r_and {R : Bool → Hp → Prop} (q : t σ H fun c H1 => if c = true then u σ H1 R else R false H1) : tAnd t u σ H R := q
theorem r_or {R : Bool → Hp → Prop} (q : t σ H fun c H1 => if c = true then R true H1 else u σ H1 R) : tOr t u σ H R := q
theorem r_not {R : Bool → Hp → Prop} (q : t σ H fun c H1 => R (!c) H1) : tNot t σ H R := q
theorem r_andV (q : ta σ H fun x H1 => ∃ c, x = .bl c ∧ if c = true then tb σ H1 Q else Q (.bl false) H1) : tAndV ta tb σ H Q := q
theorem r_orV (q : ta σ H fun x H1 => ∃ c, x = .bl c ∧ if c = true then Q (.bl true) H1 else tb σ H1 Q) : tOrV ta tb σ H Q := q
theorem r_notV (q : ta σ H fun x H1 => ∃ c, x = .bl c ∧ Q (.bl (!c)) H1) : tNotV ta σ H Q := q
theorem r_kV {b : Bool} {R : Bool → Prop} (q : R b) : ∃ c, V.bl b = .bl c ∧ R c := ⟨b, rfl, q⟩
theorem r_if (q : t σ H fun c H1 => if c = true then ta σ H1 Q else tb σ H1 Q) : tIf t ta tb σ H Q := q
theorem r_nil {R : List V → Hp → Prop} (q : R [] H) : tNil σ H R := q
theorem r_cons {tr : TA} {R : List V → Hp → Prop} (q : ta σ H fun x H1 => tr σ H1 fun xs H2 => R (x :: xs) H2) : tCons ta tr σ H R := q
theorem r_cb {r : List V → Hp → VK → Prop} {tr : TA} (q : tr σ H fun vs H1 => r vs H1 Q) : tCB r tr σ H Q := q
theorem r_call {sp : Sp} {E : XK} {tr : TA} (q : tr σ H fun vs H1 => sp (vs ++ []) H1 Q E) : tCall sp [] E tr σ H Q := q
theorem r_make {C : Addr} {sp : Sp} {E : XK} {tr : TA} (q : tr σ H (mkK C sp E Q)) : tMake C sp [] E tr σ H Q := q
theorem r_fld {a C dx : Addr} {fs : List (Str × V)} {f : Str} (h : H a = some (.ins C dx fs)) (c : Cls K C) (n : NoAttr K C f) (l : fs.lookup f = some v) (q : Q v H) : ∃ a' C dx fs v, V.ref a = .ref a' ∧ H a' = some (.ins C dx fs) ∧ Cls K C ∧ NoAttr K C f ∧ fs.lookup f = some v ∧ Q v H :=
  ⟨a, C, dx, fs, v, rfl, h, c, n, l, q⟩
theorem r_tup {tr : TA} (q : tr σ H (newT Q)) : tTup tr σ H Q := q
theorem r_lst {tr : TA} (q : tr σ H (newL Q)) : tLst tr σ H Q := q
/-! ### statements -/
variable {D : Ends} {ts tu : TS}
theorem r_seq (q : ts { D with nx := tu D } σ H) : tSeq ts tu D σ H := q
theorem r_asg {n : Nat} (q : te σ H fun x H1 => D.nx (σ.set n (some x)) H1) : tAsg te (gName n) D σ H := q
theorem r_asgG {g : TG} (q : te σ H fun x H1 => g x σ H1 D.nx) : tAsg te g D σ H := q
theorem r_ret (q : te σ H D.rt) : tRet te D σ H := q
theorem r_drop (q : te σ H fun _ H1 => D.nx σ H1) : tDrop te D σ H := q
theorem r_next (q : D.nx σ H) : tNext D σ H := q
theorem r_ifS (q : t σ H fun b H1 => if b = true then ts D σ H1 else tu D σ H1) : tIfS t ts tu D σ H := q
theorem r_raise {W : WX} {X : L2.St → Hp → XK → Prop} (q : X σ H fun cls d H' => W cls d σ H') : (fun (_ : Ends) σ H => X σ H fun cls d H' => W cls d σ H') D σ H := q
end
theorem ite_t {c : Bool} {A B : Prop} (hc : c = true) (h : A) : if c = true then A else B := by rw [if_pos hc]; exact h
theorem ite_f {c : Bool} {A B : Prop} (hc : c = false) (h : B) : if c = true then A else B := by rw [hc, if_neg Bool.false_ne_true]; exact h
theorem ite_b {c : Bool} {A B : Prop} (h1 : c = true → A) (h2 : c = false → B) : if c = true then A else B := by
  cases c with
  | true => rw [if_pos rfl]; exact h1 rfl
  | false => rw [if_neg Bool.false_ne_true]; exact h2 rfl

/-! ### own rules that the layer lacks -/
section
variable {X : Cx}
theorem pe_gint {x : Str} {pos : Pos} {i : Int} (hg : Gl X x) (h : ∃ t, X.mg x = some (.int i t)) (hd : (x == ("__debug__" : Str)) = false := by decide) : PE X (.Name x pos) (tC (.int i)) := let ⟨t, e⟩ := h; pe_glob hg e ⟨t, rfl⟩ hd
theorem pe_gstr {x : Str} {pos : Pos} {z : Str} (hg : Gl X x) (h : ∃ t, X.mg x = some (.str z t)) (hd : (x == ("__debug__" : Str)) = false := by decide) : PE X (.Name x pos) (tC (.str z)) := let ⟨t, e⟩ := h; pe_glob hg e ⟨t, rfl⟩ hd
def CPowW (i j : Int) : Prop := 0 ≤ j ∧ (Builtin.Int.intBits i : Int) * j ≤ 2 ^ 27
theorem op_powW : OpR X (binaryOp .Pow) (rI CPowW fun i j => .int (i ^ j.toNat)) := opI fun _ _ _ _ _ _ _ hc q => pow_int hc.1 hc.2 q
theorem cpow_of {i : Int} {n k : Nat} (h : i.natAbs < 2 ^ n) (hk : n * k ≤ 2 ^ 27) : CPowW i (k : Int) := by
  refine ⟨by omega, ?_⟩
  have b : Builtin.Int.intBits i ≤ n := by
    unfold Builtin.Int.intBits
    split
    · exact Nat.zero_le _
    · rename_i h0
      have h1 : i ≠ 0 := by simpa using h0
      have : i.natAbs.log2 < n := (Nat.log2_lt (by omega)).mpr h
      omega
  have : Builtin.Int.intBits i * k ≤ 2 ^ 27 := Nat.le_trans (Nat.mul_le_mul_right k b) hk
  exact_mod_cast this
end
end GS
/-! Comprehensions whose turns only let the heap grow; integers as texts. -/
namespace GS
open PySem PySem.Spec PyProof.Rows L2 TL
/-- the body of a comprehension's reading -/
def lcB (J : It) (g : TG) (tt : TT) (te : TE) (vs : List Nat) (σ : L2.St) (Q : VK) : Hp → Prop := fun H1 => ∀ D, H1 D = none → ∃ W : Nat → Nat → Hp → Prop, (∃ m, W 0 m (upd H1 D (.lst []))) ∧ ∀ i m H, W i m H → (J.stop i H ∧ Q (.ref D) H) ∨
  (J.go i H ∧ ∃ Nx : Hp → Prop, (∀ H', Nx H' → ∃ m', m' < m ∧ W (i + 1) m' H') ∧ ∀ x H', J.yld i H x H' → g x (wipe σ vs) H' fun σ2 H2 => wipe σ2 vs = wipe σ vs ∧ tt σ2 H2 fun b H3 => if b = true then te σ2 H3 fun y H4 => ∃ acc, H4 D = some (.lst acc) ∧ acc.length < sizeLine ∧ Nx (upd H4 D (.lst (acc ++ [y]))) else Nx H3)
theorem r_lc {wi : TI} {g : TG} {tt : TT} {te : TE} {vs : List Nat} {σ : L2.St} {H : Hp} {Q : VK} (q : wi σ H fun J H1 => lcB J g tt te vs σ Q H1) : tLc wi g tt te vs σ H Q := q
theorem r_chain {r r' : R2} {ta tb tc : TE} {σ : L2.St} {H : Hp} {Q : VK} (q : ta σ H fun x H1 => tb σ H1 fun y H2 => r x y H2 fun z H3 => ∃ k, z = .bl k ∧ (if k = true then tc σ H3 fun w' H4 => r' y w' H4 Q else Q (.bl false) H3)) : tChain r r' ta tb tc σ H Q := q
theorem all_true {K : PySem.W.Frag} {H : Hp} {p : Addr} {n : Nat} {Q : VK} (h : H p = some (.lst ((List.range n).map fun _ => V.bl true))) (q : Q (.bl true) H) : rAll K [.ref p] H Q := by
  refine ⟨p, (List.range n).map fun _ => true, rfl, SqL.of (by rw [List.map_map]; exact h), ?_⟩
  have e : ((List.range n).map fun _ => true).all id = true := by simp
  rw [e]
  exact q
theorem r_pickS {c : Prop} [Decidable c] {σ : L2.St} {H : Hp} {Q : VK} {ta tb : TE} {i j : Str} (h1 : ∀ Q : VK, Q (.str i) H → ta σ H Q) (h2 : ∀ Q : VK, Q (.str j) H → tb σ H Q) (q : Q (.str (if c then i else j)) H) : if decide c = true then ta σ H Q else tb σ H Q := by
  by_cases h : c
  · rw [if_pos h] at q
    exact ite_t (decide_eq_true h) (h1 Q q)
  · rw [if_neg h] at q
    exact ite_f (decide_eq_false h) (h2 Q q)
theorem r_iT {K : PySem.W.Frag} {tl : TE} {σ : L2.St} {H : Hp} {R : It → Hp → Prop} (q : tl σ H fun x H1 => ∃ a, x = .ref a ∧ (∃ xs, SqT K H1 a xs) ∧ R (Itt K a) H1) : iTup K tl σ H R := q
theorem r_iL {K : PySem.W.Frag} {tl : TE} {σ : L2.St} {H : Hp} {R : It → Hp → Prop} (q : tl σ H fun x H1 => ∃ a, x = .ref a ∧ (∃ xs, SqL K H1 a xs) ∧ R (Itl K a) H1) : iList K tl σ H R := q
theorem r_iR1 {ta : TA} {σ : L2.St} {H : Hp} {R : It → Hp → Prop} (q : ta σ H fun vs H1 => ∃ j : Int, vs = [.int j] ∧ -(2 ^ 62) ≤ j ∧ j < 2 ^ 62 ∧ R (Itr 0 j.toNat) H1) : iRng1 ta σ H R := q
theorem Ex.mut {H H' : Hp} {p : Addr} {o : HO} (e : Ex H H') (h : H p = none) : Ex H (upd H' p o) := fun a u ha => by
  rw [upd_ne (ne_of_none ha h)]
  exact e a u ha
theorem sz_le {n : Nat} (h : n ≤ 100000) : n ≤ sizeLine := Nat.le_trans h (by decide)
theorem sz_lt {n : Nat} (h : n < 100000) : n < sizeLine := Nat.lt_of_lt_of_le h (by decide)
/-- the items that a filtered comprehension gives -/
def given (n : Nat) (t : Nat → Bool) (f : Nat → V) : List V := ((List.range n).filter t).map f
theorem given_len (n : Nat) (t : Nat → Bool) (f : Nat → V) : (given n t f).length ≤ n := by
  unfold given
  rw [List.length_map]
  exact Nat.le_trans (List.length_filter_le _ _) (by rw [List.length_range]; exact Nat.le_refl _)
theorem given_all (n : Nat) (f : Nat → V) : given n (fun _ => true) f = (List.range n).map f := by
  unfold given
  rw [List.filter_eq_self.mpr (fun _ _ => rfl)]
theorem given_succ (n : Nat) (t : Nat → Bool) (f : Nat → V) : given (n + 1) t f = if t n = true then given n t f ++ [f n] else given n t f := by
  unfold given
  rw [List.range_succ, List.filter_append, List.map_append, List.filter_cons]
  split
  · rfl
  · show _ ++ [] = _
    rw [List.append_nil]
/-- one name, k its slot -/
theorem r_lcF {J : It} {n : Nat} {G : Hp → Prop} {Y : Nat → Hp → V → Hp → Prop} {k : Nat} {tt : TT} {te : TE} {σ : L2.St} {H1 : Hp} {Q : VK} (w : Walk J n G Y) (t : Nat → Bool) (f : Nat → V) (hn : n ≤ 50000) (hG : ∀ H' : Hp, Ex H1 H' → G H')
    (hw : ∀ x, wipe ((wipe σ [k]).set k (some x)) [k] = wipe σ [k])
    (hs : ∀ i x H H', i < n → Ex H1 H → Y i H x H' → Ex H H' ∧ ∀ R : Bool → Hp → Prop, (∀ H3, Ex H' H3 → R (t i) H3) → tt ((wipe σ [k]).set k (some x)) H' R)
    (he : ∀ i x H, i < n → t i = true → Ex H1 H → (∃ H0 H2, Y i H0 x H2 ∧ Ex H1 H0 ∧ Ex H0 H2 ∧ Ex H2 H) → ∀ R : VK, (∀ H4, Ex H H4 → R (f i) H4) → te ((wipe σ [k]).set k (some x)) H R)
    (q : ∀ p H', H1 p = none → Ex H1 H' → H' p = some (.lst (given n t f)) → Q (.ref p) H') : lcB J (gName k) tt te [k] σ Q H1 := by
  intro D hD
  refine lc_it w (fun i H => Ex H1 H ∧ H D = some (.lst (given i t f))) ⟨Ex.mut (Ex.refl _) hD, upd_same⟩ (fun i H _ p => hG H p.1) ?_ (fun H p => q D H hD p.1 p.2)
  intro i x H H' hi p y
  obtain ⟨e1, ht⟩ := hs i x H H' hi p.1 y
  refine ⟨hw x, ht _ fun H3 e3 => ?_⟩
  have hD3 : H3 D = some (.lst (given i t f)) := e3 _ _ (e1 _ _ p.2)
  cases c : t i with
  | false =>
    refine ite_f rfl ⟨(p.1.trans e1).trans e3, ?_⟩
    rw [given_succ, c]
    exact hD3
  | true =>
    refine ite_t rfl (he i x H3 hi c ((p.1.trans e1).trans e3) ⟨H, H', y, p.1, e1, e3⟩ _ fun H4 e4 => ?_)
    refine ⟨_, e4 _ _ hD3, sz_lt (by have := given_len i t f; omega), Ex.mut (((p.1.trans e1).trans e3).trans e4) hD, ?_⟩
    rw [given_succ, c]
    exact upd_same
/-- without a test -/
theorem r_lcM {J : It} {n : Nat} {G : Hp → Prop} {Y : Nat → Hp → V → Hp → Prop} {k : Nat} {te : TE} {σ : L2.St} {H1 : Hp} {Q : VK} (w : Walk J n G Y) (f : Nat → V) (hn : n ≤ 50000) (hG : ∀ H' : Hp, Ex H1 H' → G H')
    (hw : ∀ x, wipe ((wipe σ [k]).set k (some x)) [k] = wipe σ [k])
    (he : ∀ i x H H', i < n → Ex H1 H → Y i H x H' → Ex H H' ∧ ∀ H3, Ex H' H3 → ∀ R : VK, (∀ H4, Ex H3 H4 → R (f i) H4) → te ((wipe σ [k]).set k (some x)) H3 R)
    (q : ∀ p H', H1 p = none → Ex H1 H' → H' p = some (.lst ((List.range n).map f)) → Q (.ref p) H') : lcB J (gName k) tYes te [k] σ Q H1 := by
  refine r_lcF w (fun _ => true) f hn hG hw (fun i x H H' hi e y => ⟨(he i x H H' hi e y).1, fun R r => r H' (Ex.refl _)⟩) ?_ (fun p H' h1 h2 h3 => q p H' h1 h2 (by rw [given_all] at h3; exact h3))
  rintro i x H hi - e ⟨H0, H2, y, e0, e1, e2⟩ R r
  exact (he i x H0 H2 hi e0 y).2 H e2 R r
/-! ### integers as texts -/
def nS (i : Int) : Str := Str.ofString (toString i)
def dg (i : Int) : List Nat := numL i.natAbs
theorem tl_nS_nn {i : Int} (h : 0 ≤ i) : tl (nS i) = dg i := by
  obtain ⟨n, rfl⟩ := Int.eq_ofNat_of_zero_le h
  exact tl_num n
theorem tl_nS_neg {i : Int} (h : i < 0) : tl (nS i) = 45 :: dg i := by
  unfold nS dg
  have e : (0 - i) = ((i.natAbs : Nat) : Int) := by omega
  have f := tl_num i.natAbs
  rw [tl_ofString] at f
  rw [toString_neg h, tl_ofString, String.toList_append, List.map_append, e, f]
  rfl
theorem dg_digits (i : Int) : NumText.AllDigits (dg i) := numL_digits _
theorem dg_ne (i : Int) : dg i ≠ [] := numL_ne _
theorem dg_len {i : Int} {k : Nat} (hk : 0 < k) (h : i.natAbs < 10 ^ k) : (dg i).length ≤ k := numL_len hk h
theorem str_ext {a b : Str} (h : tl a = tl b) : a = b := ext_toList h
theorem nS_len {i : Int} {k : Nat} (hk : 0 < k) (h : i.natAbs < 10 ^ k) : (nS i).length ≤ k + 1 := by
  rw [len_tl]
  by_cases c : 0 ≤ i
  · rw [tl_nS_nn c]
    exact Nat.le_trans (dg_len hk h) (Nat.le_succ _)
  · rw [tl_nS_neg (by omega), List.length_cons]
    exact Nat.succ_le_succ (dg_len hk h)
/-- the sign and the digits apart -/
theorem nS_abs (i : Int) : nS i = (if i < 0 then Str.ofString "-" else Str.ofString "") ++ nS i.natAbs := by
  refine str_ext ?_
  have e : tl (nS (i.natAbs : Int)) = dg i := tl_nS_nn (i := (i.natAbs : Int)) (by omega)
  rw [tl_append, e]
  by_cases c : i < 0
  · rw [if_pos c, tl_nS_neg c]
    rfl
  · rw [if_neg c, tl_nS_nn (by omega)]
    rfl
theorem nS_free {i : Int} {s : Nat} (h : s ≠ 45) (h2 : s < 48 ∨ 57 < s) : s ∉ tl (nS i) := by
  by_cases c : 0 ≤ i
  · rw [tl_nS_nn c]
    exact numL_free h2
  · rw [tl_nS_neg (by omega)]
    intro hm
    rcases List.mem_cons.mp hm with e | e
    · exact h e
    · exact numL_free h2 e
theorem nS_int {i : Int} (h : i.natAbs < 10 ^ 600) : intText? (nS i) = some i := by
  have l := nS_len (k := 600) (by decide) h
  have v : ((NumText.digitsVal (dg i) : Nat) : Int) = i.natAbs := by unfold dg; rw [numL_val]
  by_cases c : 0 ≤ i
  · have e : (nS i).cps.toList = dg i := tl_nS_nn c
    rw [intText_digits (by rw [e]; exact dg_digits i) (by rw [e]; exact dg_ne i) (by omega), e, v]
    congr 1
    omega
  · have e : (nS i).cps.toList = 45 :: dg i := tl_nS_neg (by omega)
    rw [intText_neg e (dg_digits i) (dg_ne i) (by omega), v]
    congr 1
    omega
end GS
/-! A law's bag of drawn numbers; more stepping lemmas. -/
namespace GS
open PySem PySem.Spec PyProof.Rows L2 TL
/-! ### * of very great integers -/
def CMulB (i j : Int) : Prop := i.natAbs.log2 + j.natAbs.log2 < 100000000
theorem CMulB.ok {i j : Int} (h : CMulB i j) : IntMulOk i j := by
  have b : ∀ x : Int, Builtin.Int.intBits x ≤ x.natAbs.log2 + 1 := fun x => by
    unfold Builtin.Int.intBits
    split <;> omega
  have h1 := b i
  have h2 := b j
  unfold CMulB at h
  have e : bitsLine = 134217728 := by decide
  unfold IntMulOk
  intro z
  have z2 := (Bool.and_eq_true_iff.mp z).2
  unfold Builtin.Int.intTooBig at z2
  have z3 := of_decide_eq_true z2
  omega
theorem op_mulB {X : Cx} : OpR X (binaryOp .Mult) (rI CMulB fun i j => .int (i * j)) := opI fun _ _ _ _ _ _ _ hc q => mul_int q hc.ok
theorem lg_lt {i : Int} {n : Nat} (h : i.natAbs < 2 ^ n) (hn : 0 < n) : i.natAbs.log2 < n := PySem.Flt.log2_lt_of hn h
theorem mulB_of {i j : Int} {a b : Nat} (ha : i.natAbs < 2 ^ a) (hb : j.natAbs < 2 ^ b) (h0 : 0 < a) (h1 : 0 < b) (h : a + b ≤ 100000000) : CMulB i j := by
  have x := lg_lt ha h0
  have y := lg_lt hb h1
  unfold CMulB
  omega
/-! ### steps -/
section
variable {K : PySem.W.Frag} {σ : L2.St} {H : Hp} {Q : VK} {i j : Int} {b : Bool} {p : Addr} {xs : List V} {v : V}
theorem r_ixL (h : H p = some (.lst xs)) (e : atI xs i = some v) (q : Q v H) : rIxL K (.ref p) (.int i) H Q := ⟨_, _, _, _, rfl, rfl, SqL.of h, e, q⟩
theorem r_ixT (h : H p = some (.tup xs)) (e : atI xs i = some v) (q : Q v H) : rIxT K (.ref p) (.int i) H Q := ⟨_, _, _, _, rfl, rfl, SqT.of h, e, q⟩
theorem r_gSub {to ti : TE} {t : TSet} {N : L2.St → Hp → Prop} (q : to σ H fun o H1 => ti σ H1 fun i H2 => t o i v H2 fun H3 => N σ H3) : gSub to ti t v σ H N := q
theorem r_setL {k : Int} {n : Nat} {N : Hp → Prop} (h : H p = some (.lst xs)) (e : ixN xs.length k = some n) (q : N (upd H p (.lst (xs.set n v)))) : rSetL (.ref p) (.int k) v H N := ⟨p, xs, k, n, rfl, rfl, h, e, q⟩
theorem r_pow {v k : Int} (c : CPowW i k) (e : i ^ k.toNat = v) (q : Q (.int v) H) : rI CPowW (fun i j => .int (i ^ j.toNat)) (.int i) (.int k) H Q := r_I c (by rw [e]; exact q)
/-- what is wished behind int(..), abs(..), len(..) -/
def intK (Q : VK) : List V → Hp → Prop := fun xs H => (∃ i, xs = [V.int i] ∧ Q (.int i) H) ∨ ∃ k, xs = [V.bl k] ∧ Q (.int (if k = true then 1 else 0)) H
def absK (Q : VK) : List V → Hp → Prop := fun xs H => ∃ i, xs = [V.int i] ∧ Q (.int (if i < 0 then -i else i)) H
def lenK (K : PySem.W.Frag) (Q : VK) : List V → Hp → Prop := fun xs H => ∃ p ys, xs = [V.ref p] ∧ (SqL K H p ys ∨ SqT K H p ys) ∧ Q (.int ys.length) H
theorem r_cbInt {tr : TA} (q : tr σ H (intK Q)) : tCB (fun xs H Q => (∃ i, xs = [V.int i] ∧ Q (V.int i) H) ∨ ∃ k, xs = [V.bl k] ∧ Q (V.int (if k = true then 1 else 0)) H) tr σ H Q := q
theorem r_cbAbs {tr : TA} (q : tr σ H (absK Q)) : tCB (fun xs H Q => ∃ i, xs = [V.int i] ∧ Q (V.int (if i < 0 then -i else i)) H) tr σ H Q := q
theorem r_cbLen {tr : TA} (q : tr σ H (lenK K Q)) : tCB (fun xs H Q => ∃ p ys, xs = [V.ref p] ∧ (SqL K H p ys ∨ SqT K H p ys) ∧ Q (V.int ys.length) H) tr σ H Q := q
theorem r_intI (q : Q (.int j) H) : intK Q [.int j] H := .inl ⟨_, rfl, q⟩
theorem r_intB (q : Q (.int (if b = true then 1 else 0)) H) : intK Q [.bl b] H := .inr ⟨_, rfl, q⟩
theorem r_absI (q : Q (.int (if j < 0 then -j else j)) H) : absK Q [.int j] H := ⟨_, rfl, q⟩
theorem r_lenL (h : H p = some (.lst xs)) (q : Q (.int xs.length) H) : lenK K Q [.ref p] H := ⟨_, _, rfl, .inl (SqL.of h), q⟩
end
/-- a place where ways join -/
theorem r_seqJ {D : Ends} {ts tu : TS} {σ : L2.St} {H : Hp} (P : L2.St → Hp → Prop) (h : ∀ N : L2.St → Hp → Prop, (∀ σ' H', P σ' H' → N σ' H') → ts { D with nx := N } σ H) (h2 : ∀ σ' H', P σ' H' → tu D σ' H') : tSeq ts tu D σ H := h (tu D) h2
/-! ### lists of integers against one another -/
theorem dp_ints {K : PySem.W.Frag} {H : Hp} : ∀ xs : List Int, DpAll K H (xs.map V.int) (xs.map PyData.int)
  | [] => .nil
  | x :: xs => .cons (.int x) (dp_ints xs)
theorem can_ints : ∀ xs : List Int, PyData.canLayAll0 (xs.map PyData.int) = true
  | [] => rfl
  | x :: xs => by
    rw [List.map_cons]
    show (PyData.canLay0 (.int x) && PyData.canLayAll0 (xs.map PyData.int)) = true
    rw [can_ints xs]
    rfl
theorem depth_ints : ∀ xs : List Int, PyData.depthAll (xs.map PyData.int) = 0
  | [] => rfl
  | x :: xs => by
    rw [List.map_cons]
    show max (PyData.depth (.int x)) (PyData.depthAll (xs.map PyData.int)) = 0
    rw [depth_ints xs]
    rfl
theorem shaped_ints (xs : List Int) : SeqAt.shaped (.list (xs.map PyData.int)) = true ∧ SeqAt.shaped (.tuple (xs.map PyData.int)) = true := by
  have h1 := can_ints xs
  have h2 := depth_ints xs
  constructor
  · show (PyData.canLayAll0 (xs.map PyData.int) && decide (PyData.depthAll (xs.map PyData.int) + 1 ≤ 64)) = true
    rw [h1, h2]
    rfl
  · show (PyData.canLayAll0 (xs.map PyData.int) && decide (PyData.depthAll (xs.map PyData.int) + 1 ≤ 64)) = true
    rw [h1, h2]
    rfl
theorem eqv_ints : ∀ xs ys : List Int, PyData.eqvAll (xs.map PyData.int) (ys.map PyData.int) = decide (xs = ys)
  | [], [] => rfl
  | [], y :: ys => rfl
  | x :: xs, [] => rfl
  | x :: xs, y :: ys => by
    rw [List.map_cons, List.map_cons]
    show ((x == y) && PyData.eqvAll (xs.map PyData.int) (ys.map PyData.int)) = _
    rw [eqv_ints xs ys]
    by_cases c : x = y <;> simp [c]
/-- xs != ys, lists of integers -/
theorem r_neInts {K : PySem.W.Frag} {H : Hp} {Q : VK} {p q : Addr} {xs ys : List Int} (h1 : H p = some (.lst (xs.map V.int))) (h2 : H q = some (.lst (ys.map V.int))) (k : Q (.bl (!decide (xs = ys))) H) : rNeD K (.ref p) (.ref q) H Q := by
  refine ⟨_, _, .lst (SqL.of h1) (dp_ints xs), .lst (SqL.of h2) (dp_ints ys), (shaped_ints xs).1, (shaped_ints ys).1, ?_⟩
  show Q (.bl (!PyData.eqvAll (xs.map PyData.int) (ys.map PyData.int))) H
  rw [eqv_ints]
  exact k
theorem r_eqInts {K : PySem.W.Frag} {H : Hp} {Q : VK} {p q : Addr} {xs ys : List Int} (h1 : H p = some (.tup (xs.map V.int))) (h2 : H q = some (.tup (ys.map V.int))) (k : Q (.bl (decide (xs = ys))) H) : rEqD K (.ref p) (.ref q) H Q := by
  refine ⟨_, _, .tup (SqT.of h1) (dp_ints xs), .tup (SqT.of h2) (dp_ints ys), (shaped_ints xs).2, (shaped_ints ys).2, ?_⟩
  show Q (.bl (PyData.eqvAll (xs.map PyData.int) (ys.map PyData.int))) H
  rw [eqv_ints]
  exact k
/-! ### all but p is kept -/
def Bu (p : Addr) (H H' : Hp) : Prop := ∀ b o, b ≠ p → H b = some o → H' b = some o
theorem Bu.refl (p : Addr) (H : Hp) : Bu p H H := fun _ _ _ h => h
theorem Bu.trans {p : Addr} {H H1 H2 : Hp} (a : Bu p H H1) (b : Bu p H1 H2) : Bu p H H2 := fun c o n h => b c o n (a c o n h)
theorem Bu.upd {p : Addr} {H : Hp} {o : HO} : Bu p H (upd H p o) := fun b u n h => by rw [upd_ne n]; exact h
theorem Bu.of {p : Addr} {H H' : Hp} (e : Ex H H') : Bu p H H' := fun b o _ h => e b o h
/-- sizes -/
def Z (n : Nat) (i : Int) : Prop := i.natAbs < 2 ^ n
theorem Z.mono {n m : Nat} {i : Int} (h : Z n i) (l : n ≤ m) : Z m i := Nat.lt_of_lt_of_le h (Nat.pow_le_pow_right (by omega) l)
theorem Z.mul {n m : Nat} {i j : Int} (a : Z n i) (b : Z m j) : Z (n + m) (i * j) := wide_lt a b
theorem Z.add {n : Nat} {i j : Int} (a : Z n i) (b : Z n j) : Z (n + 1) (i + j) := by
  unfold Z at *
  have : (2 : Nat) ^ (n + 1) = 2 ^ n + 2 ^ n := by rw [Nat.pow_succ]; omega
  omega
theorem Z.sub {n : Nat} {i j : Int} (a : Z n i) (b : Z n j) : Z (n + 1) (i - j) := by
  unfold Z at *
  have : (2 : Nat) ^ (n + 1) = 2 ^ n + 2 ^ n := by rw [Nat.pow_succ]; omega
  omega
theorem Z.sq {n : Nat} {i : Int} (a : Z n i) : Z (n + n) (i ^ 2) := by rw [int_pow_two]; exact a.mul a
theorem mulOk {n m : Nat} {i j : Int} (a : Z n i) (b : Z m j) (hn : 0 < n) (hm : 0 < m) (h : n + m ≤ 1000000) : CMulW i j := wide_mul a b hn hm h
/-! ### the bag -/
structure Bag (H : Hp) (b : Addr) (n : Int) : Prop where
  is : ∃ (L : Addr) (xs : List Int) (at_ left : Int), H b = some (.lst [.ref L, .int at_, .int left]) ∧ H L = some (.lst (xs.map V.int)) ∧ L ≠ b ∧ 0 ≤ at_ ∧ at_ ≤ n ∧ 0 ≤ left ∧ xs.length ≤ 60 ∧ ∀ x ∈ xs, Z 2000000 x
theorem Bag.ex {H H' : Hp} {b : Addr} {n : Int} (h : Bag H b n) (e : Ex H H') : Bag H' b n := by
  obtain ⟨L, xs, a, l, h1, h2, h3⟩ := h.is
  exact ⟨L, xs, a, l, e _ _ h1, e _ _ h2, h3⟩
theorem Bag.le {H : Hp} {b : Addr} {n m : Int} (h : Bag H b n) (e : n ≤ m) : Bag H b m := by
  obtain ⟨L, xs, a, l, h1, h2, h3, h4, h5, h6⟩ := h.is
  exact ⟨L, xs, a, l, h1, h2, h3, h4, Int.le_trans h5 e, h6⟩
theorem Bag.ne {H : Hp} {b a : Addr} {n : Int} {o : HO} (h : Bag H b n) (ha : H a = some o) (ho : ∀ L x y, o ≠ .lst [.ref L, .int x, .int y]) : a ≠ b := by
  obtain ⟨L, xs, x, y, h1, _⟩ := h.is
  rintro rfl
  rw [ha] at h1
  exact ho _ _ _ (Option.some.inj h1)
/-- what a draw promises -/
def spDraw : Sp := sp2 fun b m H Q _ => ∃ p m' n, b = .ref p ∧ m = .int m' ∧ 0 < m' ∧ Z 1000 m' ∧ n ≤ 100000 ∧ Bag H p n ∧ ∀ r H', 0 ≤ r → r < m' → Bu p H H' → Bag H' p (n + 1) → Q (.int r) H'
theorem r_Draw {H : Hp} {Q : VK} {E : XK} {p : Addr} {m n : Int} (hb : Bag H p n) (hn : n ≤ 100000) (h0 : 0 < m) (hm : Z 1000 m) (k : ∀ r H', 0 ≤ r → r < m → Bu p H H' → Bag H' p (n + 1) → Q (.int r) H') : spDraw ([.ref p, .int m] ++ []) H Q E :=
  ⟨p, m, n, rfl, rfl, h0, hm, hn, hb, k⟩
end GS
/-! Calls by keywords alone; making an instance inside try. -/
namespace GS
open PySem PySem.Spec PyProof.Rows L2 TL
/-- the arguments in the parameters' order -/
def pm (ix : List Nat) {α : Type} (us ws : List α) : List α := ix.filterMap fun i => (us ++ ws)[i]?
theorem pm_vals (ix : List Nat) {vs zs : List V} {us ws : List Value} (a : Vals vs us) (b : Vals zs ws) : Vals (pm ix vs zs) (pm ix us ws) := by
  have c := a.append b
  unfold pm
  generalize vs ++ zs = l at c
  generalize us ++ ws = m at c
  induction ix with
  | nil => exact .nil
  | cons i ix ih =>
    cases h : l[i]? with
    | none =>
      rw [List.filterMap_cons_none h, List.filterMap_cons_none (c.none_of h)]
      exact ih
    | some x =>
      obtain ⟨u, hu, r⟩ := c.get h
      rw [List.filterMap_cons_some h, List.filterMap_cons_some hu]
      exact .cons r ih
theorem kb_of {K : PySem.W.Frag} {x qual : Str} {params : Arguments} {body : List Stmt} {scope : Scope} {kws : List (Str × V)} {f : Addr} {fd : FuncData} {ps : List Str} (F : FunD K x qual params body scope [] kws f fd) (n : Nat) (ks : List Str) (ix : List Nat)
    (h : ∀ (kV doc pmv : Value) (an : Option Addr) (cdv ct : Value) (us ws : List Value), us.length = n → ws.length = ks.length → bindArgs (PySem.W.fnOf x qual params body scope .none kV doc pmv an cdv ct) ⟨us, ks.zip ws⟩ = pure (ps.zip (pm ix us ws))) : KBn K fd ps n ks (pm ix) (pm ix) := by
  obtain ⟨oc, od, dV, kV, doc, pmv, an, cdv, ct, osl, rfl, lk, hcd, hD, hK⟩ := F.ex
  rcases hD with ⟨-, rfl⟩ | ⟨no, -⟩
  · exact ⟨fun s us ws _ l1 l2 => .of_eq (h kV doc pmv an cdv ct us ws l1 l2), pm_vals ix⟩
  · exact absurd rfl no
section
variable {X : Cx} {CX : CXT} {k : Nat} {f C : Addr} {fd : FuncData} {ps ks : List Str} {sp : Sp} {x : Str} {p pos : Pos} {g : List Value → List Value → List Value} {gV : List V → List V → List V}
/-- f(k = v, ..) -/
theorem pe_callK0 {E : XK} {kws : List Keyword} {tk : TA} (F : FnOk X.prog X.w X.K X.mg X.base CX k f fd ps sp) (hr : Room k X.A) (hg : Gl X x) (hm : X.mg x = some (.ref f)) (keep : PySem.W.keepIn X.K (.ref f) = true) (kb : KBn X.K fd ps 0 ks g gV) (hx : Passes CX X E) (hw : PK X kws tk)
    (named : (backToKw pos (keywordEach kws X.env)).all (·.1.isSome) = true := by rfl) (names : (backToKw pos (keywordEach kws X.env)).filterMap (·.1) = ks := by rfl) (nodb : (x == ("__debug__" : Str)) = false := by decide)
    (plain : ((backTo pos (starEach [] X.env)).any (·.1) || (backToKw pos (keywordEach kws X.env)).any (·.1.isNone)) = false := by rfl) : PE X (.Call (.Name x p) [] kws pos) (tCallN 0 ks.length sp gV E tNil tk) := by
  refine ⟨fun pins s σ H Q I h => wpAny_Call_Name_kw (ld_glob I hg hm ?_ nodb)⟩
  refine PySem.W.callWith_KW0 (h₀ := X.base) I.ok.mod.kin keep named (thn (hw.run pos pins s σ H _ I h) fun ws s2 ⟨zs, H2, I2, rz, m1, m2, q⟩ => ⟨I2.kIn, ?_⟩) plain
  rw [names]
  exact run_fnN F hr kb hx I2 .nil rz m1 m2 q
/-- C(e, ..) inside try: what passes may lean on the slots -/
def tMakeS (C : Addr) (sp : Sp) (E : L2.St → XK) (t : TA) : TE := fun σ H Q => t σ H (mkK C sp (E σ) Q)
theorem pe_makeS {E : L2.St → XK} {e : Expr} {es : List Expr} {t : TA} (M : Mk X.K C f) (F : FnOk X.prog X.w X.K X.mg X.base CX k f fd ps sp) (hr : Room (k + 1) X.A) (hg : Gl X x) (hm : X.mg x = some (.ref C)) (hb : Binds X.K fd ps []) (hx : ∀ σ, PassesAt CX X σ (E σ)) (ha : PA X (e :: es) t)
    (nodb : (x == ("__debug__" : Str)) = false := by decide) (st : starEach (e :: es) X.env = (false, eval e X.env) :: starEach es X.env := by rfl) (plain : (backTo pos (starEach es X.env)).any (·.1) = false := by rfl) :
    PE X (.Call (.Name x p) (e :: es) [] pos) (tMakeS C sp E t) := by
  refine ⟨fun pins s σ H Q I h => wpAny_Call_Name_kw (ld_glob I hg hm ?_ nodb)⟩
  refine PySem.W.callWith_K (h₀ := X.base) I.ok.mod.kin M.kp (thn (ha.run pos pins s σ H _ I h) fun us s1 ⟨vs, H1, I1, r, q⟩ => ⟨I1.kIn, ?_⟩) st plain
  have n0 := I1.hok.fresh (Nat.le_refl s1.heap.objs.size)
  have n1 := I1.hok.fresh (Nat.le_succ s1.heap.objs.size)
  have w1 := q _ _ n1 n0 (Nat.ne_of_lt (Nat.lt_succ_self _))
  have J := Inv.made (C := C) I1
  have rs : Vals (V.ref (s1.heap.objs.size + 1) :: (vs ++ [])) (Value.ref (s1.heap.objs.size + 1) :: us) := by
    rw [List.append_nil]
    exact .cons rfl r
  have many : (Value.ref (s1.heap.objs.size + 1) :: us).length = ps.length := rs.length.symm.trans (F.len _ _ _ _ w1)
  have bound := hb _ (Value.ref (s1.heap.objs.size + 1) :: us) J.kIn (by rw [List.append_nil]; exact many)
  rw [List.append_nil] at bound
  refine wpAny_call (make_map (f := f) I1.kIn M.makes M.init (beq_iff_eq.mp M.fn) (codeAny_mono (F.run _ X.stack _ _ ⟨_ :: us, []⟩ _ _ _ (E σ) (hr.make C us []) (J.env0.make C us []) bound rs w1) fun out s' got => ?_))
  match out, got with
  | .error y, got => exact hx σ pins _ _ y s' J got
  | .ok (.ret u), got =>
    obtain ⟨v, H3, J3, rv, ⟨nv, fine⟩⟩ := J.after got
    rw [nv] at rv
    exact ⟨rv, V.ref (s1.heap.objs.size + 1), H3, J3, rfl, fine⟩
/-! steps -/
variable {σ : L2.St} {H : Hp} {Q : VK} {E : XK} {m : Nat} {t tk : TA}
def clKN (m : Nat) (sp : Sp) (gV : List V → List V → List V) (E : XK) (Q : VK) : List V → Hp → Prop := fun zs H2 => ([] : List V).length = 0 ∧ zs.length = m ∧ sp (gV [] zs) H2 Q E
theorem r_callN0 (q : tk σ H (clKN m sp gV E Q)) : tCallN 0 m sp gV E tNil tk σ H Q := q
theorem r_clKN {zs vs : List V} (l : zs.length = m) (e : gV [] zs = vs) (q : sp (vs ++ []) H Q E) : clKN m sp gV E Q zs H := ⟨rfl, l, by rw [e]; rwa [List.append_nil] at q⟩
def mkKN (m : Nat) (C : Addr) (sp : Sp) (gV : List V → List V → List V) (E : XK) (Q : VK) : List V → Hp → Prop := fun zs H2 => ([] : List V).length = 0 ∧ zs.length = m ∧ ∀ x dx, H2 x = none → H2 dx = none → dx ≠ x → sp (gV [.ref x] zs) (upd (upd H2 dx (.own x)) x (.ins C dx [])) (fun v H3 => v = .non ∧ Q (.ref x) H3) E
theorem r_makeK0 (q : tk σ H (mkKN m C sp gV E Q)) : tMakeK C 0 m sp gV E tNil tk σ H Q := q
theorem r_mkKN {zs vs : List V} (l : zs.length = m) (e : ∀ x, gV [.ref x] zs = .ref x :: (vs ++ [])) (q : mkK C sp E Q vs H) : mkKN m C sp gV E Q zs H := ⟨rfl, l, fun x dx h1 h2 h3 => by rw [e]; exact q x dx h1 h2 h3⟩
theorem r_makeS {E : L2.St → XK} (q : t σ H (mkK C sp (E σ) Q)) : tMakeS C sp E t σ H Q := q
theorem r_callS {E : L2.St → XK} (q : t σ H fun vs H1 => sp vs H1 Q (E σ)) : tCallS sp E t σ H Q := q
end
theorem r_gCons {g : TG} {gs : TGs} {x : V} {xs : List V} {σ : L2.St} {H : Hp} {N : L2.St → Hp → Prop} (q : g x σ H fun σ' H' => gs xs σ' H' N) : gCons g gs (x :: xs) σ H N := ⟨x, xs, rfl, q⟩
theorem r_gNil {σ : L2.St} {H : Hp} {N : L2.St → Hp → Prop} (q : N σ H) : gNil [] σ H N := ⟨rfl, q⟩
theorem r_gName {n : Nat} {x : V} {σ : L2.St} {H : Hp} {N : L2.St → Hp → Prop} (q : N (σ.set n (some x)) H) : gName n x σ H N := q
theorem r_gTup {K : PySem.W.Frag} {n : Nat} {gs : TGs} {p : Addr} {xs : List V} {σ : L2.St} {H : Hp} {N : L2.St → Hp → Prop} (h : H p = some (.tup xs)) (l : xs.length = n) (q : gs xs σ H N) : gTup K n gs (.ref p) σ H N := ⟨p, xs, rfl, SqT.of h, l, q⟩
/-- a, b = c, d -/
def parK (i j : Nat) (σ : L2.St) (N : L2.St → Hp → Prop) : List V → Hp → Prop := fun vs H1 => ∃ v w, vs = [v, w] ∧ N ((σ.set i (some v)).set j (some w)) H1
theorem r_par {i j : Nat} {ta : TA} {D : Ends} {σ : L2.St} {H : Hp} (q : ta σ H (parK i j σ D.nx)) : tPar i j ta D σ H := q
theorem r_parK {i j : Nat} {N : L2.St → Hp → Prop} {σ : L2.St} {H : Hp} {v w : V} (q : N ((σ.set i (some v)).set j (some w)) H) : parK i j σ N [v, w] H := ⟨v, w, rfl, q⟩
/-! clauses -/
theorem r_wAs {D : Ends} {c : Value} {i : Nat} {ts : Addr → Value → Option Addr → TS} {a : Addr} {cls : Value} {d : Option Addr} {σ : L2.St} {H : Hp} (q : ts a cls d (asEnds i D) (σ.set i (some (.ref a))) H) : wCl D (c, some i, ts) a cls d σ H := q
theorem r_cl1 {K : PySem.W.Frag} {Wout : WX} {D : Ends} {c : Value} {o : Option Nat} {ts : Addr → Value → Option Addr → TS} {r : List Cl} {cls : Value} {d : Option Addr} {σ : L2.St} {H : Hp} (y : PySem.W.exmOne K cls c = some true) (q : ∀ a, H a = none → wCl D (c, o, ts) a cls d σ H) : wCls K Wout D ((c, o, ts) :: r) cls d σ H := ⟨true, y, fun _ => q, fun z => by cases z⟩
theorem r_cl0 {K : PySem.W.Frag} {Wout : WX} {D : Ends} {c : Value} {o : Option Nat} {ts : Addr → Value → Option Addr → TS} {r : List Cl} {cls : Value} {d : Option Addr} {σ : L2.St} {H : Hp} (n : PySem.W.exmOne K cls c = some false) (q : wCls K Wout D r cls d σ H) : wCls K Wout D ((c, o, ts) :: r) cls d σ H := ⟨false, n, fun z => (by cases z), fun _ => q⟩
theorem r_xf {a C dd : Addr} {f : Str} {te : TE} {σ : L2.St} {H : Hp} {Q : VK} {fs : List (Str × V)} {v : V} (h : H dd = some (.xd fs)) (l : fs.lookup f = some v) (s : te σ H (fun x H1 => x = .ref a ∧ H1 = H)) (m : ∀ {P P' : VK}, te σ H P → (∀ x H1, P x H1 → P' x H1) → te σ H P') (q : Q v H) : tXf a (.ref C) (some dd) C f te σ H Q :=
  m s fun x H1 e => ⟨e.1, rfl, dd, fs, v, rfl, by rw [e.2]; exact h, l, by rw [e.2]; exact q⟩
theorem r_smeth {C : Addr} {sp : Sp} {E : XK} {t : TA} {σ : L2.St} {H : Hp} {Q : VK} (q : t σ H fun vs H2 => sp vs H2 Q E) : tSMeth C sp E (tC (.ref C)) t σ H Q := ⟨rfl, q⟩
theorem r_yes {σ : L2.St} {H : Hp} {R : Bool → Hp → Prop} (q : R true H) : tYes σ H R := q
/-- each turn gives a new tuple of the same items -/
theorem r_lcT {J : It} {n : Nat} {G : Hp → Prop} {Y : Nat → Hp → V → Hp → Prop} {k : Nat} {te : TE} {σ : L2.St} {H1 : Hp} {Q : VK} (w : Walk J n G Y) (o : List V) (hn : n ≤ 50000) (hG : ∀ H' : Hp, Ex H1 H' → G H')
    (hw : ∀ x, wipe ((wipe σ [k]).set k (some x)) [k] = wipe σ [k])
    (he : ∀ i x H H', i < n → Ex H1 H → Y i H x H' → Ex H H' ∧ ∀ R : VK, (∀ t H4, Ex H' H4 → H4 t = some (.tup o) → R (.ref t) H4) → te ((wipe σ [k]).set k (some x)) H' R)
    (q : ∀ p ys H', H1 p = none → Ex H1 H' → H' p = some (.lst ys) → ys.length = n → (∀ y ∈ ys, ∃ t, y = .ref t ∧ H' t = some (.tup o)) → Q (.ref p) H') : lcB J (gName k) tYes te [k] σ Q H1 := by
  intro D hD
  refine lc_it w (fun i H => Ex H1 H ∧ ∃ ys, H D = some (.lst ys) ∧ ys.length = i ∧ ∀ y ∈ ys, ∃ t, y = .ref t ∧ H t = some (.tup o)) ⟨Ex.mut (Ex.refl _) hD, [], upd_same, rfl, fun _ z => by cases z⟩ (fun i H _ p => hG H p.1) ?_ (fun H p => let ⟨ys, h1, h2, h3⟩ := p.2; q D ys H hD p.1 h1 h2 h3)
  intro i x H H' hi p y
  obtain ⟨p1, ys, p2, p3, p4⟩ := p
  obtain ⟨e1, hte⟩ := he i x H H' hi p1 y
  refine ⟨hw x, ?_⟩
  refine r_yes ?_
  rw [if_pos rfl]
  refine hte _ fun t H4 e4 h4 => ⟨ys, e4 _ _ (e1 _ _ p2), sz_lt (by omega), Ex.mut ((p1.trans e1).trans e4) hD, ys ++ [.ref t], upd_same, (by rw [List.length_append, p3]; rfl), fun z hz => ?_⟩
  have keep' : ∀ {t : Addr} (l : List V), H4 t = some (.tup o) → upd H4 D (.lst l) t = some (.tup o) := fun {t} l ht => by
    rw [upd_ne (fun e => ?_)]
    · exact ht
    · rw [e, e4 _ _ (e1 _ _ p2)] at ht
      cases ht
  rcases List.mem_append.mp hz with hz | hz
  · obtain ⟨t', rfl, ht'⟩ := p4 z hz
    exact ⟨t', rfl, keep' _ (e4 _ _ (e1 _ _ ht'))⟩
  · obtain rfl := List.mem_singleton.mp hz
    exact ⟨t, rfl, keep' _ h4⟩
/-- the same, the items told by the turn -/
theorem r_lcI {J : It} {n : Nat} {G : Hp → Prop} {Y : Nat → Hp → V → Hp → Prop} {k : Nat} {te : TE} {σ : L2.St} {H1 : Hp} {Q : VK} (w : Walk J n G Y) (o : Nat → List V) (hn : n ≤ 50000) (hG : ∀ H' : Hp, Ex H1 H' → G H')
    (hw : ∀ x, wipe ((wipe σ [k]).set k (some x)) [k] = wipe σ [k])
    (he : ∀ i x H H', i < n → Ex H1 H → Y i H x H' → Ex H H' ∧ ∀ R : VK, (∀ t H4, Ex H' H4 → H4 t = some (.tup (o i)) → R (.ref t) H4) → te ((wipe σ [k]).set k (some x)) H' R)
    (q : ∀ p ys H', H1 p = none → Ex H1 H' → H' p = some (.lst ys) → ys.length = n → (∀ i y, ys[i]? = some y → ∃ t, y = .ref t ∧ H' t = some (.tup (o i))) → Q (.ref p) H') : lcB J (gName k) tYes te [k] σ Q H1 := by
  intro D hD
  refine lc_it w (fun i H => Ex H1 H ∧ ∃ ys, H D = some (.lst ys) ∧ ys.length = i ∧ ∀ j y, ys[j]? = some y → ∃ t, y = .ref t ∧ H t = some (.tup (o j))) ⟨Ex.mut (Ex.refl _) hD, [], upd_same, rfl, fun j y z => by simp at z⟩ (fun i H _ p => hG H p.1) ?_ (fun H p => let ⟨ys, h1, h2, h3⟩ := p.2; q D ys H hD p.1 h1 h2 h3)
  intro i x H H' hi p y
  obtain ⟨p1, ys, p2, p3, p4⟩ := p
  obtain ⟨e1, hte⟩ := he i x H H' hi p1 y
  refine ⟨hw x, ?_⟩
  refine r_yes ?_
  rw [if_pos rfl]
  refine hte _ fun t H4 e4 h4 => ⟨ys, e4 _ _ (e1 _ _ p2), sz_lt (by omega), Ex.mut ((p1.trans e1).trans e4) hD, ys ++ [.ref t], upd_same, (by rw [List.length_append, p3]; rfl), fun j z hz => ?_⟩
  have keep' : ∀ {t : Addr} {u : List V} (l : List V), H4 t = some (.tup u) → upd H4 D (.lst l) t = some (.tup u) := fun {t u} l ht => by
    rw [upd_ne (fun e => ?_)]
    · exact ht
    · rw [e, e4 _ _ (e1 _ _ p2)] at ht
      cases ht
  by_cases hj : j < ys.length
  · rw [List.getElem?_append_left hj] at hz
    obtain ⟨t', rfl, ht'⟩ := p4 j z hz
    exact ⟨t', rfl, keep' _ (e4 _ _ (e1 _ _ ht'))⟩
  · rw [List.getElem?_append_right (by omega)] at hz
    have : j - ys.length = 0 := by
      have := (List.getElem?_eq_some_iff.mp hz).1
      simp at this
      omega
    rw [this] at hz
    have hz' : V.ref t = z := Option.some.inj hz
    have : j = i := by omega
    subst this
    exact ⟨t, hz'.symm, keep' _ h4⟩
/-- the body of a for's reading -/
def forB (J : It) (g : TG) (tb : TS) (D : Ends) (σ : L2.St) (H1 : Hp) : Prop := ∃ W : Nat → Nat → L2.St → Hp → Prop, (∃ m, W 0 m σ H1) ∧ ∀ i m σ H, W i m σ H →
  (J.stop i H ∧ D.nx σ H) ∨ (J.go i H ∧ ∃ N : L2.St → Hp → Prop, (∀ σ' H', N σ' H' → ∃ m', m' < m ∧ W (i + 1) m' σ' H') ∧ ∀ x H', J.yld i H x H' → g x σ H' fun σ2 H2 => tb { D with nx := N, ct := N, bk := D.nx } σ2 H2)
theorem r_for {wi : TI} {g : TG} {tb : TS} {D : Ends} {σ : L2.St} {H : Hp} (q : wi σ H fun J H1 => forB J g tb D σ H1) : tFor wi g tb D σ H := q
theorem for_of {J : It} {n : Nat} {G : Hp → Prop} {Y : Nat → Hp → V → Hp → Prop} (w : Walk J n G Y) {g : TG} {tb : TS} {D : Ends} {σ : L2.St} {H : Hp} (Pv : Nat → L2.St → Hp → Prop) (h0 : Pv 0 σ H) (hG : ∀ i σ H, i ≤ n → Pv i σ H → G H)
    (hs : ∀ i x σ H H', i < n → Pv i σ H → Y i H x H' → g x σ H' fun σ2 H2 => tb { D with nx := Pv (i + 1), ct := Pv (i + 1), bk := D.nx } σ2 H2) (hd : ∀ σ H, Pv n σ H → D.nx σ H) : forB J g tb D σ H := for_it w Pv h0 hG hs hd
theorem cr_isi {X : Cx} {K : PySem.W.Frag} (h : X.K = K) : CallR X (.builtin "isinstance") (rIsi K) := by
  subst h
  exact call_isi
end GS
/-! any(..) of integers. -/
namespace GS
open PySem PySem.Spec PyProof.Rows L2 TL
theorem truthOf_ints {prog : Program} {w : World} {A : Around} {ns : List Int} {its : List Value} (r : Vals (ns.map V.int) its) : TruthOf prog w A (fun i v => its.toArray[i]? = some v) (fun i => ns.getD i 0 != 0) := fun i v s Q E hv hq => by
  have there : its[i]? = some v := by simpa using hv
  have hl := r.length
  rw [List.length_map] at hl
  have hi : i < ns.length := by have := (List.getElem?_eq_some_iff.mp there).1; omega
  obtain ⟨u, hu, t, e⟩ := r.get (i := i) (x := V.int ns[i]) (by simp [hi])
  rw [there] at hu
  cases hu
  rw [e]
  have g : ns.getD i 0 = ns[i] := by simp [hi]
  simp only [g] at hq
  exact truthy_int hq
theorem any_getD (ns : List Int) : ((List.range ns.length).any fun i => ns.getD i 0 != 0) = ns.any (· != 0) := by
  induction ns with
  | nil => rfl
  | cons n ns ih =>
    rw [List.length_cons, List.range_succ_eq_map, List.any_cons, List.any_map, List.any_cons, ← ih]
    rfl
def rAnyI (K : PySem.W.Frag) : List V → Hp → VK → Prop := fun vs H Q => ∃ (a : Addr) (ns : List Int), vs = [V.ref a] ∧ (SqL K H a (ns.map V.int) ∨ SqT K H a (ns.map V.int)) ∧ Q (.bl (ns.any (· != 0))) H
theorem cr_anyI {X : Cx} {K : PySem.W.Frag} (hk : X.K = K) (calm : X.calm = true) : CallR X (.builtin "any") (rAnyI K) := by
  subst hk
  intro pins s σ H vs us Q I r got
  obtain ⟨a, ns, rfl, hs, q⟩ := got
  rw [Vals.ref1 r]
  have close : ∀ {its : List Value}, Vals (ns.map V.int) its → ∀ (n : Addr) {ob : Obj} (h' : Heap) (tk : Tok), n = s.heap.objs.size → (∀ b o, b ∉ [n] → (s.heap.push ob).get? b = some o → h'.get? b = some o) →
      EP X pins σ Q (.bool ((List.range its.toArray.size).any fun i => ns.getD i 0 != 0)) { s with heap := h', toks := tk } := by
    intro its rv n ob h' tk en kept
    have sz : its.toArray.size = ns.length := by rw [List.size_toArray, ← rv.length, List.length_map]
    rw [sz, any_getD]
    refine ⟨.bl _, H, I.kept fun b o eo => kept b o (fun hm => ?_) (Heap.get?_push_of_some _ eo), rfl, q⟩
    rw [List.mem_singleton.mp hm, en] at eo
    exact absurd (Heap.lt_size eo) (Nat.lt_irrefl _)
  rcases hs with hs | hs
  · obtain ⟨its, rv, hl, _⟩ := I.list hs
    refine call_any_walk (iter_any hl.isList fun s₂ e2 st ne => ?_)
    rw [e2] at st ⊢
    exact ⟨_, _, _, _, _, _, _, rfl, Walks.list (A := X.A.in1) (I.ok.hd calm) _ a ne its.toArray, st, truthOf_ints rv, fun h' tk hk => close rv _ h' tk rfl hk⟩
  · obtain ⟨its, rv, ht, _⟩ := I.tuple hs
    refine call_any_walk (iter_tuple ht ?_)
    exact ⟨_, _, _, _, _, _, _, rfl, Walks.tuple (A := X.A.in1) (I.ok.hd calm) _ a (Nat.ne_of_lt ht.lt) its.toArray, ⟨⟨_, Heap.get?_push_size _ rfl, rfl, rfl⟩, ht.push _⟩, truthOf_ints rv, fun h' tk hk => close rv _ h' tk rfl hk⟩
end GS
/-! enumerate(tuple). -/
namespace GS
open PySem PySem.Spec PyProof.Rows L2 TL
/-- the tuple at a, each item with its place in a new pair -/
def IteT (K : PySem.W.Frag) (a : Addr) : It where
  go := fun i H => ∃ (xs : List V) (x : V), SqT K H a xs ∧ xs[i]? = some x
  yld := fun i H v H' => ∃ T x, v = .ref T ∧ H T = none ∧ H' = upd H T (.tup [.int (i : Nat), x]) ∧ ∀ xs, SqT K H a xs → xs[i]? = some x
  stop := fun i H => ∃ xs : List V, SqT K H a xs ∧ xs.length ≤ i
/-- a tuple's iterator that is at its end -/
theorem draws_end {prog : Program} {w : World} {A : Around} (hh : A.handled = none) (it t : Addr) (items : Array Value) (n : Nat) (hn : items[n]? = none) (ne : t ≠ it) :
    Draws prog w A it [it, t] n (fun _ _ => False) (fun j h => j = n ∧ h.IsTupleIter it t n ∧ h.IsTuple t items) where
  live := fun _ _ st => let ⟨o, ho, _⟩ := st.2.1; ⟨o, ho⟩
  frame := fun _ _ _ st kept => ⟨st.1, st.2.1.at fun o q => kept it (by simp) o q, st.2.2.at fun o q => kept t (by simp) o q⟩
  item := fun i s Q E hi st _ => absurd st.1 (Nat.ne_of_lt hi)
  done := fun s Q E st out => wpAny_nextOf_tuple_end hh st.2.1 st.2.2 hn out
theorem turn_enumT {P : Program} {w : World} {K : PySem.W.Frag} {elts : List Expr} {kk : Nat} {tpos : Pos} (a e it : Addr) :
    Turn P w K (.Tuple elts kk tpos) (IteT K a) [e, it] e (fun i h => (∃ old, IsEnum h e it ((i : Nat) : Int) old) ∧ h.IsTupleIter it a i ∧ e ≠ it ∧ a ≠ it ∧ a ≠ e) where
  mem := by simp
  obj := by
    intro i h st b hb
    obtain ⟨⟨old, he⟩, ⟨o, ho, hc, hd⟩, -, -, -⟩ := st
    rcases List.mem_cons.mp hb with rfl | hb
    · exact ⟨_, he, fun v q => nomatch q⟩
    · rw [List.mem_singleton.mp hb]
      exact ⟨o, ho, fun v q => by rw [hd] at q; cases q⟩
  keep := by
    intro i h h' st k
    obtain ⟨⟨old, he⟩, hi, ns⟩ := st
    exact ⟨⟨old, k e (by simp) _ he⟩, hi.at fun o q => k it (by simp) o q, ns⟩
  item := by
    intro X hP hw hK hc i pins s σ H E I hf st hg
    subst hP hw hK
    obtain ⟨⟨old, he⟩, hit, hne, ha1, ha2⟩ := st
    obtain ⟨xs, x, hq, hx⟩ := hg
    obtain ⟨its, rv, tp, hz⟩ := I.tuple hq
    obtain ⟨u, hu, ru⟩ := rv.get hx
    have hlt : i < its.toArray.size := by
      have := (List.getElem?_eq_some_iff.mp hu).1
      simpa using this
    have elt := Heap.lt_size he
    have ilt : it < s.heap.objs.size := by
      obtain ⟨_, q, _⟩ := hit
      exact Heap.lt_size q
    refine wpAny_pyNext_enum_itemD (Draws.tuple (A := X.A.in1) (I.ok.hd hc) it a ha1 its.toArray) he ⟨hit, tp⟩ hlt hne (by simp [hne, Ne.symm ha2]) fun x' h' tk hp ho st' hT hsz hk => ?_
    have : x' = u := by
      have hp' : its[i]? = some x' := by simpa using hp
      rw [hu] at hp'
      exact (Option.some.inj hp').symm
    subst this
    refine ⟨_, rfl, wpAny_letOwnedTupleGo_enum (s := { s with heap := h', toks := tk + 1 }) ho fun h2 he2 sb => ?_⟩
    have hT2 : h2.get? s.heap.objs.size = some { cls := .type "tuple", data := .seq #[.int i tk, x'] } := (sb.2 _ (Nat.ne_of_gt elt)).trans hT
    have pair : ObjOk X.prog X.w (upd H s.heap.objs.size (.tup [.int (i : Nat), x])) h2 s.heap.objs.size (.tup [.int (i : Nat), x]) := by
      refine ⟨?_, [.int i tk, x'], .cons ⟨_, rfl⟩ (.cons ru .nil), ⟨_, hT2, rfl, _, rfl⟩⟩
      show 2 ≤ sizeLine
      decide
    have J : Inv X pins σ (upd H s.heap.objs.size (.tup [.int (i : Nat), x])) { s with heap := h2, toks := tk + 1 } := by
      refine I.turnedNew (ch := [e, it]) (fun b ob hb q => ?_) hf (Nat.le_refl _) pair
      have n1 : b ≠ e := fun z => hb (by simp [z])
      have n2 : b ≠ it := fun z => hb (by simp [z])
      exact (sb.2 b n1).trans (hk b ob n1 n2 q)
    refine ⟨.ref s.heap.objs.size, _, J, rfl, ⟨_, x, rfl, I.hok.fresh (Nat.le_refl _), rfl, fun ys hy => by rw [I.tuple_inj hy hq]; exact hx⟩, ⟨⟨x', ?_⟩, st'.1.at fun o q => (sb.2 it (Ne.symm hne)).trans q, hne, ha1, ha2⟩, fun b hb => ?_⟩
    · rw [show ((i + 1 : Nat) : Int) = (i : Int) + 1 by omega]
      exact he2
    · have below : b < s.heap.objs.size := by
        rcases List.mem_cons.mp hb with rfl | hb
        · exact elt
        · rw [List.mem_singleton.mp hb]
          exact ilt
      rw [upd_ne (Nat.ne_of_lt below)]
      exact (hf b hb).1
  done := by
    intro X hP hw hK hc i pins s σ H E I hf st hg
    subst hP hw hK
    obtain ⟨⟨old, he⟩, hit, hne, ha1, ha2⟩ := st
    obtain ⟨xs, hq, hx⟩ := hg
    obtain ⟨its, rv, tp, hz⟩ := I.tuple hq
    obtain ⟨f0, f1, f2, f3, f4, f5⟩ := hf it (by simp)
    have hl := rv.length
    have off : its.toArray[i]? = none := by
      rw [List.getElem?_toArray]
      exact List.getElem?_eq_none (by omega)
    refine wpAny_pyNext_enum_endD (draws_end (A := X.A.in1) (I.ok.hd hc) it a its.toArray i off ha1) he ⟨rfl, hit, tp⟩ fun h' eb => ⟨rfl, ?_⟩
    exact I.turned (t' := s.toks) (fun b o hb q => eb b o hb q) f0 f1 f3 f4 f5
  self := fun A i s Q E st h => let ⟨⟨_, he⟩, _⟩ := st; wpAny_pyIter_enum he h
set_option maxHeartbeats 4000000 in
theorem meets_enum1 {v : Value} {o : Obj} {Hp' : Heap → Prop} (B : Begins v o Hp') :
    Meets (Builtin.«enumerate.__new__» ⟨[.type "enumerate", v], []⟩) (fun _ R s => Hp' s.heap ∧
      R (.ok (.ret (.ref (s.heap.push o).objs.size))) { s with heap := (s.heap.push o).push { cls := .type "enumerate", data := .fields #[.none, .bool false, .ref s.heap.objs.size, rawInt 0, .none, .none] } }) :=
  .of_wp fun prog w A R s both => by
    obtain ⟨hp, g, d, tk, os⟩ := s
    obtain ⟨begun, fin⟩ := both
    have sub := sub_enumerate
    have step : ∀ {A' : Around} {E : Value → Shared → Prop} {Q : Value → Shared → Prop}, Q (.ref hp.objs.size) ⟨hp.push o, g, d, tk, os⟩ → wpAny (model prog w) A' (pyIter v) Q E ⟨hp, g, d, tk, os⟩ := fun q => B.iter prog w _ _ ⟨hp, g, d, tk, os⟩ _ begun q
    wp_walk using step
    refine wpAny_stack_any fun st => wpAny_pure ?_
    split
    · rename_i c _ _ _ _ _
      cases (c == Value.type "enumerate") <;> (wp_walk using step; exact ⟨_, rfl, fin⟩)
    · wp_walk using step
      exact ⟨_, rfl, fin⟩
/-- enumerate(v): its two new cells -/
theorem enum1_begins {prog : Program} {w : World} {A : Around} {E : Value → Shared → Prop} {s : Shared} {v : Value} {o : Obj} {Hp' : Heap → Prop} {Q : Value → Shared → Prop} (B : Begins v o Hp') (begun : Hp' s.heap)
    (q : ∀ h', IsEnum h' (s.heap.objs.size + 1) s.heap.objs.size 0 .none → h'.get? s.heap.objs.size = some o → (∀ b o, s.heap.get? b = some o → h'.get? b = some o) → Q (.ref (s.heap.objs.size + 1)) { s with heap := h' }) :
    wpAny (model prog w) A (call (.type "enumerate") [v]) Q E s := by
  refine callType_new F.called_enumerate (by decide) (F.typeCall_enumerate_1 _) (F.newCall_enumerate_1 _) (fun obj => F.args_object_init_2 obj _) F.entry_enumerate_new (meets_enum1 B) ⟨begun, ?_⟩
  have sz : (s.heap.push o).objs.size = s.heap.objs.size + 1 := Heap.size_push ..
  have new := Heap.get?_push_size (s.heap.push o) (o := { cls := .type "enumerate", data := .fields #[.none, .bool false, .ref s.heap.objs.size, rawInt 0, .none, .none] }) rfl
  show _ ∧ _
  rw [sz] at new ⊢
  refine ⟨⟨_, new, rfl⟩, q _ new ?_ fun b o x => ?_⟩
  · exact Heap.get?_push_of_some _ (Heap.get?_push_size _ B.free)
  · exact Heap.get?_push_of_some _ (Heap.get?_push_of_some _ x)
def iEnumT (K : PySem.W.Frag) (ta : TA) : TI := fun σ H R => ta σ H fun vs H1 => ∃ a xs, vs = [.ref a] ∧ SqT K H1 a xs ∧ R (IteT K a) H1
theorem pi_enumT {X : Cx} {e : Expr} {ta : TA} {p pos tpos : Pos} {elts : List Expr} {kk : Nat} (free : Gl X "enumerate") (none : X.mg "enumerate" = none) (ha : PA X [e] ta) (st : starEach [e] X.env = [(false, eval e X.env)] := by rfl) :
    PI X (.Tuple elts kk tpos) (.Call (.Name "enumerate" p) [e] [] pos) (iEnumT X.K ta) := by
  refine ⟨fun pins s σ H R I h => Call_ (ld_blt I free none boot_enumerate (PyProof.Rows.callWith_type1 (thn (ha.run pos pins s σ H _ I h) fun us s1 ⟨vs, H1, I1, r1, q1⟩ => ?_) st rfl))⟩
  obtain ⟨a, xs, rfl, hq, q⟩ := q1
  rw [Vals.ref1 r1]
  obtain ⟨its, rv, tp, hz⟩ := I1.tuple hq
  refine enum1_begins (begins_tuple a its.toArray) tp fun h' he hit hk => wpAny_pyIter_enum he ?_
  have J : Inv X pins σ H1 { s1 with heap := h' } := I1.kept (t' := s1.toks) hk
  have lt := tp.lt
  refine ⟨s1.heap.objs.size + 1, [s1.heap.objs.size + 1, s1.heap.objs.size], _, _, H1, rfl, J, turn_enumT a (s1.heap.objs.size + 1) s1.heap.objs.size, ⟨⟨.none, he⟩, ⟨_, hit, rfl, rfl⟩, Nat.succ_ne_self _, Nat.ne_of_lt lt, Nat.ne_of_lt (Nat.lt_succ_of_lt lt)⟩, fun b hb => ?_, q⟩
  have above : s1.heap.objs.size ≤ b := by
    rcases List.mem_cons.mp hb with rfl | hb
    · exact Nat.le_succ _
    · rw [List.mem_singleton.mp hb]
      exact Nat.le_refl _
  exact I1.fpOk above (I1.hok.fresh above)
theorem walk_enumT {K : PySem.W.Frag} {a : Addr} {xs : List V} : Walk (IteT K a) xs.length (fun H => SqT K H a xs) (YPair (fun i => some (.int (i : Nat))) (fun i => xs[i]?)) :=
  ⟨fun i _ hi q => ⟨xs, xs[i], q, by simp [hi]⟩, fun _ q => ⟨xs, q, Nat.le_refl _⟩, fun i H v H' hi q y => let ⟨T, x, e1, e2, e3, e4⟩ := y; ⟨T, _, x, e1, e2, e3, rfl, e4 xs q⟩⟩
end GS
/-! Several except clauses, each of one class or of a tuple of classes, with or without «as n». -/
namespace GS
open PySem PySem.Spec PyProof.Rows L2 TL
abbrev MCl := List Value × Option Nat × (Addr → Value → Option Addr → TS)
def wMCl (D : Ends) (q : MCl) (a : Addr) (cls : Value) (d : Option Addr) (σ : L2.St) (H : Hp) : Prop := match q.2.1 with
  | none => q.2.2 a cls d D σ H
  | some i => q.2.2 a cls d (asEnds i D) (σ.set i (some (.ref a))) H
def wMCls (K : PySem.W.Frag) (Wout : WX) (D : Ends) : List MCl → WX
  | [] => Wout
  | q :: r => fun cls d σ H => ∃ b, PySem.W.exmAny K cls q.1 = some b ∧ (b = true → ∀ a, H a = none → wMCl D q a cls d σ H) ∧ (b = false → wMCls K Wout D r cls d σ H)
/-- what stands behind except -/
inductive MTest (X : Cx) : Expr → List Value → Prop
  | name {x : Str} {c : Value} {p : Pos} (h : Names X x c) : MTest X (.Name x p) [c]
  | two {x y : Str} {c d : Value} {p1 p2 p : Pos} {k : Nat} (h1 : Names X x c) (h2 : Names X y d) : MTest X (.Tuple [.Name x p1, .Name y p2] k p) [c, d]
  | three {x y z : Str} {c d e : Value} {p1 p2 p3 p : Pos} {k : Nat} (h1 : Names X x c) (h2 : Names X y d) (h3 : Names X z e) : MTest X (.Tuple [.Name x p1, .Name y p2, .Name z p3] k p) [c, d, e]
  | four {x y z u : Str} {c d e f : Value} {p1 p2 p3 p4 p : Pos} {k : Nat} (h1 : Names X x c) (h2 : Names X y d) (h3 : Names X z e) (h4 : Names X u f) : MTest X (.Tuple [.Name x p1, .Name y p2, .Name z p3, .Name u p4] k p) [c, d, e, f]
inductive MClOk (X : Cx) : ExceptHandler → MCl → Prop
  | bare {t : Expr} {cs : List Value} {ts : Addr → Value → Option Addr → TS} {st : Stmt} {sts : List Stmt} {pos' : Pos} (hc : MTest X t cs)
      (su : ∀ (a : Addr) (oe : Obj) (cls : Value) (d : Option Addr) (pn : List (Addr × Obj)), Zc cls d oe → (∃ vs, oe.data = .fields vs) → PSs (X.suite a ((a, oe) :: pn)) (st :: sts) (ts a cls d)) :
      MClOk X (.ExceptHandler (some t) none (st :: sts) pos') (cs, none, ts)
  | as {t : Expr} {n : Str} {cs : List Value} {ts : Addr → Value → Option Addr → TS} {st : Stmt} {sts : List Stmt} {pos' : Pos} {i : Nat} (hc : MTest X t cs) (hN : X.N.Nodup) (hi : X.N[i]? = some n) (hln : X.env.kindOf n = some .local)
      (su : ∀ (a : Addr) (oe : Obj) (cls : Value) (d : Option Addr) (pn : List (Addr × Obj)), Zc cls d oe → (∃ vs, oe.data = .fields vs) → PSs (X.suite a ((a, oe) :: pn)) (st :: sts) (ts a cls d)) :
      MClOk X (.ExceptHandler (some t) (some n) (st :: sts) pos') (cs, some i, ts)
inductive MClsOk (X : Cx) : List ExceptHandler → List MCl → Prop
  | nil : MClsOk X [] []
  | cons {h : ExceptHandler} {q : MCl} {hs : List ExceptHandler} {qs : List MCl} (o : MClOk X h q) (r : MClsOk X hs qs) : MClsOk X (h :: hs) (q :: qs)
theorem flying_keeps {base h h' : Heap} {l : List Env} {e : Addr} {Z : Obj → Prop} (f : PySem.HandSPX.FlyingZ base l e Z h) (k : ∀ b o, h.get? b = some o → h'.get? b = some o) : PySem.HandSPX.FlyingZ base l e Z h' := by
  obtain ⟨f1, f2, f3, oe, vs, T, oT, ts, t1, t2, t3, t4, t5, t6, t7, t8⟩ := f
  exact ⟨fun b o q => k _ _ (f1 b o q), f2, Heap.FunFrames.of_keeps (fun b o q _ => ⟨o, k _ _ q, rfl⟩) f3, oe, vs, T, oT, ts, k _ _ t1, t2, t3, t4, t5, t6, k _ _ t7, t8⟩
section
variable {X : Cx} {pins : List (Addr × Obj)} {σ : L2.St} {H : Hp} {s sI : Shared} {a : Addr} {B : Heap} {cls : Value} {d : Option Addr} {D : Ends} {Wout : WX}
theorem Caught.grown (c : Caught X pins σ H a B cls d sI s) {h' : Heap} (k : ∀ b o, s.heap.get? b = some o → h'.get? b = some o) : Caught X pins σ H a B cls d sI { s with heap := h' } :=
  ⟨c.inv, c.nb, c.up.trans (Heap.UpToSlots.of_keeps k), c.na, c.os, c.ag, flying_keeps c.fl k⟩
theorem Caught.looks (c : Caught X pins σ H a B cls d sI s) : PySem.W.Looks (model X.prog X.w) s.heap (typeOf (.ref a)) cls := by
  obtain ⟨oe0, vs0, e01, e02, e03⟩ := c.fl.there
  exact fun A Q E s' kk z => wpAny_typeOf_ref (kk _ _ e01) (by rw [e02.1]; exact z)
/-- a tuple of classes, new -/
theorem mtup {t : Expr} {cs : List Value} {b : Bool} {Q : Bool → Shared → Prop} {E : Value → Shared → Prop} (c : Caught X pins σ H a B cls d sI s) (lcs : cs.length ≤ 10)
    (ev : ∀ Q' : Value → Shared → Prop, Q' (.ref s.heap.objs.size) { s with heap := s.heap.push { cls := .type "tuple", data := .seq cs.toArray } } → wpAny (model X.prog X.w) (X.A.mark (some (.ref a))) (eval t X.env) Q' E s)
    (lk : ∀ h : Heap, X.K.In h → PySem.W.Looks (model X.prog X.w) h (typeOf (.ref a)) cls → h.get? s.heap.objs.size = some { cls := .type "tuple", data := .seq cs.toArray } → PySem.W.Looks (model X.prog X.w) h (excMatches (.ref a) (.ref s.heap.objs.size)) b)
    (q : ∀ s', Caught X pins σ H a B cls d sI s' → Q b s') : wpAny (model X.prog X.w) (X.A.mark (some (.ref a))) (eval t X.env) (fun v s₁ => wpAny (model X.prog X.w) (X.A.mark (some (.ref a))) (excMatches (.ref a) v) Q E s₁) E s := by
  have c2 := c.grown (h' := s.heap.push { cls := .type "tuple", data := .seq cs.toArray }) fun b o e => Heap.get?_push_of_some _ e
  exact ev _ ((lk _ c2.here.kIn c2.looks (Heap.get?_push_size _ rfl)).here (q _ c2))
theorem mtest {t : Expr} {cs : List Value} {b : Bool} {Q : Bool → Shared → Prop} {E : Value → Shared → Prop} (c : Caught X pins σ H a B cls d sI s) (hf : X.env.frame = some X.env.locals) (m : MTest X t cs) (hb : PySem.W.exmAny X.K cls cs = some b)
    (q : ∀ s', Caught X pins σ H a B cls d sI s' → Q b s') : wpAny (model X.prog X.w) (X.A.mark (some (.ref a))) (eval t X.env) (fun v s₁ => wpAny (model X.prog X.w) (X.A.mark (some (.ref a))) (excMatches (.ref a) v) Q E s₁) E s := by
  have small : ∀ n : Nat, n ≤ 10 → n ≤ sizeLine := fun n hn => Nat.le_trans hn (by decide)
  cases m with
  | name h =>
    obtain ⟨b1, d1, x1, y1, z1⟩ := PySem.W.exmAny_cons hb
    have : d1 = false := (Option.some.inj y1).symm
    subst this
    rw [Bool.or_false] at z1
    subst z1
    exact names_eval c hf h ((PySem.W.exm_one (M := model X.prog X.w) c.here.kIn c.looks x1).here (q s c))
  | two h1 h2 =>
    exact mtup c (by simp) (fun Q' q' => wpAny_Tuple_spliced (Calls.spliced_cons (names_eval c hf h1 (Calls.spliced_cons (names_eval c hf h2 (Calls.spliced_nil ⟨small _ (by simp), q'⟩)))))) (fun h K1 L1 there => PySem.W.exm_tup2 K1 L1 there hb) q
  | three h1 h2 h3 =>
    exact mtup c (by simp) (fun Q' q' => wpAny_Tuple_spliced (Calls.spliced_cons (names_eval c hf h1 (Calls.spliced_cons (names_eval c hf h2 (Calls.spliced_cons (names_eval c hf h3 (Calls.spliced_nil ⟨small _ (by simp), q'⟩)))))))) (fun h K1 L1 there => PySem.W.exm_tup3 K1 L1 there hb) q
  | four h1 h2 h3 h4 =>
    exact mtup c (by simp) (fun Q' q' => wpAny_Tuple_spliced (Calls.spliced_cons (names_eval c hf h1 (Calls.spliced_cons (names_eval c hf h2 (Calls.spliced_cons (names_eval c hf h3 (Calls.spliced_cons (names_eval c hf h4 (Calls.spliced_nil ⟨small _ (by simp), q'⟩)))))))))) (fun h K1 L1 there => PySem.W.exm_tup4 K1 L1 there hb) q
theorem mclauses {hs : List ExceptHandler} {qs : List MCl} (k : MClsOk X hs qs) (hst : X.stack = X.env :: X.outer) (hf : X.env.frame = some X.env.locals) (tk : Takes X Wout) :
    ∀ {s : Shared}, Caught X pins σ H a B cls d sI s → wMCls X.K Wout D qs cls d σ H → wpAny (model X.prog X.w) X.A (handleBy (.ref a) X.env hs) (SP X pins D) X.xe s := by
  induction k with
  | nil =>
    intro s c w
    refine wpAny_handleBy_nil ?_
    obtain ⟨k1, k2, k3, oe, vs, T, oT, ts', he, hz, hd, h1, hr⟩ := id c.fl
    have out : wpAny (model X.prog X.w) X.A (setFlight (.ref a) X.env.frame) (fun _ s4 => wpAny (model X.prog X.w) X.A (throw (.ref a) : Sem Flow) (SP X pins D) X.xe s4) X.xe s := by
      rw [hf]
      exact PySem.HandSPX.setFlight_upZ c.fl fun h4 hh4 up4 => wpAny_throw (tk _ _ ⟨a, B, sI, pins, σ, H, cls, d, rfl, c.inv, c.nb, c.up.trans up4, .inr (.inr (by rw [hst]; exact hh4)), c.na, c.os, c.ag, w⟩)
    unfold PySem.passOn
    refine wpAny_bind (wpAny_field he hd h1 ?_)
    rw [if_neg (show ¬ ((Value.ref T == Value.none) = true) from by simp)]
    first
      | exact wpAny_bind (wpAny_pure (wpAny_bind out))
      | exact wpAny_bind out
  | @cons h q hs qs o r ih =>
    intro s c w
    obtain ⟨b, hb1, hyes, hno⟩ := w
    cases o with
    | bare hc su =>
      refine wpAny_handleBy_cons (codeAny_handlers_test ?_) (by intro q; cases q)
      refine mtest c hf hc hb1 fun s c => ?_
      cases b with
      | false => exact ih c (hno rfl)
      | true =>
        refine codeAny_handlers_suite (c.again fun s4 c4 => ?_)
        obtain ⟨oe, z1, z2, S⟩ := c4.suite (M := model X.prog X.w) hf
        have ok := c4.here.ok
        refine wpAny_mono ((su a oe cls d (X.pn ++ pins) z1 z2).run [] _ _ H _ S (hyes rfl a c.na)) (fun f s6 hsp => ?_) (fun _ _ z => False.elim z)
        cases f with
        | next => exact let ⟨σ6, H6, S6, q6⟩ := hsp; ⟨_, _, S6.unsuite ok, q6⟩
        | brk => exact let ⟨σ6, H6, S6, q6⟩ := hsp; ⟨_, _, S6.unsuite ok, q6⟩
        | cont => exact let ⟨σ6, H6, S6, q6⟩ := hsp; ⟨_, _, S6.unsuite ok, q6⟩
        | ret u => exact let ⟨v6, σ6, H6, S6, r6, q6⟩ := hsp; ⟨_, _, _, S6.unsuite ok, r6, q6⟩
    | @as t n cs ts st sts pos' i hc hN hi hln su =>
      refine wpAny_handleBy_cons (codeAny_handlers_test ?_) (by intro q; cases q)
      refine mtest c hf hc hb1 fun s c => ?_
      cases b with
      | false => exact ih c (hno rfl)
      | true =>
        refine codeAny_handlers_suite_as (c.again fun s4 c4 => ?_)
        obtain ⟨oe, z1, z2, S⟩ := c4.suite (M := model X.prog X.w) hf
        have ok := c4.here.ok
        refine store_ok (X := X.suite a ((a, oe) :: (X.pn ++ pins))) (v := .ref a) S hN hi (.inl hln) rfl (fun s5 S5 => ?_) (.inr hln)
        refine wpAny_mono ((su a oe cls d (X.pn ++ pins) z1 z2).run [] s5 _ H (asEnds i D) S5 (hyes rfl a c.na)) (fun f s6 hsp => ?_) (fun _ _ z => False.elim z)
        cases f with
        | next => exact let ⟨σ6, H6, S6, q6⟩ := hsp; gone_ok (S6.unsuite ok) hN hi hln fun s7 J7 => ⟨_, _, J7, q6⟩
        | brk => exact let ⟨σ6, H6, S6, q6⟩ := hsp; gone_ok (S6.unsuite ok) hN hi hln fun s7 J7 => ⟨_, _, J7, q6⟩
        | cont => exact let ⟨σ6, H6, S6, q6⟩ := hsp; gone_ok (S6.unsuite ok) hN hi hln fun s7 J7 => ⟨_, _, J7, q6⟩
        | ret u => exact let ⟨v6, σ6, H6, S6, r6, q6⟩ := hsp; gone_ok (S6.unsuite ok) hN hi hln fun s7 J7 => ⟨_, _, _, J7, r6, q6⟩
/-- THE RULE -/
theorem ps_try_m {body : List Stmt} {h₀ : ExceptHandler} {hds : List ExceptHandler} {qs : List MCl} {pos : Pos} {tb : WX → TS} (hst : X.stack = X.env :: X.outer) (hf : X.env.frame = some X.env.locals) (tk : Takes X Wout)
    (hb : ∀ (W : WX) (pn : List (Addr × Obj)) (xe : Value → Shared → Prop), Takes (X.tr pn xe) W → PassesOwn (model X.prog X.w) X.A X.env xe → PSs (X.tr pn xe) body (tb W)) (hh : MClsOk X (h₀ :: hds) qs) :
    PS X (.Try body (h₀ :: hds) [] [] pos) (fun D σ H => tb (wMCls X.K Wout D qs) D σ H) := by
  refine ⟨fun pins s σ H D I h => wpAny_Try_except ?_⟩
  have ok := I.ok
  have fr : X.A.frames = some (X.env :: X.outer) := by rw [ok.frames, hst]
  have B0 := hb (wMCls X.K Wout D qs) (X.pn ++ pins) (fun e s₁ => wpAny (model X.prog X.w) X.A (noteFrame e X.env) (fun _ s₂ => wpAny (model X.prog X.w) X.A (setFlight e none) (fun _ s₃ => wpAny (model X.prog X.w) X.A (handleBy e X.env (h₀ :: hds)) (SP X pins D) X.xe s₃) X.xe s₂) X.xe s₁)
    (fun u s' xx => by
      obtain ⟨a, B, sI, pins', σ', H', cls, d, rfl, J', nb, up, sky, na, os, ag, w⟩ := xx
      refine Sky.land Zc.steady fr hf (show Sky B (X.env :: X.outer) a (Zc cls d) X.env.locals s'.heap by rw [← hst]; exact sky) fun h3 fl3 up3 => ?_
      exact mclauses hh hst hf tk ⟨J'.ofTry ok, nb, up.trans up3, na, os, ag, fl3⟩ w) PassesOwn.looking
  refine wpAny_mono (B0.run [] s σ H D (I.toTry _) h) (fun f s1 hsp => ?_) (fun _ _ z => z)
  cases f with
  | next => exact let ⟨σ', H', J', q⟩ := hsp; wpAny_execs_nil ⟨σ', H', J'.ofTry ok, q⟩
  | brk => exact let ⟨σ', H', J', q⟩ := hsp; ⟨σ', H', J'.ofTry ok, q⟩
  | cont => exact let ⟨σ', H', J', q⟩ := hsp; ⟨σ', H', J'.ofTry ok, q⟩
  | ret u => exact let ⟨v, σ', H', J', r, q⟩ := hsp; ⟨v, σ', H', J'.ofTry ok, r, q⟩
end
end GS
/-! isinstance(error, C) within a suite, of an error with a dict of its own. -/
namespace GS
open PySem PySem.W PySem.Spec PySem.Calls PyProof.Rows L2
section
variable {K : Frag} {x D : Addr} {ox : Obj} {od : Option Obj}
theorem data_found {attr get : Value} {C : Addr} {n : PySem.Str} (there : (clsIn K C).isSome = true) (f : findIn K (.ref C) n = some (some attr)) (g : specialIn K attr "__get__" = some (some get)) (t : takesIn K attr = some true) : findObj K C od n = some (.bind get attr) := by
  obtain ⟨cd, e⟩ := Option.isSome_iff_exists.mp there
  unfold findObj
  rw [e]
  rw [Option.bind_some, f]
  rw [Option.bind_some]
  simp [g, t]
theorem own_class {prog : Program} {w : World} {A : Around} {E : Value → Shared → Prop} {s : Shared} {Q : Option Value → Shared → Prop} (c : ExcC K D) (kin : K.In s.heap) (i : InstAt s.heap x ox D od) (q : Q (some (.ref D)) { s with toks := s.toks + 1 }) :
    wpAny (model prog w) A (getAttr? (.ref x) "__class__") Q E s := by
  have found : findObj K D od "__class__" = some (.bind (.builtin "getset_descriptor.__get__") (.builtin "object.__class__")) := by
    refine data_found ?_ c.ha c.hn c.ht
    obtain ⟨cd, e, _⟩ := any_some c.hd
    rw [e]
    rfl
  obtain ⟨heap, g, d, t, os⟩ := s
  have ty := i.type (M := model prog w)
  have own := looks_findIn (M := model prog w) kin c.hg
  have hook := looks_findIn (M := model prog w) kin c.hk
  have look := looks_find (M := model prog w) kin i found
  have isExc : Looks (model prog w) heap (isInstance (.ref x) (.type "BaseException")) true := ty.andThen (looks_subIn kin c.hs)
  have no2 : (Value.builtin "BaseException.__getattribute__" == Value.builtin "object.__getattribute__") = false := by decide +kernel
  have no1 : (onTheHeap (Value.ref D) && Value.builtin "BaseException.__getattribute__" == Value.builtin "object.__getattribute__") = false := by
    rw [no2]
    rfl
  unfold getAttr? getAttrBy? getAttrBy
  refine wpAny_bind (wpAny_mkText (wpAny_bind (wpAny_attempt (wpAny_holding (wpAny_bind (ty.at (wpAny_bind (own.at ?_))))))))
  show wpAny _ _ (if (onTheHeap (Value.ref D) && Value.builtin "BaseException.__getattribute__" == Value.builtin "object.__getattribute__") = true then _ else _) _ _ _
  rw [no1, if_neg Bool.false_ne_true]
  unfold getAttrByItsOwn hookBefore
  refine wpAny_bind ?_
  rw [if_pos (show onTheHeap (Value.ref D) = true from rfl)]
  refine hook.at (wpAny_bind (wpAny_attempt (wpAny_holding ?_)))
  unfold callGetattribute
  rw [show (false && onTheHeap (Value.builtin "BaseException.__getattribute__")) = false from rfl, if_neg Bool.false_ne_true]
  unfold boundAndCalled
  rw [PySem.F.excAttr_ValueError.ga.bind (.ref x)]
  refine wpAny_bind (wpAny_pure ?_)
  show wpAny _ _ (call (.builtin "BaseException.__getattribute__") [.ref x, .str "__class__" t]) _ _ _
  refine wpAny_call (codeAny_call_builtin PySem.F.excAttr_ValueError.ga.plain PySem.F.entry_bexc_ga ?_)
  refine @check_slot (model prog w) _ _ ⟨heap, g, d, t + 1, os⟩ "BaseException.__getattribute__" "BaseException" "__getattribute__" (.ref x) [.str "__class__" t] [] _
    (by decide +kernel) (by decide +kernel) isExc (PySem.F.args_bexc_ga (.ref x) (.str "__class__" t)) ?_
  unfold Builtin.«object.__getattribute__»
  refine wpAny_bind (wpAny_of_eq (a := ((Value.ref x : Value), [Value.str "__class__" t])) (by first | rfl | (simp only [slotArgs]; rfl)) ?_)
  refine wpAny_bind (wpAny_pure (wpAny_bind (ty.at (wpAny_bind (look.at ?_)))))
  show wpAny _ _ (holding [Value.builtin "object.__class__"] (call (.builtin "getset_descriptor.__get__") [.builtin "object.__class__", .ref x, .ref D]) >>= ret) _ _ _
  refine wpAny_bind (wpAny_holding (wpAny_call (class_get (s := ⟨heap, g, d, t + 1, os⟩) kin i c.hm (wpAny_pure ?_))))
  show wpAny _ _ (handedOut (.ref D)) _ _ _
  rw [handedOut_of (v := .ref D) rfl]
  first | exact wpAny_pure (wpAny_pure q) | exact wpAny_pure q | exact wpAny_pure (wpAny_bind (wpAny_pure (wpAny_pure q)))
theorem kit_err (c : ExcC K D) : KitX K (.ref x) (.ref D) (fun h => InstAt h x ox D od) where
  ty := fun _ _ _ i => i.type
  it := fun _ _ kin _ => by
    obtain ⟨cd, e, _⟩ := any_some c.hd
    unfold clsIn at e
    split at e
    · rename_i ho
      intro A' Q' E' s' kept q
      unfold isType loadHead
      exact wpAny_bind (wpAny_loadPart (kept _ _ (kin _ _ ho)) (wpAny_pure q))
    · cases e
  ne := fun h tp dd its n sl kin there => by
    obtain ⟨cd, e, _⟩ := any_some c.hd
    refine Bool.eq_false_iff.mpr fun q => ?_
    have same : D = tp := Value.ref.inj (beq_iff_eq.mp q)
    unfold clsIn at e
    split at e
    · rename_i ho
      rw [same] at ho
      cases (kin _ _ ho).symm.trans there
    · cases e
  ca := fun kin i q => own_class c kin i q
end
/-- isinstance(e, c), e the error that the suite holds, of whichever class -/
def rIsX (K : Frag) (a : Addr) (cls : Value) (d : Option Addr) : List V → Hp → VK → Prop := fun xs H Q => ∃ (c : V) (cv : Value) (b : Bool) (C dd : Addr) (fs : List (PySem.Str × V)), xs = [.ref a, c] ∧ (∀ u, RelV c u → u = cv) ∧ cls = .ref C ∧ ExcC K C ∧ kitOne K (.ref C) cv = some b ∧ d = some dd ∧ H dd = some (.xd fs) ∧ Q (.bl b) H
section
variable {X : Cx} {a : Addr} {oe : Obj} {cls : Value} {d : Option Addr} {pn : List (Addr × Obj)}
/-- the error as an instance -/
theorem inst_err {pins : List (Addr × Obj)} {σ : L2.St} {H : Hp} {s : Shared} {C dd : Addr} {fs : List (PySem.Str × V)} (hz : Zc (.ref C) (some dd) oe) (hf : ∃ vs, oe.data = .fields vs) (I : Inv (X.suite a ((a, oe) :: pn)) pins σ H s) (there : H dd = some (.xd fs)) :
    ∃ od, InstAt s.heap a oe C (some od) ∧ ∀ n v, fs.lookup n = some v → ∃ u, RelV v u ∧ lookIn n od = some (some u) := by
  obtain ⟨mA, hns, hr⟩ := (show ObjOk X.prog X.w H s.heap dd (.xd fs) from I.hok dd _ there)
  obtain ⟨od, ho, hl⟩ := lookIn_ns hns
  obtain ⟨ha, _⟩ := I.pin (a, oe) (List.mem_append_left _ List.mem_cons_self)
  obtain ⟨vs, hd⟩ := hf
  have plain : notCls oe := by
    unfold notCls
    rw [hd]
  refine ⟨od, ⟨ha, hz.1, plain, by rw [hz.2]; exact ho⟩, fun n v hv => ?_⟩
  obtain ⟨u, hu, ru⟩ := RelO.some_of (v := v) (o := mA n) (by rw [← hv]; exact hr n)
  exact ⟨u, ru, by rw [hl, hu]⟩
theorem cr_isX {K : Frag} (hk : X.K = K) (hz : Zc cls d oe) (hf : ∃ vs, oe.data = .fields vs) : CallR (X.suite a ((a, oe) :: pn)) (.builtin "isinstance") (rIsX K a cls d) := by
  subst hk
  intro pins s σ H xs us Q I r got
  obtain ⟨c, cv, b, C, dd, fs, rfl, only, rfl, ec, e, rfl, there, q⟩ := got
  obtain ⟨u1, u2, rfl, r1, r2⟩ := vals2 r
  cases r1
  rw [only _ r2]
  obtain ⟨od, i, _⟩ := inst_err hz hf I there
  exact kia_one (kit_err ec) I.kIn i e (fun z => nomatch z) fun tk => ⟨.bl b, H, I.kept (t' := tk) fun _ _ z => z, rfl, q⟩
/-- e.f, e the error that the suite holds, of whichever class -/
def tXfA (K : Frag) (a : Addr) (cls : Value) (d : Option Addr) (n : PySem.Str) (te : TE) : TE := fun σ H Q => te σ H fun x H1 => x = .ref a ∧ ∃ (C dd : Addr) (fs : List (PySem.Str × V)) (v : V), cls = .ref C ∧ XfC K C ∧ findIn K (.ref C) n = some none ∧ d = some dd ∧ H1 dd = some (.xd fs) ∧ fs.lookup n = some v ∧ Q v H1
theorem pe_xfA {K : Frag} {e : Expr} {te : TE} {pos : Pos} {n : PySem.Str} (hk : X.K = K) (hz : Zc cls d oe) (hf : ∃ vs, oe.data = .fields vs) (he : PE (X.suite a ((a, oe) :: pn)) e te) (plain : attributeBase e n X.env (eval e X.env) = eval e X.env := by rfl) : PE (X.suite a ((a, oe) :: pn)) (.Attribute e n pos) (tXfA K a cls d n te) := by
  subst hk
  refine ⟨fun pins s σ H Q I h => attr_of plain (thn (he.run pins s σ H _ I h) fun u s1 got => ?_)⟩
  obtain ⟨x, H1, I1, rx, rfl, C, dd, fs, v, rfl, T, no_, rfl, there, l, q⟩ := got
  obtain rfl : u = Value.ref a := rx
  obtain ⟨od, i, fields⟩ := inst_err hz hf I1 there
  obtain ⟨u, ru, hu⟩ := fields n v l
  exact HandSPX.exc_get I1.kIn i T.ga T.gg T.exC (findObj_own T.hdC no_ rfl hu) (handed_of ru) ⟨v, H1, I1.tok _, ru, q⟩
end
end GS
/-! A list or a tuple walked; o.m(k = v). -/
namespace GS
open PySem PySem.Spec PyProof.Rows L2
def iSeq (K : PySem.W.Frag) (tl : TE) : TI := fun σ H R => tl σ H fun x H1 => ∃ a, x = .ref a ∧ (((∃ xs, SqL K H1 a xs) ∧ R (Itl K a) H1) ∨ ((∃ xs, SqT K H1 a xs) ∧ R (Itt K a) H1))
theorem pi_seq {X : Cx} {tg l : Expr} {tl : TE} (hl : PE X l tl) : PI X tg l (iSeq X.K tl) := by
  refine ⟨fun pins s σ H R I h => thn (hl.run pins s σ H _ I h) fun v s1 ⟨x, H1, I1, r1, a, ex, q⟩ => ?_⟩
  subst ex
  obtain rfl : v = Value.ref a := r1
  have grown : ∀ (o : Obj), Inv X pins σ H1 { s1 with heap := s1.heap.push o } := fun o => I1.kept (t' := s1.toks) fun b u e => Heap.get?_push_of_some _ e
  have fresh := I1.fpOk (Nat.le_refl _) (I1.hok.fresh (Nat.le_refl s1.heap.objs.size))
  rcases q with ⟨⟨xs, hq⟩, q⟩ | ⟨⟨xs, hq⟩, q⟩
  · obtain ⟨its, rv, p, hz⟩ := I1.list hq
    refine wpAny_pyIter_list p.isList ⟨s1.heap.objs.size, [s1.heap.objs.size], _, _, H1, rfl, grown _, turn_list a _, ⟨_, Heap.get?_push_size _ rfl, rfl, rfl⟩, fun b hb => ?_, q⟩
    rw [List.mem_singleton.mp hb]
    exact fresh
  · obtain ⟨its, rv, p, hz⟩ := I1.tuple hq
    refine wpAny_pyIter_tuple (show s1.heap.IsTuple a its.toArray from p) ⟨s1.heap.objs.size, [s1.heap.objs.size], _, _, H1, rfl, grown _, turn_tuple a _, ⟨_, Heap.get?_push_size _ rfl, rfl, rfl⟩, fun b hb => ?_, q⟩
    rw [List.mem_singleton.mp hb]
    exact fresh
theorem r_iSeqL {K : PySem.W.Frag} {a : Addr} {H : Hp} {xs : List V} {R : It → Hp → Prop} (h : SqL K H a xs) (q : R (Itl K a) H) : ∃ b, V.ref a = .ref b ∧ (((∃ xs, SqL K H b xs) ∧ R (Itl K b) H) ∨ ((∃ xs, SqT K H b xs) ∧ R (Itt K b) H)) := ⟨a, rfl, .inl ⟨⟨xs, h⟩, q⟩⟩
theorem r_iSeqT {K : PySem.W.Frag} {a : Addr} {H : Hp} {xs : List V} {R : It → Hp → Prop} (h : SqT K H a xs) (q : R (Itt K a) H) : ∃ b, V.ref a = .ref b ∧ (((∃ xs, SqL K H b xs) ∧ R (Itl K b) H) ∨ ((∃ xs, SqT K H b xs) ∧ R (Itt K b) H)) := ⟨a, rfl, .inr ⟨⟨xs, h⟩, q⟩⟩
/-- o.m(k = v, ..) -/
def tMethN (C : Addr) (m : PySem.Str) (nk : Nat) (sp : Sp) (gV : List V → List V → List V) (E : XK) (ta : TE) (tk : TA) : TE := fun σ H Q => ta σ H fun x H1 => ∃ a dx fs, x = .ref a ∧ H1 a = some (.ins C dx fs) ∧ fs.lookup m = none ∧ tk σ H1 fun zs H2 => zs.length = nk ∧ sp (gV [x] zs) H2 Q E
theorem pe_methK0 {X : Cx} {CX : CXT} {k : Nat} {f C : Addr} {fd : FuncData} {ps ks : List PySem.Str} {sp : Sp} {E : XK} {o : Expr} {m : PySem.Str} {pos apos : Pos} {ta : TE} {tk : TA} {kws : List Keyword} {g : List Value → List Value → List Value} {gV : List V → List V → List V} {pl : Sem Bool}
    (he : PE X o ta) (c : Cls X.K C) (hm : Meth X.K C m f) (F : FnOk X.prog X.w X.K X.mg X.base CX k f fd ps sp) (hr : Room k X.A) (kb : KBn X.K fd ps 1 ks g gV) (hx : Passes CX X E) (hw : PK X kws tk)
    (named : (backToKw pos (keywordEach kws X.env)).all (·.1.isSome) = true := by rfl) (names : (backToKw pos (keywordEach kws X.env)).filterMap (·.1) = ks := by rfl)
    (plain : ((backTo pos (starEach [] X.env)).any (·.1) || (backToKw pos (keywordEach kws X.env)).any (·.1.isNone)) = false := by rfl)
    (ht : eval (.Call (.Attribute o m apos) [] kws pos) X.env = (do let ov ← eval o X.env; standAt apos.atName; let (f, first) ← holding [ov] (getMethod ov m pl); callWith pos f first (backTo pos (starEach [] X.env)) (backToKw pos (keywordEach kws X.env))) := by rfl) :
    PE X (.Call (.Attribute o m apos) [] kws pos) (tMethN C m ks.length sp gV E ta tk) := by
  refine ⟨fun pins s σ H Q I h => PySem.W.methodCall_KW (pl := pl) (thn (he.run pins s σ H _ I h) fun u s1 ⟨x, H1, I1, rx, a, dx, fs, ex, ea, l, q⟩ => ?_) ht⟩
  subst ex
  obtain rfl : u = Value.ref a := rx
  refine getmeth_ok I1 ea c hm l ?_
  refine PySem.W.callWith_KW0 (first := [.ref a]) (h₀ := X.base) I.ok.mod.kin hm.kp named (thn (hw.run pos pins s1 σ H1 _ I1 q) fun ws s2 ⟨zs, H2, I2, rz, m2, q2⟩ => ⟨I2.kIn, ?_⟩) plain
  rw [names]
  exact run_fnN (us := [.ref a]) (vs := [.ref a]) F hr kb hx I2 (.cons rfl .nil) rz rfl m2 q2
/-- o.m(e, ..) inside try -/
def tMethE (C : Addr) (m : PySem.Str) (sp : Sp) (E : L2.St → XK) (ta : TE) (t : TA) : TE := fun σ H Q => ta σ H fun x H1 => ∃ a dx fs, x = .ref a ∧ H1 a = some (.ins C dx fs) ∧ fs.lookup m = none ∧ t σ H1 fun vs H2 => sp (x :: vs) H2 Q (E σ)
theorem pe_methE {X : Cx} {CX : CXT} {k : Nat} {f C : Addr} {fd : FuncData} {ps : List PySem.Str} {sp : Sp} {E : L2.St → XK} {o e : Expr} {es : List Expr} {m : PySem.Str} {pos apos : Pos} {ta : TE} {t : TA} {pl : Sem Bool}
    (he : PE X o ta) (c : Cls X.K C) (hm : Meth X.K C m f) (F : FnOk X.prog X.w X.K X.mg X.base CX k f fd ps sp) (hr : Room k X.A) (hb : Binds X.K fd ps []) (hx : ∀ σ, PassesAt CX X σ (E σ)) (ha : PA X (e :: es) t)
    (st : starEach (e :: es) X.env = (false, eval e X.env) :: starEach es X.env := by rfl) (plain : (backTo pos (starEach es X.env)).any (·.1) = false := by rfl)
    (ht : eval (.Call (.Attribute o m apos) (e :: es) [] pos) X.env = (do let ov ← eval o X.env; standAt apos.atName; let (f, first) ← holding [ov] (getMethod ov m pl); callWith pos f first (backTo pos (starEach (e :: es) X.env)) (backToKw pos (keywordEach [] X.env))) := by rfl) :
    PE X (.Call (.Attribute o m apos) (e :: es) [] pos) (tMethE C m sp E ta t) := by
  refine ⟨fun pins s σ H Q I h => PySem.W.methodCall_KW (pl := pl) (thn (he.run pins s σ H _ I h) fun u s1 ⟨x, H1, I1, rx, a, dx, fs, ex, ea, l, q⟩ => ?_) ht⟩
  subst ex
  obtain rfl : u = Value.ref a := rx
  refine getmeth_ok I1 ea c hm l ?_
  refine PySem.W.callWith_K (first := [.ref a]) (h₀ := X.base) I.ok.mod.kin hm.kp (thn (ha.run pos pins s1 σ H1 _ I1 q) fun us s2 ⟨vs, H2, I2, r, q2⟩ => ⟨I2.kIn, ?_⟩) st plain
  exact run_fnS (us := .ref a :: us) (vs := .ref a :: vs) F hr hb (hx σ) I2 (.cons rfl r) q2
/-- l[j] for l[j] op= e, from 0 on -/
def rGetL (K : PySem.W.Frag) : V → V → Hp → VK → Prop := fun x y H Q => ∃ p xs j v, x = .ref p ∧ y = .int (j : Nat) ∧ SqL K H p xs ∧ xs[j]? = some v ∧ Q v H
theorem pget_list {X : Cx} : PGet X (rGetL X.K) := by
  intro pins s σ H o i ov iv Q I ro ri got
  obtain ⟨p, xs, j, v, rfl, rfl, hq, e, q⟩ := got
  obtain rfl : ov = Value.ref p := ro
  obtain ⟨t, rfl⟩ := ri
  obtain ⟨its, r, pl, hz⟩ := I.list hq
  obtain ⟨u, hu, ru⟩ := r.get e
  have lt := (List.getElem?_eq_some_iff.mp e).1
  have n := line63
  refine wpAny_getItem_list (x := u) pl.isList (Int.natCast_nonneg j) ?_ ?_ ⟨v, H, I, ru, q⟩
  · omega
  · rw [Int.toNat_natCast]
    simpa using hu
/-! the same rules where X's K is only told by an equation (within comprehensions) -/
theorem kx_ixl {X : Cx} {K : PySem.W.Frag} (h : X.K = K) : IxR X (rIxL K) := by subst h; exact ix_list
theorem kx_ixt {X : Cx} {K : PySem.W.Frag} (h : X.K = K) : IxR X (rIxT K) := by subst h; exact ix_tup
theorem kx_lens {X : Cx} {K : PySem.W.Frag} (h : X.K = K) : CallR X (.builtin "len") (fun xs H Q => ∃ p ys, xs = [.ref p] ∧ (SqL K H p ys ∨ SqT K H p ys) ∧ Q (.int ys.length) H) := by subst h; exact call_len_seq
theorem kx_fld {X : Cx} {K : PySem.W.Frag} {e : Expr} {te : TE} {f : PySem.Str} {pos : Pos} (h : X.K = K) (he : PE X e te) (hb : attributeBase e f X.env (eval e X.env) = eval e X.env) : PE X (.Attribute e f pos) (tFld K te f) := by subst h; exact pe_fld he hb
/-! facts of the head -/
def bnB (x : PySem.Str) (id : String) : Chk := fun K => He.eqO (PySem.W.nsIn K mainGlobals x) (some (some (.builtin id)))
theorem bnB_ok {K : PySem.W.Frag} {mg : PySem.Str → Option Value} {h : Heap} (X : K.In h) (G : h.Ns mainGlobals mg) {x : PySem.Str} {id : String} (c : bnB x id K = true) : mg x = some (.builtin id) := PySem.W.mg_of X G (He.eqO_ok c)
def excB (x : PySem.Str) : Chk := fun K => He.eqO (PySem.W.findIn K (.ref (He.ga K x)) "__class__") (some (some (.builtin "object.__class__"))) && decide (PySem.W.mroIn K (He.ga K x) (.type "object") = some true)
theorem excB_ok {K : PySem.W.Frag} {x : PySem.Str} (top : topB K = true) (f : XfC K (He.ga K x)) (c : excB x K = true) : ExcC K (He.ga K x) := by
  obtain ⟨t1, t2⟩ := Bool.and_eq_true_iff.mp top
  obtain ⟨c1, c2⟩ := Bool.and_eq_true_iff.mp c
  exact ⟨f.ga, f.gg, f.exC, f.hdC, He.eqO_ok c1, He.eqO_ok t1, of_decide_eq_true t2, of_decide_eq_true c2⟩
/-- an instance of D is none of C -/
def otB (D C : PySem.Str) : Chk := fun K => decide (PySem.W.kitOne K (.ref (He.ga K D)) (.ref (He.ga K C)) = some false) && PySem.W.notFirst K (He.ga K C) (.ref (He.ga K D))
theorem otB_ok {K : PySem.W.Frag} {D C : PySem.Str} (c : otB D C K = true) : PySem.W.kitOne K (.ref (He.ga K D)) (.ref (He.ga K C)) = some false ∧ PySem.W.notFirst K (He.ga K C) (.ref (He.ga K D)) = true := by
  obtain ⟨c1, c2⟩ := Bool.and_eq_true_iff.mp c
  exact ⟨of_decide_eq_true c1, c2⟩
end GS
/-! Comprehensions of any target; zip of tuples; loops. -/
namespace GS
open PySem PySem.Spec PyProof.Rows L2 TL
theorem walk_zipT {K : PySem.W.Frag} {a b : Addr} {xs ys : List V} {n : Nat} (hn : n = min xs.length ys.length) : Walk (RZ.ItzT K a b) n (fun H => SqT K H a xs ∧ SqT K H b ys) (YPair (fun i => xs[i]?) (fun i => ys[i]?)) := by
  subst hn
  refine ⟨fun i _ hi q => ?_, fun _ q => ⟨xs, ys, q.1, q.2, by omega⟩, fun i H v H' _ q y => ?_⟩
  · have h1 : i < xs.length := by omega
    have h2 : i < ys.length := by omega
    exact ⟨xs, ys, xs[i], ys[i], q.1, q.2, by simp [h1], by simp [h2]⟩
  · obtain ⟨T, x, z, h1, h2, h3, h4, h5⟩ := y
    exact ⟨T, x, z, h1, h2, h3, h4 xs q.1, h5 ys q.2⟩
theorem r_zipA {K : PySem.W.Frag} {ta : TA} {σ : L2.St} {H : Hp} {R : It → Hp → Prop} (q : ta σ H fun vs H1 => ∃ a b xs ys, vs = [.ref a, .ref b] ∧ ((SqL K H1 a xs ∧ SqL K H1 b ys ∧ R (Itz K a b) H1) ∨ (SqT K H1 a xs ∧ SqT K H1 b ys ∧ R (RZ.ItzT K a b) H1))) : RZ.iZipA K ta σ H R := q
theorem walk_enumT' {K : PySem.W.Frag} {a : Addr} {xs : List V} {n : Nat} (h : xs.length = n) : Walk (IteT K a) n (fun H => SqT K H a xs) (YPair (fun i => some (.int (i : Nat))) (fun i => xs[i]?)) := by subst h; exact walk_enumT
/-- what is wished behind list(..), tuple(..) -/
def listK (K : PySem.W.Frag) (Q : VK) : List V → Hp → Prop := fun xs H => ∃ p ys, xs = [V.ref p] ∧ (SqL K H p ys ∨ SqT K H p ys) ∧ ∀ (l : Addr), H l = none → Q (.ref l) (upd H l (.lst ys))
theorem r_cbList {K : PySem.W.Frag} {tr : TA} {σ : L2.St} {H : Hp} {Q : VK} (q : tr σ H (listK K Q)) : tCB (fun xs H Q => ∃ p ys, xs = [V.ref p] ∧ (SqL K H p ys ∨ SqT K H p ys) ∧ ∀ (l : Addr), H l = none → Q (.ref l) (upd H l (.lst ys))) tr σ H Q := q
theorem r_list {K : PySem.W.Frag} {Q : VK} {H : Hp} {a : Addr} {xs : List V} (h : SqL K H a xs ∨ SqT K H a xs) (q : ∀ l H', H l = none → Ex H H' → H' l = some (.lst xs) → Q (.ref l) H') : listK K Q [.ref a] H :=
  ⟨a, xs, rfl, h, fun l hl => q l _ hl (Ex.new hl) upd_same⟩
def tupK (K : PySem.W.Frag) (Q : VK) : List V → Hp → Prop := fun xs H => ∃ p ys, xs = [V.ref p] ∧ ((SqL K H p ys ∧ ∀ (l : Addr), H l = none → Q (.ref l) (upd H l (.tup ys))) ∨ SqT K H p ys ∧ Q (.ref p) H)
theorem r_cbTup {K : PySem.W.Frag} {tr : TA} {σ : L2.St} {H : Hp} {Q : VK} (q : tr σ H (tupK K Q)) : tCB (fun xs H Q => ∃ p ys, xs = [V.ref p] ∧ ((SqL K H p ys ∧ ∀ (l : Addr), H l = none → Q (.ref l) (upd H l (.tup ys))) ∨ SqT K H p ys ∧ Q (.ref p) H)) tr σ H Q := q
theorem r_tupL {K : PySem.W.Frag} {Q : VK} {H : Hp} {a : Addr} {xs : List V} (h : SqL K H a xs) (q : ∀ l H', H l = none → Ex H H' → H' l = some (.tup xs) → Q (.ref l) H') : tupK K Q [.ref a] H :=
  ⟨a, xs, rfl, .inl ⟨h, fun l hl => q l _ hl (Ex.new hl) upd_same⟩⟩
theorem r_sl {r : V → Option Int → Option Int → Hp → VK → Prop} {te : TE} {tl th : TO} {σ : L2.St} {H : Hp} {Q : VK} (q : te σ H fun x H1 => tl σ H1 fun l H2 => th σ H2 fun u H3 => r x l u H3 Q) : tSl r te tl th σ H Q := q
theorem r_noPart {σ : L2.St} {H : Hp} {R : Option Int → Hp → Prop} (q : R none H) : tNoPart σ H R := q
theorem r_part {te : TE} {σ : L2.St} {H : Hp} {R : Option Int → Hp → Prop} (q : te σ H fun x H1 => ∃ i, x = .int i ∧ R (some i) H1) : tPart te σ H R := q
theorem r_iR2 {ta : TA} {σ : L2.St} {H : Hp} {R : It → Hp → Prop} (q : ta σ H fun vs H1 => ∃ i j : Int, vs = [.int i, .int j] ∧ (-(2 ^ 62) ≤ i ∧ i < 2 ^ 62 ∧ -(2 ^ 62) ≤ j ∧ j < 2 ^ 62) ∧ R (Itr i (j - i).toNat) H1) : iRng2 ta σ H R := q
theorem r_iR3 {ta : TA} {σ : L2.St} {H : Hp} {R : It → Hp → Prop} (q : ta σ H fun vs H1 => ∃ (i j c : Int) (n : Nat), vs = [.int i, .int j, .int c] ∧ RgC i j c n ∧ R (Itc i c n) H1) : iRng3 ta σ H R := q
/-- any target, no test; what is known of the items by the turn -/
theorem r_lcP {J : It} {n : Nat} {G : Hp → Prop} {Y : Nat → Hp → V → Hp → Prop} {g : TG} {vs : List Nat} {te : TE} {σ : L2.St} {H1 : Hp} {Q : VK} (w : Walk J n G Y) (P : Addr → Nat → List V → Hp → Prop) (hn : n ≤ 50000) (hG : ∀ H' : Hp, Ex H1 H' → G H')
    (h0 : ∀ D H, Ex H1 H → P D 0 [] H) (mono : ∀ D i ys H H', P D i ys H → Bu D H H' → P D i ys H')
    (step : ∀ D i x ys H H', i < n → H1 D = none → Ex H1 H → H D = some (.lst ys) → P D i ys H → Y i H x H' → ∀ N : VK, (∀ y H4, Ex H H4 → P D (i + 1) (ys ++ [y]) H4 → N y H4) → g x (wipe σ vs) H' fun σ2 H2 => wipe σ2 vs = wipe σ vs ∧ te σ2 H2 N)
    (q : ∀ D ys H', H1 D = none → Ex H1 H' → H' D = some (.lst ys) → ys.length = n → P D n ys H' → Q (.ref D) H') : lcB J g tYes te vs σ Q H1 := by
  intro D hD
  refine lc_it w (fun i H => Ex H1 H ∧ ∃ ys, H D = some (.lst ys) ∧ ys.length = i ∧ P D i ys H) ⟨Ex.mut (Ex.refl _) hD, [], upd_same, rfl, h0 D _ (Ex.mut (Ex.refl _) hD)⟩ (fun i H _ p => hG H p.1) ?_ (fun H p => let ⟨ys, h1, h2, h3⟩ := p.2; q D ys H hD p.1 h1 h2 h3)
  intro i x H H' hi p y
  obtain ⟨p1, ys, p2, p3, p4⟩ := p
  refine step D i x ys H H' hi hD p1 p2 p4 y _ fun z H4 e4 hp4 => ⟨ys, e4 _ _ p2, sz_lt (by omega), Ex.mut (p1.trans e4) hD, ys ++ [z], upd_same, (by rw [List.length_append, p3]; rfl), mono D _ _ _ _ hp4 Bu.upd⟩
/-- the items are integers -/
theorem r_lcZ {J : It} {n : Nat} {G : Hp → Prop} {Y : Nat → Hp → V → Hp → Prop} {g : TG} {vs : List Nat} {te : TE} {σ : L2.St} {H1 : Hp} {Q : VK} (w : Walk J n G Y) (r : List Int) (hr : r.length = n) (hn : n ≤ 50000) (hG : ∀ H' : Hp, Ex H1 H' → G H')
    (step : ∀ i x H H', i < n → Ex H1 H → Y i H x H' → ∀ N : VK, (∀ H4, Ex H H4 → N (.int (r.getD i 0)) H4) → g x (wipe σ vs) H' fun σ2 H2 => wipe σ2 vs = wipe σ vs ∧ te σ2 H2 N)
    (q : ∀ D H', H1 D = none → Ex H1 H' → H' D = some (.lst (r.map V.int)) → Q (.ref D) H') : lcB J g tYes te vs σ Q H1 := by
  refine r_lcP w (fun _ i ys _ => ys = (r.take i).map V.int) hn hG (fun _ _ _ => rfl) (fun _ _ _ _ _ h _ => h) ?_ (fun D ys H' h1 h2 h3 h4 h5 => q D H' h1 h2 ?_)
  · intro D i x ys H H' hi hD e hd hp y N hN
    refine step i x H H' hi e y N fun H4 e4 => hN _ H4 e4 ?_
    have : i < r.length := by omega
    rw [hp, List.take_add_one, List.getElem?_eq_getElem this, List.map_append]
    congr 1
    simp [this]
  · rw [h3, h5, ← hr, List.take_length]
/-- any target, no test; the heap may change as it likes -/
theorem r_lcG {J : It} {n : Nat} {G : Hp → Prop} {Y : Nat → Hp → V → Hp → Prop} {g : TG} {vs : List Nat} {te : TE} {σ : L2.St} {H1 : Hp} {Q : VK} (w : Walk J n G Y) (P : Addr → Nat → List V → Hp → Prop) (hn : n ≤ 50000) (hG : ∀ D i ys H, P D i ys H → G H)
    (h0 : ∀ D, H1 D = none → P D 0 [] (upd H1 D (.lst []))) (mono : ∀ D i ys H o, H1 D = none → P D i ys H → P D i ys (upd H D o))
    (step : ∀ D i x ys H H', i < n → H1 D = none → H D = some (.lst ys) → ys.length = i → P D i ys H → Y i H x H' → ∀ N : VK, (∀ y H4, H4 D = some (.lst ys) → P D (i + 1) (ys ++ [y]) H4 → N y H4) → g x (wipe σ vs) H' fun σ2 H2 => wipe σ2 vs = wipe σ vs ∧ te σ2 H2 N)
    (q : ∀ D ys H', H1 D = none → H' D = some (.lst ys) → ys.length = n → P D n ys H' → Q (.ref D) H') : lcB J g tYes te vs σ Q H1 := by
  intro D hD
  refine lc_it w (fun i H => ∃ ys, H D = some (.lst ys) ∧ ys.length = i ∧ P D i ys H) ⟨[], upd_same, rfl, h0 D hD⟩ (fun i H _ p => let ⟨ys, _, _, h⟩ := p; hG D i ys H h) ?_ (fun H p => let ⟨ys, h1, h2, h3⟩ := p; q D ys H hD h1 h2 h3)
  intro i x H H' hi p y
  obtain ⟨ys, p2, p3, p4⟩ := p
  refine step D i x ys H H' hi hD p2 p3 p4 y _ fun z H4 h4 hp4 => ⟨ys, h4, sz_lt (by omega), ys ++ [z], upd_same, (by rw [List.length_append, p3]; rfl), mono D _ _ _ _ hD hp4⟩
/-! ### the bag's own list stays -/
def Bg (p : Addr) (H H' : Hp) : Prop := Bu p H H' ∧ ∀ L x y, H p = some (.lst [.ref L, x, y]) → ∃ x' y', H' p = some (.lst [.ref L, x', y'])
theorem Bg.refl (p : Addr) (H : Hp) : Bg p H H := ⟨Bu.refl p H, fun _ x y h => ⟨x, y, h⟩⟩
theorem Bg.trans {p : Addr} {H H1 H2 : Hp} (a : Bg p H H1) (b : Bg p H1 H2) : Bg p H H2 := ⟨a.1.trans b.1, fun L x y h => let ⟨x', y', h'⟩ := a.2 L x y h; b.2 L x' y' h'⟩
theorem Bg.of {p : Addr} {H H' : Hp} (e : Ex H H') : Bg p H H' := ⟨Bu.of e, fun _ x y h => ⟨x, y, e _ _ h⟩⟩
theorem Bg.at_ {p b : Addr} {H H' : Hp} {o : HO} (e : Bg p H H') (n : b ≠ p) (h : H b = some o) : H' b = some o := e.1 b o n h
theorem Bg.updD {p D : Addr} {H1 H : Hp} {o : HO} {n0 : Int} (e : Bg p H1 H) (hb : Bag H1 p n0) (hD : H1 D = none) : Bg p H1 (upd H D o) := by
  obtain ⟨L, xs, a, l, h1, _⟩ := hb.is
  have np : p ≠ D := by rintro rfl; rw [hD] at h1; cases h1
  refine ⟨fun b u n hb => ?_, fun L x y h => ?_⟩
  · rw [upd_ne (by rintro rfl; rw [hD] at hb; cases hb)]
    exact e.1 b u n hb
  · rw [upd_ne np]
    exact e.2 L x y h
theorem Bag.updD {p D : Addr} {H1 H : Hp} {o : HO} {n0 n : Int} (hb : Bag H p n) (hb1 : Bag H1 p n0) (e : Bg p H1 H) (hD : H1 D = none) : Bag (upd H D o) p n := by
  obtain ⟨L1, xs1, a1, l1, h1, hL1, ne1, _⟩ := hb1.is
  obtain ⟨L, xs, a, l, h, hL, ne, r⟩ := hb.is
  obtain ⟨x', y', h'⟩ := e.2 L1 _ _ h1
  rw [h] at h'
  cases h'
  have np : p ≠ D := by rintro rfl; rw [hD] at h1; cases h1
  have nL : L1 ≠ D := by rintro rfl; rw [hD] at hL1; cases hL1
  exact ⟨L1, xs, a, l, by rw [upd_ne np]; exact h, by rw [upd_ne nL]; exact hL, ne, r⟩
/-- what a draw promises -/
def spDrawG : Sp := sp2 fun b m H Q _ => ∃ p m' n, b = .ref p ∧ m = .int m' ∧ 0 < m' ∧ Z 1000 m' ∧ n ≤ 100000 ∧ Bag H p n ∧ ∀ r H', 0 ≤ r → r < m' → Bg p H H' → Bag H' p (n + 1) → Q (.int r) H'
theorem r_DrawG {H : Hp} {Q : VK} {E : XK} {p : Addr} {m n : Int} (hb : Bag H p n) (hn : n ≤ 100000) (h0 : 0 < m) (hm : Z 1000 m) (k : ∀ r H', 0 ≤ r → r < m → Bg p H H' → Bag H' p (n + 1) → Q (.int r) H') : spDrawG ([.ref p, .int m] ++ []) H Q E :=
  ⟨p, m, n, rfl, rfl, h0, hm, hn, hb, k⟩
end GS
/-! x == y, x of a built-in kind, y an instance with an own __eq__. -/
namespace GS
open PySem PySem.Spec PyProof.Rows L2 TL
section
variable {prog : Program} {w : World} {A : Around} {E : Value → Shared → Prop} {s : Shared} {p C dx : Addr} {Q : Value → Shared → Prop}
theorem dec_int {i : Int} {t : Tok} (h : s.heap.get? p = some (PySem.W.instObj C dx)) (q : Q .notImplemented s) : wpAny (model prog w) A (call (.builtin "int.__eq__") [.int i t, .ref p]) Q E s := by
  refine GQ.call_here F.slot_int_eq (typeIs_int s i t) F.entry_int_eq (F.args_int_eq_2 _ _) ?_
  obtain ⟨hp, g, d, tk, os⟩ := s
  wp_walk using AutoSeq1.wpAny_loadPart' h
  exact q
theorem dec_str {i : Str} {t : Tok} (h : s.heap.get? p = some (PySem.W.instObj C dx)) (q : Q .notImplemented s) : wpAny (model prog w) A (call (.builtin "str.__eq__") [.str i t, .ref p]) Q E s := by
  refine GQ.call_here F.slot_str_eq (typeIs_str s i t) F.entry_str_eq (F.args_str_eq_2 _ _) ?_
  obtain ⟨hp, g, d, tk, os⟩ := s
  wp_walk using AutoSeq1.wpAny_loadPart' h
  exact q
theorem dec_none (q : Q .notImplemented s) : wpAny (model prog w) A (call (.builtin "NoneType.__eq__") [.none, .ref p]) Q E s := by
  refine GQ.call_here F.slot_NoneType_eq (show s.TypeIs .none "NoneType" from rfl) F.entry_NoneType_eq (F.args_NoneType_eq_2 _ _) ?_
  obtain ⟨hp, g, d, tk, os⟩ := s
  wp_walk
  exact q
theorem dec_list {l : Addr} (h : s.heap.get? p = some (PySem.W.instObj C dx)) (hl : ∃ o, s.heap.get? l = some o ∧ o.cls = .type "list") (hs : PySem.W.Looks (model prog w) s.heap (isSubtype (.ref C) (.type "list")) false) (q : Q .notImplemented s) : wpAny (model prog w) A (call (.builtin "list.__eq__") [.ref l, .ref p]) Q E s := by
  refine GQ.call_here F.slot_list_eq hl F.entry_list_eq (F.args_list_eq_2 _ _) ?_
  obtain ⟨hp, g, d, tk, os⟩ := s
  have sub : ∀ {A' : Around} {E' : Value → Shared → Prop} {Q' : Bool → Shared → Prop}, Q' false ⟨hp, g, d, tk, os⟩ → wpAny (model prog w) A' (isSubtype (.ref C) (.type "list")) Q' E' ⟨hp, g, d, tk, os⟩ := fun q => hs.here q
  wp_walk using AutoSeq1.wpAny_loadPart' h, sub
  exact q
theorem dec_tuple {l : Addr} (h : s.heap.get? p = some (PySem.W.instObj C dx)) (hl : ∃ o, s.heap.get? l = some o ∧ o.cls = .type "tuple") (hs : PySem.W.Looks (model prog w) s.heap (isSubtype (.ref C) (.type "tuple")) false) (q : Q .notImplemented s) : wpAny (model prog w) A (call (.builtin "tuple.__eq__") [.ref l, .ref p]) Q E s := by
  refine GQ.call_here F.slot_tuple_eq hl F.entry_tuple_eq (F.args_tuple_eq_2 _ _) ?_
  obtain ⟨hp, g, d, tk, os⟩ := s
  have sub : ∀ {A' : Around} {E' : Value → Shared → Prop} {Q' : Bool → Shared → Prop}, Q' false ⟨hp, g, d, tk, os⟩ → wpAny (model prog w) A' (isSubtype (.ref C) (.type "tuple")) Q' E' ⟨hp, g, d, tk, os⟩ := fun q => hs.here q
  wp_walk using AutoSeq1.wpAny_loadPart' h, sub
  exact q
/-- the left side declines, the right one has an own __eq__ -/
theorem cmp_refl {K : PySem.W.Frag} {h₀ : Heap} {L f : Addr} {m : Str → Option Value} {od : Option Obj} {ox : Obj} {a : Value} {Ta id : String} (hu : A.units < cLine) (F : Fr h₀ L s.heap m) (X₀ : K.In h₀) (I : PySem.W.InstAt s.heap p ox C od)
    (ha : s.TypeIs a Ta) (slot : Slot Ta (cmpInfo .Eq).2.1 id) (hsub : PySem.W.Looks (model prog w) s.heap (isSubtype (.ref C) (.type Ta)) false) (hs : PySem.W.findIn K (.ref C) (cmpInfo .Eq).2.2 = some (some (.ref f))) (hf : PySem.W.isFn K (.ref f) = true)
    (dec : wpAny (model prog w) A (call (.builtin id) [a, .ref p]) (fun v s' => v = .notImplemented ∧ s' = s) E s)
    (h : wpAny (model prog w) A (call (.ref f) [.ref p, a]) (PySem.W.CmpBack Q) E s) : wpAny (model prog w) A (richCompare .Eq a (.ref p)) Q E s := by
  have X := X₀.keeps F.keep
  have one : wpAny (model prog w) A (tryCompare (.ref p) (cmpInfo .Eq).2.2 a) (fun r s' => ∃ v, r = some v ∧ Q v s') E s := by
    unfold tryCompare
    refine wpAny_bind (PySem.W.ifBound_K X I hs hf (wpAny_mono h (fun v s' hv => ?_) fun _ _ e => e))
    cases v <;> first | exact hv.elim | exact wpAny_pure ⟨_, rfl, hv⟩
  unfold richCompare
  simp only [ha.oneThing_none]
  refine wpAny_holding (wpAny_bind (wpAny_cRoomFor hu ?_))
  refine wpAny_bind (wpAny_typeOf ha (wpAny_bind (I.type.here ?_)))
  rw [if_pos (show (Value.type Ta != Value.ref C) = true from rfl)]
  refine wpAny_bind (hsub.here ?_)
  simp only [Bool.false_eq_true, if_false, Bool.not_false, if_true]
  refine wpAny_bind (m := tryCompare a _ (.ref p)) (wpAny_tryCompare_declines ha slot (wpAny_mono dec (fun v s' z => ?_) fun _ _ e => e))
  obtain ⟨rfl, rfl⟩ := z
  refine ⟨rfl, ?_⟩
  refine wpAny_bind (wpAny_mono one (fun r s' z => ?_) fun _ _ e => e)
  obtain ⟨v, rfl, hq⟩ := z
  exact wpAny_pure hq
end
/-- a value of a built-in kind that declines -/
inductive LeftV (H : Hp) : V → Prop
  | non : LeftV H .non
  | int (i : Int) : LeftV H (.int i)
  | str (z : Str) : LeftV H (.str z)
  | lst {a : Addr} {xs : List V} (h : H a = some (.lst xs)) : LeftV H (.ref a)
  | tup {a : Addr} {xs : List V} (h : H a = some (.tup xs)) : LeftV H (.ref a)
section
variable {X : Cx}
def rEqR (C : Addr) (sp : Sp) (E : XK) : R2 := fun x y H Q => ∃ a dx fs, y = .ref a ∧ H a = some (.ins C dx fs) ∧ LeftV H x ∧ sp [y, x] H Q E
theorem op_eqR {CX : CXT} {k : Nat} {C f : Addr} {fd : FuncData} {ps : List Str} {sp : Sp} {E : XK} (Fn : FnOk X.prog X.w X.K X.mg X.base CX k f fd ps sp) (hr : Room k X.A)
    (no : ∀ T ∈ ["int", "str", "NoneType", "list", "tuple"], PySem.W.kitOne X.K (.ref C) (.type T) = some false)
    (hs : PySem.W.findIn X.K (.ref C) "__eq__" = some (some (.ref f))) (hf : PySem.W.isFn X.K (.ref f) = true) (hb : Binds X.K fd ps []) (hx : Passes CX X E) : OpR X (compareOp .Eq) (rEqR C sp E) := by
  intro pins s σ H x y v u Q I rx ry hq
  obtain ⟨a, dx, fs, rfl, ha, lv, hsp⟩ := hq
  cases ry
  obtain ⟨mA, O, _⟩ := ins_get I.hok ha
  obtain ⟨od, J, _⟩ := O.look
  obtain ⟨m, hF⟩ := I.fr
  show wpAny (model X.prog X.w) X.A (richCompare .Eq v (.ref a)) (EP X pins σ Q) X.xe s
  have sub : ∀ T ∈ ["int", "str", "NoneType", "list", "tuple"], PySem.W.Looks (model X.prog X.w) s.heap (isSubtype (.ref C) (.type T)) false := fun T hT => by
    have e := no T hT
    unfold PySem.W.kitOne at e
    have ne : (Value.ref C == Value.type T) = false := by rfl
    rw [ne, if_neg Bool.false_ne_true] at e
    exact (PySem.W.kit_cls I.kIn e).2.2
  have fin : wpAny (model X.prog X.w) X.A (call (.ref f) [.ref a, v]) (PySem.W.CmpBack (EP X pins σ Q)) X.xe s := by
    refine wpAny_mono (run_at Fn hr rfl hb hx I (.cons (show L2.RelV (V.ref a) (Value.ref a) from rfl) (.cons rx .nil)) hsp) (fun v s' hv => ?_) fun _ _ z => z
    cases v <;> first | exact hv | (obtain ⟨w, _, _, z, _⟩ := hv; exact (notImpl_no z).elim)
  have O' : s.heap.get? a = some (PySem.W.instObj C dx) := O.1
  cases lv with
  | non =>
    cases (show v = Value.none from rx)
    exact cmp_refl hr.units0 hF I.ok.mod.kin J (show s.TypeIs .none "NoneType" from rfl) F.slot_NoneType_eq (sub _ (by decide)) hs hf (dec_none ⟨rfl, rfl⟩) fin
  | int i =>
    obtain ⟨t, e⟩ := (show ∃ t, v = Value.int i t from rx)
    subst e
    exact cmp_refl hr.units0 hF I.ok.mod.kin J (typeIs_int s i t) F.slot_int_eq (sub _ (by decide)) hs hf (dec_int O' ⟨rfl, rfl⟩) fin
  | str i =>
    obtain ⟨t, e⟩ := (show ∃ t, v = Value.str i t from rx)
    subst e
    exact cmp_refl hr.units0 hF I.ok.mod.kin J (typeIs_str s i t) F.slot_str_eq (sub _ (by decide)) hs hf (dec_str O' ⟨rfl, rfl⟩) fin
  | @lst b xs h =>
    cases (show v = Value.ref b from rx)
    obtain ⟨its, r, hl, _⟩ := I.list (show SqL X.K H b xs from SqL.of h)
    obtain ⟨o, ho, hc, _⟩ := hl.isList
    have tl : ∃ o, s.heap.get? b = some o ∧ o.cls = .type "list" := ⟨_, ho, hc⟩
    exact cmp_refl hr.units0 hF I.ok.mod.kin J tl F.slot_list_eq (sub _ (by decide)) hs hf (dec_list O' tl (sub _ (by decide)) ⟨rfl, rfl⟩) fin
  | @tup b xs h =>
    cases (show v = Value.ref b from rx)
    obtain ⟨its, r, hl, _⟩ := I.tuple (show SqT X.K H b xs from SqT.of h)
    obtain ⟨o, ho, hc, _⟩ := hl
    have tl : ∃ o, s.heap.get? b = some o ∧ o.cls = .type "tuple" := ⟨_, ho, hc⟩
    exact cmp_refl hr.units0 hF I.ok.mod.kin J tl F.slot_tuple_eq (sub _ (by decide)) hs hf (dec_tuple O' tl (sub _ (by decide)) ⟨rfl, rfl⟩) fin
theorem op_or {op : Value → Value → Sem Value} {r1 r2 : R2} (h1 : OpR X op r1) (h2 : OpR X op r2) : OpR X op fun x y H Q => r1 x y H Q ∨ r2 x y H Q := fun pins s σ H x y v u Q I rx ry h => h.elim (h1 pins s σ H x y v u Q I rx ry) (h2 pins s σ H x y v u Q I rx ry)
theorem kx_eqOwn {K : PySem.W.Frag} (h : X.K = K) {CX : CXT} {k : Nat} {C f : Addr} {fd : FuncData} {ps : List Str} {sp : Sp} {E : XK} (F : FnOk X.prog X.w X.K X.mg X.base CX k f fd ps sp) (hr : Room k X.A)
    (hs : PySem.W.findIn X.K (.ref C) "__eq__" = some (some (.ref f))) (hf : PySem.W.isFn X.K (.ref f) = true) (hb : Binds X.K fd ps []) (hx : Passes CX X E) : OpR X (compareOp .Eq) (rEqOwn K C sp E) := by
  subst h
  exact op_eqOwn F hr hs hf hb hx
theorem kx_catT {K : PySem.W.Frag} (h : X.K = K) : OpR X (binaryOp .Add) (rCatT K) := by subst h; exact op_catT
end
end GS
namespace K04
open PySem PySem.Spec PyProof.Rows L2 GS
def topS (i : Nat) : Stmt := PySem.Challenge.pw_goodsigns_k04_polys_multiplied_divided_d.main.body.getD i (.Pass ⟨0, 0, 0, 0⟩)
abbrev s_BadNumber_init : Stmt := inClass (topS 3) 0
abbrev s_BadBound_init : Stmt := inClass (topS 4) 0
abbrev s_BadPoly_init : Stmt := inClass (topS 5) 0
abbrev s_Misfit_init : Stmt := inClass (topS 6) 0
abbrev s_TooMany_init : Stmt := inClass (topS 7) 0
abbrev s_BadText_init : Stmt := inClass (topS 8) 0
abbrev s_is_integer : Stmt := topS 11
abbrev s_is_within : Stmt := topS 12
abbrev s_is_row : Stmt := topS 13
abbrev s_are_integers : Stmt := topS 14
abbrev s_need_integer : Stmt := topS 15
abbrev s_need_integers : Stmt := topS 16
abbrev s_common_divisor : Stmt := topS 17
abbrev s_items_of : Stmt := topS 20
abbrev s_is_integer_text : Stmt := topS 21
abbrev s_integer_at : Stmt := topS 22
abbrev s_need_end : Stmt := topS 23
abbrev s_integer_text : Stmt := topS 24
abbrev s_Poly_init : Stmt := inClass (topS 27) 0
abbrev s_Poly_eq : Stmt := inClass (topS 27) 1
abbrev s_Poly_str : Stmt := inClass (topS 27) 2
abbrev s_Poly_worth : Stmt := inClass (topS 27) 3
abbrev s_Poly_read : Stmt := inClass (topS 27) 4
abbrev s_need_poly : Stmt := topS 28
abbrev s_times : Stmt := topS 29
abbrev s_mixed : Stmt := topS 30
abbrev s_divided : Stmt := topS 31
abbrev s_derived_numbers : Stmt := topS 32
abbrev s_derived : Stmt := topS 33
abbrev s_in_squares : Stmt := topS 34
abbrev s_lessened : Stmt := topS 35
abbrev s_Bound_init : Stmt := inClass (topS 37) 0
abbrev s_Bound_eq : Stmt := inClass (topS 37) 1
abbrev s_Bound_str : Stmt := inClass (topS 37) 2
abbrev s_Bound_read : Stmt := inClass (topS 37) 3
abbrev s_need_bound : Stmt := topS 38
abbrev s_shifted : Stmt := topS 40
abbrev s_shift_ahead : Stmt := topS 41
abbrev s__law_bag : Stmt := topS 43
abbrev s__law_draw : Stmt := topS 44
abbrev s__law_pick : Stmt := topS 45
abbrev s__law_great : Stmt := topS 46
abbrev s__law_number : Stmt := topS 47
abbrev s__law_numbers : Stmt := topS 48
abbrev s__law_product : Stmt := topS 49
abbrev s__law_is : Stmt := topS 50
abbrev s__law_measure : Stmt := topS 51
abbrev s__law_left : Stmt := topS 52
abbrev s__law_quotients_right : Stmt := topS 53
abbrev s__law_sums_right : Stmt := topS 54
abbrev s__law_shifts_right : Stmt := topS 55
abbrev s__law_told : Stmt := topS 56
abbrev s__law_shares : Stmt := topS 57
abbrev s__law_refused : Stmt := topS 58
abbrev s_law : Stmt := topS 59
theorem sc_BadNumber_init : FnScope ["self", "part"] ["self", "part"] (defScope s_BadNumber_init) := ⟨rfl, rfl, rfl, by decide +kernel, rfl, by decide +kernel, by decide +kernel⟩
theorem sc_BadBound_init : FnScope ["self", "part"] ["self", "part"] (defScope s_BadBound_init) := ⟨rfl, rfl, rfl, by decide +kernel, rfl, by decide +kernel, by decide +kernel⟩
theorem sc_BadPoly_init : FnScope ["self", "part"] ["self", "part"] (defScope s_BadPoly_init) := ⟨rfl, rfl, rfl, by decide +kernel, rfl, by decide +kernel, by decide +kernel⟩
theorem sc_Misfit_init : FnScope ["self", "part"] ["self", "part"] (defScope s_Misfit_init) := ⟨rfl, rfl, rfl, by decide +kernel, rfl, by decide +kernel, by decide +kernel⟩
theorem sc_TooMany_init : FnScope ["self", "what", "most"] ["self", "what", "most"] (defScope s_TooMany_init) := ⟨rfl, rfl, rfl, by decide +kernel, rfl, by decide +kernel, by decide +kernel⟩
theorem sc_BadText_init : FnScope ["self", "line", "item"] ["self", "line", "item"] (defScope s_BadText_init) := ⟨rfl, rfl, rfl, by decide +kernel, rfl, by decide +kernel, by decide +kernel⟩
theorem sc_is_integer : FnScope ["value"] ["value"] (defScope s_is_integer) := ⟨rfl, rfl, rfl, by decide +kernel, rfl, by decide +kernel, by decide +kernel⟩
theorem sc_is_within : FnScope ["value", "least", "most"] ["value", "least", "most"] (defScope s_is_within) := ⟨rfl, rfl, rfl, by decide +kernel, rfl, by decide +kernel, by decide +kernel⟩
theorem sc_is_row : FnScope ["value"] ["value"] (defScope s_is_row) := ⟨rfl, rfl, rfl, by decide +kernel, rfl, by decide +kernel, by decide +kernel⟩
theorem sc_are_integers : FnScope ["value", "each"] ["value"] (defScope s_are_integers) := ⟨rfl, rfl, rfl, by decide +kernel, rfl, by decide +kernel, by decide +kernel⟩
theorem sc_need_integer : FnScope ["value", "part", "least", "most"] ["value", "part", "least", "most"] (defScope s_need_integer) := ⟨rfl, rfl, rfl, by decide +kernel, rfl, by decide +kernel, by decide +kernel⟩
theorem sc_need_integers : FnScope ["value", "part"] ["value", "part"] (defScope s_need_integers) := ⟨rfl, rfl, rfl, by decide +kernel, rfl, by decide +kernel, by decide +kernel⟩
theorem sc_common_divisor : FnScope ["values", "divisor", "value"] ["values"] (defScope s_common_divisor) := ⟨rfl, rfl, rfl, by decide +kernel, rfl, by decide +kernel, by decide +kernel⟩
theorem sc_items_of : FnScope ["text"] ["text"] (defScope s_items_of) := ⟨rfl, rfl, rfl, by decide +kernel, rfl, by decide +kernel, by decide +kernel⟩
theorem sc_is_integer_text : FnScope ["item", "digits", "each"] ["item"] (defScope s_is_integer_text) := ⟨rfl, rfl, rfl, by decide +kernel, rfl, by decide +kernel, by decide +kernel⟩
theorem sc_integer_at : FnScope ["items", "at", "least", "most", "number"] ["items", "at", "least", "most"] (defScope s_integer_at) := ⟨rfl, rfl, rfl, by decide +kernel, rfl, by decide +kernel, by decide +kernel⟩
theorem sc_need_end : FnScope ["items", "many"] ["items", "many"] (defScope s_need_end) := ⟨rfl, rfl, rfl, by decide +kernel, rfl, by decide +kernel, by decide +kernel⟩
theorem sc_integer_text : FnScope ["number", "chunk", "left", "parts", "sign"] ["number"] (defScope s_integer_text) := ⟨rfl, rfl, rfl, by decide +kernel, rfl, by decide +kernel, by decide +kernel⟩
theorem sc_Poly_init : FnScope ["self", "numbers"] ["self", "numbers"] (defScope s_Poly_init) := ⟨rfl, rfl, rfl, by decide +kernel, rfl, by decide +kernel, by decide +kernel⟩
theorem sc_Poly_eq : FnScope ["self", "other"] ["self", "other"] (defScope s_Poly_eq) := ⟨rfl, rfl, rfl, by decide +kernel, rfl, by decide +kernel, by decide +kernel⟩
theorem sc_Poly_str : FnScope ["self", "number"] ["self"] (defScope s_Poly_str) := ⟨rfl, rfl, rfl, by decide +kernel, rfl, by decide +kernel, by decide +kernel⟩
theorem sc_Poly_worth : FnScope ["self", "x", "total", "number"] ["self", "x"] (defScope s_Poly_worth) := ⟨rfl, rfl, rfl, by decide +kernel, rfl, by decide +kernel, by decide +kernel⟩
theorem sc_Poly_read : FnScope ["text", "items", "numbers", "at"] ["text"] (defScope s_Poly_read) := ⟨rfl, rfl, rfl, by decide +kernel, rfl, by decide +kernel, by decide +kernel⟩
theorem sc_need_poly : FnScope ["value", "part"] ["value", "part"] (defScope s_need_poly) := ⟨rfl, rfl, rfl, by decide +kernel, rfl, by decide +kernel, by decide +kernel⟩
theorem sc_times : FnScope ["one", "other", "many", "found", "i", "mine", "j", "its"] ["one", "other"] (defScope s_times) := ⟨rfl, rfl, rfl, by decide +kernel, rfl, by decide +kernel, by decide +kernel⟩
theorem sc_mixed : FnScope ["one", "other", "mine", "its", "a", "b"] ["one", "other", "mine", "its"] (defScope s_mixed) := ⟨rfl, rfl, rfl, by decide +kernel, rfl, by decide +kernel, by decide +kernel⟩
theorem sc_divided : FnScope ["poly", "by", "rest", "found", "at", "share", "k", "number"] ["poly", "by"] (defScope s_divided) := ⟨rfl, rfl, rfl, by decide +kernel, rfl, by decide +kernel, by decide +kernel⟩
theorem sc_derived_numbers : FnScope ["numbers", "degree", "at", "number"] ["numbers"] (defScope s_derived_numbers) := ⟨rfl, rfl, rfl, by decide +kernel, rfl, by decide +kernel, by decide +kernel⟩
theorem sc_derived : FnScope ["poly"] ["poly"] (defScope s_derived) := ⟨rfl, rfl, rfl, by decide +kernel, rfl, by decide +kernel, by decide +kernel⟩
theorem sc_in_squares : FnScope ["poly"] ["poly"] (defScope s_in_squares) := ⟨rfl, rfl, rfl, by decide +kernel, rfl, by decide +kernel, by decide +kernel⟩
theorem sc_lessened : FnScope ["poly", "divisor", "number"] ["poly"] (defScope s_lessened) := ⟨rfl, rfl, rfl, by decide +kernel, rfl, by decide +kernel, by decide +kernel⟩
theorem sc_Bound_init : FnScope ["self", "whole", "part", "under"] ["self", "whole", "part", "under"] (defScope s_Bound_init) := ⟨rfl, rfl, rfl, by decide +kernel, rfl, by decide +kernel, by decide +kernel⟩
theorem sc_Bound_eq : FnScope ["self", "other"] ["self", "other"] (defScope s_Bound_eq) := ⟨rfl, rfl, rfl, by decide +kernel, rfl, by decide +kernel, by decide +kernel⟩
theorem sc_Bound_str : FnScope ["self", "each"] ["self"] (defScope s_Bound_str) := ⟨rfl, rfl, rfl, by decide +kernel, rfl, by decide +kernel, by decide +kernel⟩
theorem sc_Bound_read : FnScope ["text", "items", "whole", "part", "under"] ["text"] (defScope s_Bound_read) := ⟨rfl, rfl, rfl, by decide +kernel, rfl, by decide +kernel, by decide +kernel⟩
theorem sc_need_bound : FnScope ["value", "part"] ["value", "part"] (defScope s_need_bound) := ⟨rfl, rfl, rfl, by decide +kernel, rfl, by decide +kernel, by decide +kernel⟩
theorem sc_shifted : FnScope ["poly", "bound", "wholes", "parts", "end", "whole", "part"] ["poly", "bound"] (defScope s_shifted) := ⟨rfl, rfl, rfl, by decide +kernel, rfl, by decide +kernel, by decide +kernel⟩
theorem sc_shift_ahead : FnScope ["wholes", "parts", "bound", "end", "at", "whole", "part"] ["wholes", "parts", "bound", "end"] (defScope s_shift_ahead) := ⟨rfl, rfl, rfl, by decide +kernel, rfl, by decide +kernel, by decide +kernel⟩
theorem sc__law_bag : FnScope ["script", "cell"] ["script"] (defScope s__law_bag) := ⟨rfl, rfl, rfl, by decide +kernel, rfl, by decide +kernel, by decide +kernel⟩
theorem sc__law_draw : FnScope ["bag", "many", "left", "at", "cell", "blend"] ["bag", "many"] (defScope s__law_draw) := ⟨rfl, rfl, rfl, by decide +kernel, rfl, by decide +kernel, by decide +kernel⟩
theorem sc__law_pick : FnScope ["bag", "some"] ["bag", "some"] (defScope s__law_pick) := ⟨rfl, rfl, rfl, by decide +kernel, rfl, by decide +kernel, by decide +kernel⟩
theorem sc__law_great : FnScope ["bag"] ["bag"] (defScope s__law_great) := ⟨rfl, rfl, rfl, by decide +kernel, rfl, by decide +kernel, by decide +kernel⟩
theorem sc__law_number : FnScope ["bag", "way", "size"] ["bag", "way"] (defScope s__law_number) := ⟨rfl, rfl, rfl, by decide +kernel, rfl, by decide +kernel, by decide +kernel⟩
theorem sc__law_numbers : FnScope ["bag", "degree", "way", "first", "power"] ["bag", "degree", "way"] (defScope s__law_numbers) := ⟨rfl, rfl, rfl, by decide +kernel, rfl, by decide +kernel, by decide +kernel⟩
theorem sc__law_product : FnScope ["one", "other", "most", "number", "base", "mine", "its", "left", "found", "power", "digit"] ["one", "other"] (defScope s__law_product) := ⟨rfl, rfl, rfl, by decide +kernel, rfl, by decide +kernel, by decide +kernel⟩
theorem sc__law_is : FnScope ["poly", "numbers", "number"] ["poly", "numbers"] (defScope s__law_is) := ⟨rfl, rfl, rfl, by decide +kernel, rfl, by decide +kernel, by decide +kernel⟩
theorem sc__law_measure : FnScope ["numbers", "found", "number"] ["numbers"] (defScope s__law_measure) := ⟨rfl, rfl, rfl, by decide +kernel, rfl, by decide +kernel, by decide +kernel⟩
theorem sc__law_left : FnScope ["poly", "by", "found", "error"] ["poly", "by"] (defScope s__law_left) := ⟨rfl, rfl, rfl, by decide +kernel, rfl, by decide +kernel, by decide +kernel⟩
theorem sc__law_quotients_right : FnScope ["bag", "one", "other", "mine", "its", "numbers", "product", "power", "step", "due", "at"] ["bag", "one", "other"] (defScope s__law_quotients_right) := ⟨rfl, rfl, rfl, by decide +kernel, rfl, by decide +kernel, by decide +kernel⟩
theorem sc__law_sums_right : FnScope ["bag", "one", "other", "mine", "its", "x", "worth", "power", "number", "shares", "twin", "total", "factor", "common", "steps", "at", "sides"] ["bag", "one", "other"] (defScope s__law_sums_right) := ⟨rfl, rfl, rfl, by decide +kernel, rfl, by decide +kernel, by decide +kernel⟩
theorem sc__law_shifts_right : FnScope ["bag", "one", "other", "under", "bound", "mine", "its", "found", "at", "number", "spot", "factor", "row", "told"] ["bag", "one", "other"] (defScope s__law_shifts_right) := ⟨rfl, rfl, rfl, by decide +kernel, rfl, by decide +kernel, by decide +kernel⟩
theorem sc__law_told : FnScope ["way", "one", "other", "error"] ["way", "one", "other"] (defScope s__law_told) := ⟨rfl, rfl, rfl, by decide +kernel, rfl, by decide +kernel, by decide +kernel⟩
theorem sc__law_shares : FnScope ["poly", "mine", "its", "error"] ["poly", "mine", "its"] (defScope s__law_shares) := ⟨rfl, rfl, rfl, by decide +kernel, rfl, by decide +kernel, by decide +kernel⟩
theorem sc__law_refused : FnScope ["bag", "one", "mine", "flat", "odd", "poly", "told", "way", "word", "shares", "share", "its", "each", "longer", "number", "misfit", "strange", "rows", "row", "wide", "tight"] ["bag", "one"] (defScope s__law_refused) := ⟨rfl, rfl, rfl, by decide +kernel, rfl, by decide +kernel, by decide +kernel⟩
theorem sc_law : FnScope ["script", "bag", "turn", "one", "other"] ["script"] (defScope s_law) := ⟨rfl, rfl, rfl, by decide +kernel, rfl, by decide +kernel, by decide +kernel⟩
abbrev tys : List String := ["int", "bool", "str", "NoneType", "list", "tuple", "dict"]
def fa_0 : List He.Fa := [.glo "is_integer",
  .glo "is_within",
  .glo "is_row",
  .glo "are_integers",
  .glo "need_integer",
  .glo "need_integers",
  .glo "common_divisor",
  .glo "items_of",
  .glo "is_integer_text",
  .glo "integer_at",
  .glo "need_end",
  .glo "integer_text",
  .glo "need_poly",
  .glo "times",
  .glo "mixed",
  .glo "divided",
  .glo "derived_numbers",
  .glo "derived",
  .glo "in_squares",
  .glo "lessened",
  .glo "need_bound",
  .glo "shifted",
  .glo "shift_ahead",
  .glo "_law_bag",
  .glo "_law_draw",
  .glo "_law_pick",
  .glo "_law_great",
  .glo "_law_number",
  .glo "_law_numbers",
  .glo "_law_product"]
def fa_1 : List He.Fa := [.glo "_law_is",
  .glo "_law_measure",
  .glo "_law_left",
  .glo "_law_quotients_right",
  .glo "_law_sums_right",
  .glo "_law_shifts_right",
  .glo "_law_told",
  .glo "_law_shares",
  .glo "_law_refused",
  .glo "law",
  .glo "SignsError",
  .glo "BadNumber",
  .glo "BadBound",
  .glo "BadPoly",
  .glo "Misfit",
  .glo "TooMany",
  .glo "BadText",
  .glo "Poly",
  .glo "Bound",
  .keep "is_integer",
  .keep "is_within",
  .keep "is_row",
  .keep "are_integers",
  .keep "need_integer",
  .keep "need_integers",
  .keep "common_divisor",
  .keep "items_of",
  .keep "is_integer_text",
  .keep "integer_at",
  .keep "need_end"]
def fa_2 : List He.Fa := [.keep "integer_text",
  .keep "need_poly",
  .keep "times",
  .keep "mixed",
  .keep "divided",
  .keep "derived_numbers",
  .keep "derived",
  .keep "in_squares",
  .keep "lessened",
  .keep "need_bound",
  .keep "shifted",
  .keep "shift_ahead",
  .keep "_law_bag",
  .keep "_law_draw",
  .keep "_law_pick",
  .keep "_law_great",
  .keep "_law_number",
  .keep "_law_numbers",
  .keep "_law_product",
  .keep "_law_is",
  .keep "_law_measure",
  .keep "_law_left",
  .keep "_law_quotients_right",
  .keep "_law_sums_right",
  .keep "_law_shifts_right",
  .keep "_law_told",
  .keep "_law_shares",
  .keep "_law_refused",
  .keep "law",
  .free "isinstance"]
def fa_3 : List He.Fa := [.free "int",
  .free "bool",
  .free "str",
  .free "list",
  .free "tuple",
  .free "len",
  .free "abs",
  .free "range",
  .free "all",
  .free "any",
  .free "enumerate",
  .free "zip",
  .free "max",
  .free "min",
  .str "DIGITS" "0123456789",
  .int "MOST_DIGITS" 60,
  .int "MOST_NUMBERS" 64,
  .cls "Bound",
  .noat "Bound" "whole",
  .noat "Bound" "part",
  .noat "Bound" "under",
  .mkr "Bound",
  .meth "Bound" "__eq__",
  .meth "Bound" "__str__",
  .cls "Poly",
  .noat "Poly" "numbers",
  .noat "Poly" "degree",
  .mkr "Poly",
  .meth "Poly" "__eq__",
  .meth "Poly" "__str__"]
def fa_4 : List He.Fa := [.meth "Poly" "worth"]
def fa_all : List He.Fa := fa_0 ++ fa_1 ++ fa_2 ++ fa_3 ++ fa_4
def ex_0 : List Chk := [clsB "Bound" tys,
  neB "Bound",
  smB "Bound" "read",
  clsB "Poly" tys,
  neB "Poly",
  smB "Poly" "read",
  bnB "gcd" "math.gcd",
  topB,
  errB "BadNumber" ["part"] ["BadNumber", "SignsError"] ["BadBound", "BadPoly", "Misfit", "TooMany"],
  errB "BadBound" ["part"] ["BadBound", "SignsError"] ["BadNumber", "BadPoly", "Misfit", "TooMany"],
  errB "BadPoly" ["part"] ["BadPoly", "SignsError"] ["BadNumber", "BadBound", "Misfit", "TooMany"],
  errB "Misfit" ["part"] ["Misfit", "SignsError"] ["BadNumber", "BadBound", "BadPoly", "TooMany"],
  errB "TooMany" ["what", "most"] ["TooMany", "SignsError"] ["BadNumber", "BadBound", "BadPoly", "Misfit"],
  errB "BadText" ["line", "item"] ["SignsError"] [],
  otB "Bound" "Poly",
  otB "Poly" "Bound",
  excB "BadNumber",
  excB "BadBound",
  excB "BadPoly",
  excB "Misfit",
  excB "TooMany",
  excB "BadText"]
def ex_all : List Chk := ex_0
def fn_0 : List He5.DefA := [⟨fun K => He.ma K (He.ga K "BadNumber") "__init__", "__init__", "BadNumber.__init__", defArgs s_BadNumber_init, defBody s_BadNumber_init, defScope s_BadNumber_init, [], []⟩,
  ⟨fun K => He.ma K (He.ga K "BadBound") "__init__", "__init__", "BadBound.__init__", defArgs s_BadBound_init, defBody s_BadBound_init, defScope s_BadBound_init, [], []⟩,
  ⟨fun K => He.ma K (He.ga K "BadPoly") "__init__", "__init__", "BadPoly.__init__", defArgs s_BadPoly_init, defBody s_BadPoly_init, defScope s_BadPoly_init, [], []⟩,
  ⟨fun K => He.ma K (He.ga K "Misfit") "__init__", "__init__", "Misfit.__init__", defArgs s_Misfit_init, defBody s_Misfit_init, defScope s_Misfit_init, [], []⟩,
  ⟨fun K => He.ma K (He.ga K "TooMany") "__init__", "__init__", "TooMany.__init__", defArgs s_TooMany_init, defBody s_TooMany_init, defScope s_TooMany_init, [], []⟩,
  ⟨fun K => He.ma K (He.ga K "BadText") "__init__", "__init__", "BadText.__init__", defArgs s_BadText_init, defBody s_BadText_init, defScope s_BadText_init, [], []⟩,
  ⟨fun K => He.ga K "is_integer", "is_integer", "is_integer", defArgs s_is_integer, defBody s_is_integer, defScope s_is_integer, [], []⟩,
  ⟨fun K => He.ga K "is_within", "is_within", "is_within", defArgs s_is_within, defBody s_is_within, defScope s_is_within, [], []⟩,
  ⟨fun K => He.ga K "is_row", "is_row", "is_row", defArgs s_is_row, defBody s_is_row, defScope s_is_row, [], []⟩,
  ⟨fun K => He.ga K "are_integers", "are_integers", "are_integers", defArgs s_are_integers, defBody s_are_integers, defScope s_are_integers, [], []⟩,
  ⟨fun K => He.ga K "need_integer", "need_integer", "need_integer", defArgs s_need_integer, defBody s_need_integer, defScope s_need_integer, [], []⟩,
  ⟨fun K => He.ga K "need_integers", "need_integers", "need_integers", defArgs s_need_integers, defBody s_need_integers, defScope s_need_integers, [], []⟩,
  ⟨fun K => He.ga K "common_divisor", "common_divisor", "common_divisor", defArgs s_common_divisor, defBody s_common_divisor, defScope s_common_divisor, [], []⟩,
  ⟨fun K => He.ga K "items_of", "items_of", "items_of", defArgs s_items_of, defBody s_items_of, defScope s_items_of, [], []⟩,
  ⟨fun K => He.ga K "is_integer_text", "is_integer_text", "is_integer_text", defArgs s_is_integer_text, defBody s_is_integer_text, defScope s_is_integer_text, [], []⟩,
  ⟨fun K => He.ga K "integer_at", "integer_at", "integer_at", defArgs s_integer_at, defBody s_integer_at, defScope s_integer_at, [], []⟩,
  ⟨fun K => He.ga K "need_end", "need_end", "need_end", defArgs s_need_end, defBody s_need_end, defScope s_need_end, [], []⟩,
  ⟨fun K => He.ga K "integer_text", "integer_text", "integer_text", defArgs s_integer_text, defBody s_integer_text, defScope s_integer_text, [], []⟩,
  ⟨fun K => He.ma K (He.ga K "Poly") "__init__", "__init__", "Poly.__init__", defArgs s_Poly_init, defBody s_Poly_init, defScope s_Poly_init, [], []⟩,
  ⟨fun K => He.ma K (He.ga K "Poly") "__eq__", "__eq__", "Poly.__eq__", defArgs s_Poly_eq, defBody s_Poly_eq, defScope s_Poly_eq, [], []⟩,
  ⟨fun K => He.ma K (He.ga K "Poly") "__str__", "__str__", "Poly.__str__", defArgs s_Poly_str, defBody s_Poly_str, defScope s_Poly_str, [], []⟩,
  ⟨fun K => He.ma K (He.ga K "Poly") "worth", "worth", "Poly.worth", defArgs s_Poly_worth, defBody s_Poly_worth, defScope s_Poly_worth, [], []⟩,
  ⟨fun K => He5.wf K (He.ga K "Poly") "staticmethod" "read", "read", "Poly.read", defArgs s_Poly_read, defBody s_Poly_read, defScope s_Poly_read, [], []⟩,
  ⟨fun K => He.ga K "need_poly", "need_poly", "need_poly", defArgs s_need_poly, defBody s_need_poly, defScope s_need_poly, [], []⟩,
  ⟨fun K => He.ga K "times", "times", "times", defArgs s_times, defBody s_times, defScope s_times, [], []⟩,
  ⟨fun K => He.ga K "mixed", "mixed", "mixed", defArgs s_mixed, defBody s_mixed, defScope s_mixed, [], []⟩,
  ⟨fun K => He.ga K "divided", "divided", "divided", defArgs s_divided, defBody s_divided, defScope s_divided, [], []⟩,
  ⟨fun K => He.ga K "derived_numbers", "derived_numbers", "derived_numbers", defArgs s_derived_numbers, defBody s_derived_numbers, defScope s_derived_numbers, [], []⟩,
  ⟨fun K => He.ga K "derived", "derived", "derived", defArgs s_derived, defBody s_derived, defScope s_derived, [], []⟩,
  ⟨fun K => He.ga K "in_squares", "in_squares", "in_squares", defArgs s_in_squares, defBody s_in_squares, defScope s_in_squares, [], []⟩]
def fn_1 : List He5.DefA := [⟨fun K => He.ga K "lessened", "lessened", "lessened", defArgs s_lessened, defBody s_lessened, defScope s_lessened, [], []⟩,
  ⟨fun K => He.ma K (He.ga K "Bound") "__init__", "__init__", "Bound.__init__", defArgs s_Bound_init, defBody s_Bound_init, defScope s_Bound_init, [], []⟩,
  ⟨fun K => He.ma K (He.ga K "Bound") "__eq__", "__eq__", "Bound.__eq__", defArgs s_Bound_eq, defBody s_Bound_eq, defScope s_Bound_eq, [], []⟩,
  ⟨fun K => He.ma K (He.ga K "Bound") "__str__", "__str__", "Bound.__str__", defArgs s_Bound_str, defBody s_Bound_str, defScope s_Bound_str, [], []⟩,
  ⟨fun K => He5.wf K (He.ga K "Bound") "staticmethod" "read", "read", "Bound.read", defArgs s_Bound_read, defBody s_Bound_read, defScope s_Bound_read, [], []⟩,
  ⟨fun K => He.ga K "need_bound", "need_bound", "need_bound", defArgs s_need_bound, defBody s_need_bound, defScope s_need_bound, [], []⟩,
  ⟨fun K => He.ga K "shifted", "shifted", "shifted", defArgs s_shifted, defBody s_shifted, defScope s_shifted, [], []⟩,
  ⟨fun K => He.ga K "shift_ahead", "shift_ahead", "shift_ahead", defArgs s_shift_ahead, defBody s_shift_ahead, defScope s_shift_ahead, [], []⟩,
  ⟨fun K => He.ga K "_law_bag", "_law_bag", "_law_bag", defArgs s__law_bag, defBody s__law_bag, defScope s__law_bag, [], []⟩,
  ⟨fun K => He.ga K "_law_draw", "_law_draw", "_law_draw", defArgs s__law_draw, defBody s__law_draw, defScope s__law_draw, [], []⟩,
  ⟨fun K => He.ga K "_law_pick", "_law_pick", "_law_pick", defArgs s__law_pick, defBody s__law_pick, defScope s__law_pick, [], []⟩,
  ⟨fun K => He.ga K "_law_great", "_law_great", "_law_great", defArgs s__law_great, defBody s__law_great, defScope s__law_great, [], []⟩,
  ⟨fun K => He.ga K "_law_number", "_law_number", "_law_number", defArgs s__law_number, defBody s__law_number, defScope s__law_number, [], []⟩,
  ⟨fun K => He.ga K "_law_numbers", "_law_numbers", "_law_numbers", defArgs s__law_numbers, defBody s__law_numbers, defScope s__law_numbers, [], []⟩,
  ⟨fun K => He.ga K "_law_product", "_law_product", "_law_product", defArgs s__law_product, defBody s__law_product, defScope s__law_product, [], []⟩,
  ⟨fun K => He.ga K "_law_is", "_law_is", "_law_is", defArgs s__law_is, defBody s__law_is, defScope s__law_is, [], []⟩,
  ⟨fun K => He.ga K "_law_measure", "_law_measure", "_law_measure", defArgs s__law_measure, defBody s__law_measure, defScope s__law_measure, [], []⟩,
  ⟨fun K => He.ga K "_law_left", "_law_left", "_law_left", defArgs s__law_left, defBody s__law_left, defScope s__law_left, [], []⟩,
  ⟨fun K => He.ga K "_law_quotients_right", "_law_quotients_right", "_law_quotients_right", defArgs s__law_quotients_right, defBody s__law_quotients_right, defScope s__law_quotients_right, [], []⟩,
  ⟨fun K => He.ga K "_law_sums_right", "_law_sums_right", "_law_sums_right", defArgs s__law_sums_right, defBody s__law_sums_right, defScope s__law_sums_right, [], []⟩,
  ⟨fun K => He.ga K "_law_shifts_right", "_law_shifts_right", "_law_shifts_right", defArgs s__law_shifts_right, defBody s__law_shifts_right, defScope s__law_shifts_right, [], []⟩,
  ⟨fun K => He.ga K "_law_told", "_law_told", "_law_told", defArgs s__law_told, defBody s__law_told, defScope s__law_told, [], []⟩,
  ⟨fun K => He.ga K "_law_shares", "_law_shares", "_law_shares", defArgs s__law_shares, defBody s__law_shares, defScope s__law_shares, [], []⟩,
  ⟨fun K => He.ga K "_law_refused", "_law_refused", "_law_refused", defArgs s__law_refused, defBody s__law_refused, defScope s__law_refused, [], []⟩,
  ⟨fun K => He.ga K "law", "law", "law", defArgs s_law, defBody s_law, defScope s_law, [], []⟩]
def fn_all : List He5.DefA := fn_0 ++ fn_1
structure Txt (K : PySem.W.Frag) (mg : Str → Option Value) : Prop where
  g_is_integer : mg "is_integer" = some (.ref (He.ga K "is_integer"))
  g_is_within : mg "is_within" = some (.ref (He.ga K "is_within"))
  g_is_row : mg "is_row" = some (.ref (He.ga K "is_row"))
  g_are_integers : mg "are_integers" = some (.ref (He.ga K "are_integers"))
  g_need_integer : mg "need_integer" = some (.ref (He.ga K "need_integer"))
  g_need_integers : mg "need_integers" = some (.ref (He.ga K "need_integers"))
  g_common_divisor : mg "common_divisor" = some (.ref (He.ga K "common_divisor"))
  g_items_of : mg "items_of" = some (.ref (He.ga K "items_of"))
  g_is_integer_text : mg "is_integer_text" = some (.ref (He.ga K "is_integer_text"))
  g_integer_at : mg "integer_at" = some (.ref (He.ga K "integer_at"))
  g_need_end : mg "need_end" = some (.ref (He.ga K "need_end"))
  g_integer_text : mg "integer_text" = some (.ref (He.ga K "integer_text"))
  g_need_poly : mg "need_poly" = some (.ref (He.ga K "need_poly"))
  g_times : mg "times" = some (.ref (He.ga K "times"))
  g_mixed : mg "mixed" = some (.ref (He.ga K "mixed"))
  g_divided : mg "divided" = some (.ref (He.ga K "divided"))
  g_derived_numbers : mg "derived_numbers" = some (.ref (He.ga K "derived_numbers"))
  g_derived : mg "derived" = some (.ref (He.ga K "derived"))
  g_in_squares : mg "in_squares" = some (.ref (He.ga K "in_squares"))
  g_lessened : mg "lessened" = some (.ref (He.ga K "lessened"))
  g_need_bound : mg "need_bound" = some (.ref (He.ga K "need_bound"))
  g_shifted : mg "shifted" = some (.ref (He.ga K "shifted"))
  g_shift_ahead : mg "shift_ahead" = some (.ref (He.ga K "shift_ahead"))
  g__law_bag : mg "_law_bag" = some (.ref (He.ga K "_law_bag"))
  g__law_draw : mg "_law_draw" = some (.ref (He.ga K "_law_draw"))
  g__law_pick : mg "_law_pick" = some (.ref (He.ga K "_law_pick"))
  g__law_great : mg "_law_great" = some (.ref (He.ga K "_law_great"))
  g__law_number : mg "_law_number" = some (.ref (He.ga K "_law_number"))
  g__law_numbers : mg "_law_numbers" = some (.ref (He.ga K "_law_numbers"))
  g__law_product : mg "_law_product" = some (.ref (He.ga K "_law_product"))
  g__law_is : mg "_law_is" = some (.ref (He.ga K "_law_is"))
  g__law_measure : mg "_law_measure" = some (.ref (He.ga K "_law_measure"))
  g__law_left : mg "_law_left" = some (.ref (He.ga K "_law_left"))
  g__law_quotients_right : mg "_law_quotients_right" = some (.ref (He.ga K "_law_quotients_right"))
  g__law_sums_right : mg "_law_sums_right" = some (.ref (He.ga K "_law_sums_right"))
  g__law_shifts_right : mg "_law_shifts_right" = some (.ref (He.ga K "_law_shifts_right"))
  g__law_told : mg "_law_told" = some (.ref (He.ga K "_law_told"))
  g__law_shares : mg "_law_shares" = some (.ref (He.ga K "_law_shares"))
  g__law_refused : mg "_law_refused" = some (.ref (He.ga K "_law_refused"))
  g_law : mg "law" = some (.ref (He.ga K "law"))
  g_SignsError : mg "SignsError" = some (.ref (He.ga K "SignsError"))
  g_BadNumber : mg "BadNumber" = some (.ref (He.ga K "BadNumber"))
  g_BadBound : mg "BadBound" = some (.ref (He.ga K "BadBound"))
  g_BadPoly : mg "BadPoly" = some (.ref (He.ga K "BadPoly"))
  g_Misfit : mg "Misfit" = some (.ref (He.ga K "Misfit"))
  g_TooMany : mg "TooMany" = some (.ref (He.ga K "TooMany"))
  g_BadText : mg "BadText" = some (.ref (He.ga K "BadText"))
  g_Poly : mg "Poly" = some (.ref (He.ga K "Poly"))
  g_Bound : mg "Bound" = some (.ref (He.ga K "Bound"))
  k_is_integer : PySem.W.keepIn K (.ref (He.ga K "is_integer")) = true
  k_is_within : PySem.W.keepIn K (.ref (He.ga K "is_within")) = true
  k_is_row : PySem.W.keepIn K (.ref (He.ga K "is_row")) = true
  k_are_integers : PySem.W.keepIn K (.ref (He.ga K "are_integers")) = true
  k_need_integer : PySem.W.keepIn K (.ref (He.ga K "need_integer")) = true
  k_need_integers : PySem.W.keepIn K (.ref (He.ga K "need_integers")) = true
  k_common_divisor : PySem.W.keepIn K (.ref (He.ga K "common_divisor")) = true
  k_items_of : PySem.W.keepIn K (.ref (He.ga K "items_of")) = true
  k_is_integer_text : PySem.W.keepIn K (.ref (He.ga K "is_integer_text")) = true
  k_integer_at : PySem.W.keepIn K (.ref (He.ga K "integer_at")) = true
  k_need_end : PySem.W.keepIn K (.ref (He.ga K "need_end")) = true
  k_integer_text : PySem.W.keepIn K (.ref (He.ga K "integer_text")) = true
  k_need_poly : PySem.W.keepIn K (.ref (He.ga K "need_poly")) = true
  k_times : PySem.W.keepIn K (.ref (He.ga K "times")) = true
  k_mixed : PySem.W.keepIn K (.ref (He.ga K "mixed")) = true
  k_divided : PySem.W.keepIn K (.ref (He.ga K "divided")) = true
  k_derived_numbers : PySem.W.keepIn K (.ref (He.ga K "derived_numbers")) = true
  k_derived : PySem.W.keepIn K (.ref (He.ga K "derived")) = true
  k_in_squares : PySem.W.keepIn K (.ref (He.ga K "in_squares")) = true
  k_lessened : PySem.W.keepIn K (.ref (He.ga K "lessened")) = true
  k_need_bound : PySem.W.keepIn K (.ref (He.ga K "need_bound")) = true
  k_shifted : PySem.W.keepIn K (.ref (He.ga K "shifted")) = true
  k_shift_ahead : PySem.W.keepIn K (.ref (He.ga K "shift_ahead")) = true
  k__law_bag : PySem.W.keepIn K (.ref (He.ga K "_law_bag")) = true
  k__law_draw : PySem.W.keepIn K (.ref (He.ga K "_law_draw")) = true
  k__law_pick : PySem.W.keepIn K (.ref (He.ga K "_law_pick")) = true
  k__law_great : PySem.W.keepIn K (.ref (He.ga K "_law_great")) = true
  k__law_number : PySem.W.keepIn K (.ref (He.ga K "_law_number")) = true
  k__law_numbers : PySem.W.keepIn K (.ref (He.ga K "_law_numbers")) = true
  k__law_product : PySem.W.keepIn K (.ref (He.ga K "_law_product")) = true
  k__law_is : PySem.W.keepIn K (.ref (He.ga K "_law_is")) = true
  k__law_measure : PySem.W.keepIn K (.ref (He.ga K "_law_measure")) = true
  k__law_left : PySem.W.keepIn K (.ref (He.ga K "_law_left")) = true
  k__law_quotients_right : PySem.W.keepIn K (.ref (He.ga K "_law_quotients_right")) = true
  k__law_sums_right : PySem.W.keepIn K (.ref (He.ga K "_law_sums_right")) = true
  k__law_shifts_right : PySem.W.keepIn K (.ref (He.ga K "_law_shifts_right")) = true
  k__law_told : PySem.W.keepIn K (.ref (He.ga K "_law_told")) = true
  k__law_shares : PySem.W.keepIn K (.ref (He.ga K "_law_shares")) = true
  k__law_refused : PySem.W.keepIn K (.ref (He.ga K "_law_refused")) = true
  k_law : PySem.W.keepIn K (.ref (He.ga K "law")) = true
  b_isinstance : mg "isinstance" = none
  b_int : mg "int" = none
  b_bool : mg "bool" = none
  b_str : mg "str" = none
  b_list : mg "list" = none
  b_tuple : mg "tuple" = none
  b_len : mg "len" = none
  b_abs : mg "abs" = none
  b_range : mg "range" = none
  b_all : mg "all" = none
  b_any : mg "any" = none
  b_enumerate : mg "enumerate" = none
  b_zip : mg "zip" = none
  b_max : mg "max" = none
  b_min : mg "min" = none
  c_DIGITS : ∃ t, mg "DIGITS" = some (.str "0123456789" t)
  c_MOST_DIGITS : ∃ t, mg "MOST_DIGITS" = some (.int 60 t)
  c_MOST_NUMBERS : ∃ t, mg "MOST_NUMBERS" = some (.int 64 t)
  cl_Bound : Cls K (He.ga K "Bound")
  na_Bound_whole : NoAttr K (He.ga K "Bound") "whole"
  na_Bound_part : NoAttr K (He.ga K "Bound") "part"
  na_Bound_under : NoAttr K (He.ga K "Bound") "under"
  mk_Bound : Mk K (He.ga K "Bound") (He.ma K (He.ga K "Bound") "__init__")
  me_Bound_eq : Meth K (He.ga K "Bound") "__eq__" (He.ma K (He.ga K "Bound") "__eq__")
  me_Bound_str : Meth K (He.ga K "Bound") "__str__" (He.ma K (He.ga K "Bound") "__str__")
  cc_Bound : ClsC K "Bound" tys
  ne_Bound : PySem.W.findIn K (.ref (He.ga K "Bound")) "__ne__" = some (some (.builtin "object.__ne__"))
  sm_Bound_read : SMet K (He.ga K "Bound") (.type "type") "read" (He.ma K (He.ga K "Bound") "read") (He5.wf K (He.ga K "Bound") "staticmethod" "read") ∧ ClX.CRead K (He.ga K "Bound") (.type "type") ∧ PySem.W.keepIn K (.ref (He5.wf K (He.ga K "Bound") "staticmethod" "read")) = true
  cl_Poly : Cls K (He.ga K "Poly")
  na_Poly_numbers : NoAttr K (He.ga K "Poly") "numbers"
  na_Poly_degree : NoAttr K (He.ga K "Poly") "degree"
  mk_Poly : Mk K (He.ga K "Poly") (He.ma K (He.ga K "Poly") "__init__")
  me_Poly_eq : Meth K (He.ga K "Poly") "__eq__" (He.ma K (He.ga K "Poly") "__eq__")
  me_Poly_str : Meth K (He.ga K "Poly") "__str__" (He.ma K (He.ga K "Poly") "__str__")
  me_Poly_worth : Meth K (He.ga K "Poly") "worth" (He.ma K (He.ga K "Poly") "worth")
  cc_Poly : ClsC K "Poly" tys
  ne_Poly : PySem.W.findIn K (.ref (He.ga K "Poly")) "__ne__" = some (some (.builtin "object.__ne__"))
  sm_Poly_read : SMet K (He.ga K "Poly") (.type "type") "read" (He.ma K (He.ga K "Poly") "read") (He5.wf K (He.ga K "Poly") "staticmethod" "read") ∧ ClX.CRead K (He.ga K "Poly") (.type "type") ∧ PySem.W.keepIn K (.ref (He5.wf K (He.ga K "Poly") "staticmethod" "read")) = true
  i_gcd : mg "gcd" = some (.builtin "math.gcd")
  top : topB K = true
  e_BadNumber : ErrC K "BadNumber" ["part"] ["BadNumber", "SignsError"] ["BadBound", "BadPoly", "Misfit", "TooMany"]
  e_BadBound : ErrC K "BadBound" ["part"] ["BadBound", "SignsError"] ["BadNumber", "BadPoly", "Misfit", "TooMany"]
  e_BadPoly : ErrC K "BadPoly" ["part"] ["BadPoly", "SignsError"] ["BadNumber", "BadBound", "Misfit", "TooMany"]
  e_Misfit : ErrC K "Misfit" ["part"] ["Misfit", "SignsError"] ["BadNumber", "BadBound", "BadPoly", "TooMany"]
  e_TooMany : ErrC K "TooMany" ["what", "most"] ["TooMany", "SignsError"] ["BadNumber", "BadBound", "BadPoly", "Misfit"]
  e_BadText : ErrC K "BadText" ["line", "item"] ["SignsError"] []
  ot_Bound_Poly : PySem.W.kitOne K (.ref (He.ga K "Bound")) (.ref (He.ga K "Poly")) = some false ∧ PySem.W.notFirst K (He.ga K "Poly") (.ref (He.ga K "Bound")) = true
  ot_Poly_Bound : PySem.W.kitOne K (.ref (He.ga K "Poly")) (.ref (He.ga K "Bound")) = some false ∧ PySem.W.notFirst K (He.ga K "Bound") (.ref (He.ga K "Poly")) = true
  x_BadNumber : ExcC K (He.ga K "BadNumber")
  x_BadBound : ExcC K (He.ga K "BadBound")
  x_BadPoly : ExcC K (He.ga K "BadPoly")
  x_Misfit : ExcC K (He.ga K "Misfit")
  x_TooMany : ExcC K (He.ga K "TooMany")
  x_BadText : ExcC K (He.ga K "BadText")
  d_BadNumber_init : ∃ fd, FunD K "__init__" "BadNumber.__init__" (defArgs s_BadNumber_init) (defBody s_BadNumber_init) (defScope s_BadNumber_init) [] [] (He.ma K (He.ga K "BadNumber") "__init__") fd
  d_BadBound_init : ∃ fd, FunD K "__init__" "BadBound.__init__" (defArgs s_BadBound_init) (defBody s_BadBound_init) (defScope s_BadBound_init) [] [] (He.ma K (He.ga K "BadBound") "__init__") fd
  d_BadPoly_init : ∃ fd, FunD K "__init__" "BadPoly.__init__" (defArgs s_BadPoly_init) (defBody s_BadPoly_init) (defScope s_BadPoly_init) [] [] (He.ma K (He.ga K "BadPoly") "__init__") fd
  d_Misfit_init : ∃ fd, FunD K "__init__" "Misfit.__init__" (defArgs s_Misfit_init) (defBody s_Misfit_init) (defScope s_Misfit_init) [] [] (He.ma K (He.ga K "Misfit") "__init__") fd
  d_TooMany_init : ∃ fd, FunD K "__init__" "TooMany.__init__" (defArgs s_TooMany_init) (defBody s_TooMany_init) (defScope s_TooMany_init) [] [] (He.ma K (He.ga K "TooMany") "__init__") fd
  d_BadText_init : ∃ fd, FunD K "__init__" "BadText.__init__" (defArgs s_BadText_init) (defBody s_BadText_init) (defScope s_BadText_init) [] [] (He.ma K (He.ga K "BadText") "__init__") fd
  d_is_integer : ∃ fd, FunD K "is_integer" "is_integer" (defArgs s_is_integer) (defBody s_is_integer) (defScope s_is_integer) [] [] (He.ga K "is_integer") fd
  d_is_within : ∃ fd, FunD K "is_within" "is_within" (defArgs s_is_within) (defBody s_is_within) (defScope s_is_within) [] [] (He.ga K "is_within") fd
  d_is_row : ∃ fd, FunD K "is_row" "is_row" (defArgs s_is_row) (defBody s_is_row) (defScope s_is_row) [] [] (He.ga K "is_row") fd
  d_are_integers : ∃ fd, FunD K "are_integers" "are_integers" (defArgs s_are_integers) (defBody s_are_integers) (defScope s_are_integers) [] [] (He.ga K "are_integers") fd
  d_need_integer : ∃ fd, FunD K "need_integer" "need_integer" (defArgs s_need_integer) (defBody s_need_integer) (defScope s_need_integer) [] [] (He.ga K "need_integer") fd
  d_need_integers : ∃ fd, FunD K "need_integers" "need_integers" (defArgs s_need_integers) (defBody s_need_integers) (defScope s_need_integers) [] [] (He.ga K "need_integers") fd
  d_common_divisor : ∃ fd, FunD K "common_divisor" "common_divisor" (defArgs s_common_divisor) (defBody s_common_divisor) (defScope s_common_divisor) [] [] (He.ga K "common_divisor") fd
  d_items_of : ∃ fd, FunD K "items_of" "items_of" (defArgs s_items_of) (defBody s_items_of) (defScope s_items_of) [] [] (He.ga K "items_of") fd
  d_is_integer_text : ∃ fd, FunD K "is_integer_text" "is_integer_text" (defArgs s_is_integer_text) (defBody s_is_integer_text) (defScope s_is_integer_text) [] [] (He.ga K "is_integer_text") fd
  d_integer_at : ∃ fd, FunD K "integer_at" "integer_at" (defArgs s_integer_at) (defBody s_integer_at) (defScope s_integer_at) [] [] (He.ga K "integer_at") fd
  d_need_end : ∃ fd, FunD K "need_end" "need_end" (defArgs s_need_end) (defBody s_need_end) (defScope s_need_end) [] [] (He.ga K "need_end") fd
  d_integer_text : ∃ fd, FunD K "integer_text" "integer_text" (defArgs s_integer_text) (defBody s_integer_text) (defScope s_integer_text) [] [] (He.ga K "integer_text") fd
  d_Poly_init : ∃ fd, FunD K "__init__" "Poly.__init__" (defArgs s_Poly_init) (defBody s_Poly_init) (defScope s_Poly_init) [] [] (He.ma K (He.ga K "Poly") "__init__") fd
  d_Poly_eq : ∃ fd, FunD K "__eq__" "Poly.__eq__" (defArgs s_Poly_eq) (defBody s_Poly_eq) (defScope s_Poly_eq) [] [] (He.ma K (He.ga K "Poly") "__eq__") fd
  d_Poly_str : ∃ fd, FunD K "__str__" "Poly.__str__" (defArgs s_Poly_str) (defBody s_Poly_str) (defScope s_Poly_str) [] [] (He.ma K (He.ga K "Poly") "__str__") fd
  d_Poly_worth : ∃ fd, FunD K "worth" "Poly.worth" (defArgs s_Poly_worth) (defBody s_Poly_worth) (defScope s_Poly_worth) [] [] (He.ma K (He.ga K "Poly") "worth") fd
  d_Poly_read : ∃ fd, FunD K "read" "Poly.read" (defArgs s_Poly_read) (defBody s_Poly_read) (defScope s_Poly_read) [] [] (He5.wf K (He.ga K "Poly") "staticmethod" "read") fd
  d_need_poly : ∃ fd, FunD K "need_poly" "need_poly" (defArgs s_need_poly) (defBody s_need_poly) (defScope s_need_poly) [] [] (He.ga K "need_poly") fd
  d_times : ∃ fd, FunD K "times" "times" (defArgs s_times) (defBody s_times) (defScope s_times) [] [] (He.ga K "times") fd
  d_mixed : ∃ fd, FunD K "mixed" "mixed" (defArgs s_mixed) (defBody s_mixed) (defScope s_mixed) [] [] (He.ga K "mixed") fd
  d_divided : ∃ fd, FunD K "divided" "divided" (defArgs s_divided) (defBody s_divided) (defScope s_divided) [] [] (He.ga K "divided") fd
  d_derived_numbers : ∃ fd, FunD K "derived_numbers" "derived_numbers" (defArgs s_derived_numbers) (defBody s_derived_numbers) (defScope s_derived_numbers) [] [] (He.ga K "derived_numbers") fd
  d_derived : ∃ fd, FunD K "derived" "derived" (defArgs s_derived) (defBody s_derived) (defScope s_derived) [] [] (He.ga K "derived") fd
  d_in_squares : ∃ fd, FunD K "in_squares" "in_squares" (defArgs s_in_squares) (defBody s_in_squares) (defScope s_in_squares) [] [] (He.ga K "in_squares") fd
  d_lessened : ∃ fd, FunD K "lessened" "lessened" (defArgs s_lessened) (defBody s_lessened) (defScope s_lessened) [] [] (He.ga K "lessened") fd
  d_Bound_init : ∃ fd, FunD K "__init__" "Bound.__init__" (defArgs s_Bound_init) (defBody s_Bound_init) (defScope s_Bound_init) [] [] (He.ma K (He.ga K "Bound") "__init__") fd
  d_Bound_eq : ∃ fd, FunD K "__eq__" "Bound.__eq__" (defArgs s_Bound_eq) (defBody s_Bound_eq) (defScope s_Bound_eq) [] [] (He.ma K (He.ga K "Bound") "__eq__") fd
  d_Bound_str : ∃ fd, FunD K "__str__" "Bound.__str__" (defArgs s_Bound_str) (defBody s_Bound_str) (defScope s_Bound_str) [] [] (He.ma K (He.ga K "Bound") "__str__") fd
  d_Bound_read : ∃ fd, FunD K "read" "Bound.read" (defArgs s_Bound_read) (defBody s_Bound_read) (defScope s_Bound_read) [] [] (He5.wf K (He.ga K "Bound") "staticmethod" "read") fd
  d_need_bound : ∃ fd, FunD K "need_bound" "need_bound" (defArgs s_need_bound) (defBody s_need_bound) (defScope s_need_bound) [] [] (He.ga K "need_bound") fd
  d_shifted : ∃ fd, FunD K "shifted" "shifted" (defArgs s_shifted) (defBody s_shifted) (defScope s_shifted) [] [] (He.ga K "shifted") fd
  d_shift_ahead : ∃ fd, FunD K "shift_ahead" "shift_ahead" (defArgs s_shift_ahead) (defBody s_shift_ahead) (defScope s_shift_ahead) [] [] (He.ga K "shift_ahead") fd
  d__law_bag : ∃ fd, FunD K "_law_bag" "_law_bag" (defArgs s__law_bag) (defBody s__law_bag) (defScope s__law_bag) [] [] (He.ga K "_law_bag") fd
  d__law_draw : ∃ fd, FunD K "_law_draw" "_law_draw" (defArgs s__law_draw) (defBody s__law_draw) (defScope s__law_draw) [] [] (He.ga K "_law_draw") fd
  d__law_pick : ∃ fd, FunD K "_law_pick" "_law_pick" (defArgs s__law_pick) (defBody s__law_pick) (defScope s__law_pick) [] [] (He.ga K "_law_pick") fd
  d__law_great : ∃ fd, FunD K "_law_great" "_law_great" (defArgs s__law_great) (defBody s__law_great) (defScope s__law_great) [] [] (He.ga K "_law_great") fd
  d__law_number : ∃ fd, FunD K "_law_number" "_law_number" (defArgs s__law_number) (defBody s__law_number) (defScope s__law_number) [] [] (He.ga K "_law_number") fd
  d__law_numbers : ∃ fd, FunD K "_law_numbers" "_law_numbers" (defArgs s__law_numbers) (defBody s__law_numbers) (defScope s__law_numbers) [] [] (He.ga K "_law_numbers") fd
  d__law_product : ∃ fd, FunD K "_law_product" "_law_product" (defArgs s__law_product) (defBody s__law_product) (defScope s__law_product) [] [] (He.ga K "_law_product") fd
  d__law_is : ∃ fd, FunD K "_law_is" "_law_is" (defArgs s__law_is) (defBody s__law_is) (defScope s__law_is) [] [] (He.ga K "_law_is") fd
  d__law_measure : ∃ fd, FunD K "_law_measure" "_law_measure" (defArgs s__law_measure) (defBody s__law_measure) (defScope s__law_measure) [] [] (He.ga K "_law_measure") fd
  d__law_left : ∃ fd, FunD K "_law_left" "_law_left" (defArgs s__law_left) (defBody s__law_left) (defScope s__law_left) [] [] (He.ga K "_law_left") fd
  d__law_quotients_right : ∃ fd, FunD K "_law_quotients_right" "_law_quotients_right" (defArgs s__law_quotients_right) (defBody s__law_quotients_right) (defScope s__law_quotients_right) [] [] (He.ga K "_law_quotients_right") fd
  d__law_sums_right : ∃ fd, FunD K "_law_sums_right" "_law_sums_right" (defArgs s__law_sums_right) (defBody s__law_sums_right) (defScope s__law_sums_right) [] [] (He.ga K "_law_sums_right") fd
  d__law_shifts_right : ∃ fd, FunD K "_law_shifts_right" "_law_shifts_right" (defArgs s__law_shifts_right) (defBody s__law_shifts_right) (defScope s__law_shifts_right) [] [] (He.ga K "_law_shifts_right") fd
  d__law_told : ∃ fd, FunD K "_law_told" "_law_told" (defArgs s__law_told) (defBody s__law_told) (defScope s__law_told) [] [] (He.ga K "_law_told") fd
  d__law_shares : ∃ fd, FunD K "_law_shares" "_law_shares" (defArgs s__law_shares) (defBody s__law_shares) (defScope s__law_shares) [] [] (He.ga K "_law_shares") fd
  d__law_refused : ∃ fd, FunD K "_law_refused" "_law_refused" (defArgs s__law_refused) (defBody s__law_refused) (defScope s__law_refused) [] [] (He.ga K "_law_refused") fd
  d_law : ∃ fd, FunD K "law" "law" (defArgs s_law) (defBody s_law) (defScope s_law) [] [] (He.ga K "law") fd
theorem txt_of {K : PySem.W.Frag} {mg : Str → Option Value} {h : Heap} (X : K.In h) (G : h.Ns mainGlobals mg) (c : SaysM fa_all ex_all fn_all K) : Txt K mg where
  g_is_integer := He.glo_ok X G (c.fact 0)
  g_is_within := He.glo_ok X G (c.fact 1)
  g_is_row := He.glo_ok X G (c.fact 2)
  g_are_integers := He.glo_ok X G (c.fact 3)
  g_need_integer := He.glo_ok X G (c.fact 4)
  g_need_integers := He.glo_ok X G (c.fact 5)
  g_common_divisor := He.glo_ok X G (c.fact 6)
  g_items_of := He.glo_ok X G (c.fact 7)
  g_is_integer_text := He.glo_ok X G (c.fact 8)
  g_integer_at := He.glo_ok X G (c.fact 9)
  g_need_end := He.glo_ok X G (c.fact 10)
  g_integer_text := He.glo_ok X G (c.fact 11)
  g_need_poly := He.glo_ok X G (c.fact 12)
  g_times := He.glo_ok X G (c.fact 13)
  g_mixed := He.glo_ok X G (c.fact 14)
  g_divided := He.glo_ok X G (c.fact 15)
  g_derived_numbers := He.glo_ok X G (c.fact 16)
  g_derived := He.glo_ok X G (c.fact 17)
  g_in_squares := He.glo_ok X G (c.fact 18)
  g_lessened := He.glo_ok X G (c.fact 19)
  g_need_bound := He.glo_ok X G (c.fact 20)
  g_shifted := He.glo_ok X G (c.fact 21)
  g_shift_ahead := He.glo_ok X G (c.fact 22)
  g__law_bag := He.glo_ok X G (c.fact 23)
  g__law_draw := He.glo_ok X G (c.fact 24)
  g__law_pick := He.glo_ok X G (c.fact 25)
  g__law_great := He.glo_ok X G (c.fact 26)
  g__law_number := He.glo_ok X G (c.fact 27)
  g__law_numbers := He.glo_ok X G (c.fact 28)
  g__law_product := He.glo_ok X G (c.fact 29)
  g__law_is := He.glo_ok X G (c.fact 30)
  g__law_measure := He.glo_ok X G (c.fact 31)
  g__law_left := He.glo_ok X G (c.fact 32)
  g__law_quotients_right := He.glo_ok X G (c.fact 33)
  g__law_sums_right := He.glo_ok X G (c.fact 34)
  g__law_shifts_right := He.glo_ok X G (c.fact 35)
  g__law_told := He.glo_ok X G (c.fact 36)
  g__law_shares := He.glo_ok X G (c.fact 37)
  g__law_refused := He.glo_ok X G (c.fact 38)
  g_law := He.glo_ok X G (c.fact 39)
  g_SignsError := He.glo_ok X G (c.fact 40)
  g_BadNumber := He.glo_ok X G (c.fact 41)
  g_BadBound := He.glo_ok X G (c.fact 42)
  g_BadPoly := He.glo_ok X G (c.fact 43)
  g_Misfit := He.glo_ok X G (c.fact 44)
  g_TooMany := He.glo_ok X G (c.fact 45)
  g_BadText := He.glo_ok X G (c.fact 46)
  g_Poly := He.glo_ok X G (c.fact 47)
  g_Bound := He.glo_ok X G (c.fact 48)
  k_is_integer := He.keep_ok (c.fact 49)
  k_is_within := He.keep_ok (c.fact 50)
  k_is_row := He.keep_ok (c.fact 51)
  k_are_integers := He.keep_ok (c.fact 52)
  k_need_integer := He.keep_ok (c.fact 53)
  k_need_integers := He.keep_ok (c.fact 54)
  k_common_divisor := He.keep_ok (c.fact 55)
  k_items_of := He.keep_ok (c.fact 56)
  k_is_integer_text := He.keep_ok (c.fact 57)
  k_integer_at := He.keep_ok (c.fact 58)
  k_need_end := He.keep_ok (c.fact 59)
  k_integer_text := He.keep_ok (c.fact 60)
  k_need_poly := He.keep_ok (c.fact 61)
  k_times := He.keep_ok (c.fact 62)
  k_mixed := He.keep_ok (c.fact 63)
  k_divided := He.keep_ok (c.fact 64)
  k_derived_numbers := He.keep_ok (c.fact 65)
  k_derived := He.keep_ok (c.fact 66)
  k_in_squares := He.keep_ok (c.fact 67)
  k_lessened := He.keep_ok (c.fact 68)
  k_need_bound := He.keep_ok (c.fact 69)
  k_shifted := He.keep_ok (c.fact 70)
  k_shift_ahead := He.keep_ok (c.fact 71)
  k__law_bag := He.keep_ok (c.fact 72)
  k__law_draw := He.keep_ok (c.fact 73)
  k__law_pick := He.keep_ok (c.fact 74)
  k__law_great := He.keep_ok (c.fact 75)
  k__law_number := He.keep_ok (c.fact 76)
  k__law_numbers := He.keep_ok (c.fact 77)
  k__law_product := He.keep_ok (c.fact 78)
  k__law_is := He.keep_ok (c.fact 79)
  k__law_measure := He.keep_ok (c.fact 80)
  k__law_left := He.keep_ok (c.fact 81)
  k__law_quotients_right := He.keep_ok (c.fact 82)
  k__law_sums_right := He.keep_ok (c.fact 83)
  k__law_shifts_right := He.keep_ok (c.fact 84)
  k__law_told := He.keep_ok (c.fact 85)
  k__law_shares := He.keep_ok (c.fact 86)
  k__law_refused := He.keep_ok (c.fact 87)
  k_law := He.keep_ok (c.fact 88)
  b_isinstance := He.free_ok X G (c.fact 89)
  b_int := He.free_ok X G (c.fact 90)
  b_bool := He.free_ok X G (c.fact 91)
  b_str := He.free_ok X G (c.fact 92)
  b_list := He.free_ok X G (c.fact 93)
  b_tuple := He.free_ok X G (c.fact 94)
  b_len := He.free_ok X G (c.fact 95)
  b_abs := He.free_ok X G (c.fact 96)
  b_range := He.free_ok X G (c.fact 97)
  b_all := He.free_ok X G (c.fact 98)
  b_any := He.free_ok X G (c.fact 99)
  b_enumerate := He.free_ok X G (c.fact 100)
  b_zip := He.free_ok X G (c.fact 101)
  b_max := He.free_ok X G (c.fact 102)
  b_min := He.free_ok X G (c.fact 103)
  c_DIGITS := He.str_ok X G (c.fact 104)
  c_MOST_DIGITS := He.int_ok X G (c.fact 105)
  c_MOST_NUMBERS := He.int_ok X G (c.fact 106)
  cl_Bound := He.cls_ok (c.fact 107)
  na_Bound_whole := He.noat_ok (c.fact 108)
  na_Bound_part := He.noat_ok (c.fact 109)
  na_Bound_under := He.noat_ok (c.fact 110)
  mk_Bound := He.mkr_ok (c.fact 111)
  me_Bound_eq := He.meth_ok (c.fact 112)
  me_Bound_str := He.meth_ok (c.fact 113)
  cc_Bound := clsB_ok (c.chk 0)
  ne_Bound := He.eqO_ok (c.chk 1)
  sm_Bound_read := smB_ok (c.chk 2)
  cl_Poly := He.cls_ok (c.fact 114)
  na_Poly_numbers := He.noat_ok (c.fact 115)
  na_Poly_degree := He.noat_ok (c.fact 116)
  mk_Poly := He.mkr_ok (c.fact 117)
  me_Poly_eq := He.meth_ok (c.fact 118)
  me_Poly_str := He.meth_ok (c.fact 119)
  me_Poly_worth := He.meth_ok (c.fact 120)
  cc_Poly := clsB_ok (c.chk 3)
  ne_Poly := He.eqO_ok (c.chk 4)
  sm_Poly_read := smB_ok (c.chk 5)
  i_gcd := bnB_ok X G (c.chk 6)
  top := c.chk 7
  e_BadNumber := errB_ok (c.chk 8)
  e_BadBound := errB_ok (c.chk 9)
  e_BadPoly := errB_ok (c.chk 10)
  e_Misfit := errB_ok (c.chk 11)
  e_TooMany := errB_ok (c.chk 12)
  e_BadText := errB_ok (c.chk 13)
  ot_Bound_Poly := otB_ok (c.chk 14)
  ot_Poly_Bound := otB_ok (c.chk 15)
  x_BadNumber := excB_ok (c.chk 7) (errB_ok (c.chk 8)).xf (c.chk 16)
  x_BadBound := excB_ok (c.chk 7) (errB_ok (c.chk 9)).xf (c.chk 17)
  x_BadPoly := excB_ok (c.chk 7) (errB_ok (c.chk 10)).xf (c.chk 18)
  x_Misfit := excB_ok (c.chk 7) (errB_ok (c.chk 11)).xf (c.chk 19)
  x_TooMany := excB_ok (c.chk 7) (errB_ok (c.chk 12)).xf (c.chk 20)
  x_BadText := excB_ok (c.chk 7) (errB_ok (c.chk 13)).xf (c.chk 21)
  d_BadNumber_init := c.def_ 0
  d_BadBound_init := c.def_ 1
  d_BadPoly_init := c.def_ 2
  d_Misfit_init := c.def_ 3
  d_TooMany_init := c.def_ 4
  d_BadText_init := c.def_ 5
  d_is_integer := c.def_ 6
  d_is_within := c.def_ 7
  d_is_row := c.def_ 8
  d_are_integers := c.def_ 9
  d_need_integer := c.def_ 10
  d_need_integers := c.def_ 11
  d_common_divisor := c.def_ 12
  d_items_of := c.def_ 13
  d_is_integer_text := c.def_ 14
  d_integer_at := c.def_ 15
  d_need_end := c.def_ 16
  d_integer_text := c.def_ 17
  d_Poly_init := c.def_ 18
  d_Poly_eq := c.def_ 19
  d_Poly_str := c.def_ 20
  d_Poly_worth := c.def_ 21
  d_Poly_read := c.def_ 22
  d_need_poly := c.def_ 23
  d_times := c.def_ 24
  d_mixed := c.def_ 25
  d_divided := c.def_ 26
  d_derived_numbers := c.def_ 27
  d_derived := c.def_ 28
  d_in_squares := c.def_ 29
  d_lessened := c.def_ 30
  d_Bound_init := c.def_ 31
  d_Bound_eq := c.def_ 32
  d_Bound_str := c.def_ 33
  d_Bound_read := c.def_ 34
  d_need_bound := c.def_ 35
  d_shifted := c.def_ 36
  d_shift_ahead := c.def_ 37
  d__law_bag := c.def_ 38
  d__law_draw := c.def_ 39
  d__law_pick := c.def_ 40
  d__law_great := c.def_ 41
  d__law_number := c.def_ 42
  d__law_numbers := c.def_ 43
  d__law_product := c.def_ 44
  d__law_is := c.def_ 45
  d__law_measure := c.def_ 46
  d__law_left := c.def_ 47
  d__law_quotients_right := c.def_ 48
  d__law_sums_right := c.def_ 49
  d__law_shifts_right := c.def_ 50
  d__law_told := c.def_ 51
  d__law_shares := c.def_ 52
  d__law_refused := c.def_ 53
  d_law := c.def_ 54
end K04
set_option maxHeartbeats 0
namespace K04
open PySem PySem.W PySem.Spec PyProof.Rows L2 GS
abbrev R : PySem.W.OpenRow := PySem.W.OpenLaw.row PySem.Challenge.rw_goodsigns_k04_polys_multiplied_divided_d
abbrev hk : PySem.W.Hook := hookM 5 fa_all ex_all fn_all
def ob (s : PySem.W.SharedT) : He.AlD := obsMG 5 fa_all ex_all fn_all (HandSHeadRun.getT s)
theorem ob_eq (s : PySem.W.SharedT) : ob s = hk.obs s.abs := obsMG_eq (HandSHeadRun.getT_eq s)
def loose : List PySem.Str := (["SignsError", "BadNumber", "BadBound", "BadPoly", "Misfit", "TooMany", "BadText", "DIGITS", "is_integer", "is_within"] : List PySem.Str) ++ (["is_row", "are_integers", "need_integer", "need_integers", "common_divisor", "MOST_DIGITS", "items_of", "is_integer_text", "integer_at", "need_end"] : List PySem.Str) ++ (["integer_text", "MOST_NUMBERS", "Poly", "need_poly", "times", "mixed", "divided", "derived_numbers", "derived", "in_squares"] : List PySem.Str) ++ (["lessened", "Bound", "need_bound", "shifted", "shift_ahead", "_law_bag", "_law_draw", "_law_pick", "_law_great", "_law_number"] : List PySem.Str) ++ (["_law_numbers", "_law_product", "_law_is", "_law_measure", "_law_left", "_law_quotients_right", "_law_sums_right", "_law_shifts_right", "_law_told", "_law_shares"] : List PySem.Str) ++ (["_law_refused"] : List PySem.Str)
theorem run (w : World) : HandSHeadRun.RunEqI R (PySem.W.view R.prog [0, 59]) hk ob 4000 loose w := by

  unfold HandSHeadRun.RunEqI
  kernel_rfl
end K04
namespace K04
open PySem PySem.Spec PyProof.Rows L2 GS TL
local macro_rules | `(tactic| walk_at "rd") => `(tactic| (repeat (first
  | with_reducible refine r_next ?_
  | with_reducible refine r_seq ?_
  | with_reducible refine r_ret ?_
  | with_reducible refine r_ifS ?_
  | with_reducible refine r_asg ?_
  | with_reducible refine r_drop ?_
  | with_reducible refine r_op ?_
  | with_reducible refine r_un ?_
  | with_reducible refine r_cbInt ?_
  | with_reducible refine r_cbAbs ?_
  | with_reducible refine r_cbLen ?_
  | with_reducible refine r_cb ?_
  | with_reducible refine r_call ?_
  | with_reducible refine r_make ?_
  | with_reducible refine r_callN0 ?_
  | with_reducible refine r_makeK0 ?_
  | with_reducible refine r_makeS ?_
  | with_reducible refine r_callS ?_
  | with_reducible refine r_cons ?_
  | with_reducible refine r_nil ?_
  | with_reducible refine r_test ?_
  | with_reducible refine r_B ?_
  | with_reducible refine r_and ?_
  | with_reducible refine r_or ?_
  | with_reducible refine r_not ?_
  | with_reducible refine r_andV ?_
  | with_reducible refine r_orV ?_
  | with_reducible refine r_notV ?_
  | with_reducible refine r_if ?_
  | with_reducible refine r_tup ?_
  | with_reducible refine r_lst ?_
  | with_reducible refine r_c ?_
  | with_reducible refine r_lc ?_
  | with_reducible refine r_chain ?_
  | with_reducible refine r_iT ?_
  | with_reducible refine r_iL ?_
  | with_reducible refine r_iR1 ?_
  | with_reducible refine r_asgG ?_
  | with_reducible refine r_gSub ?_
  | with_reducible refine r_for ?_
  | with_reducible refine r_smeth ?_
  | with_reducible refine r_par ?_
  | with_reducible refine r_parK ?_
  | with_reducible refine r_gCons ?_
  | with_reducible refine r_gNil ?_
  | with_reducible refine r_gName ?_
  | with_reducible refine r_intI ?_
  | with_reducible refine r_intB ?_
  | with_reducible refine r_absI ?_
  | with_reducible refine r_k ?_
  | with_reducible refine r_kV ?_
  | ((with_reducible show tVar _ _ _ _); refine r_var3 ?_ (by rfl))
  | with_reducible refine r_I0 ?_
  | with_reducible refine r_U ?_
  | with_reducible refine r_eqI ?_
  | with_reducible refine r_neI ?_
  | dsimp only)))
local macro_rules | `(tactic| walk_at "rx") => `(tactic| (repeat (first
  | with_reducible refine r_next ?_
  | with_reducible refine r_ret ?_
  | with_reducible refine r_ifS ?_
  | with_reducible refine r_asg ?_
  | with_reducible refine r_drop ?_
  | with_reducible refine r_op ?_
  | with_reducible refine r_un ?_
  | with_reducible refine r_cbInt ?_
  | with_reducible refine r_cbAbs ?_
  | with_reducible refine r_cbLen ?_
  | with_reducible refine r_cb ?_
  | with_reducible refine r_call ?_
  | with_reducible refine r_make ?_
  | with_reducible refine r_callN0 ?_
  | with_reducible refine r_makeK0 ?_
  | with_reducible refine r_makeS ?_
  | with_reducible refine r_callS ?_
  | with_reducible refine r_cons ?_
  | with_reducible refine r_nil ?_
  | with_reducible refine r_test ?_
  | with_reducible refine r_B ?_
  | with_reducible refine r_and ?_
  | with_reducible refine r_or ?_
  | with_reducible refine r_not ?_
  | with_reducible refine r_andV ?_
  | with_reducible refine r_orV ?_
  | with_reducible refine r_notV ?_
  | with_reducible refine r_if ?_
  | with_reducible refine r_tup ?_
  | with_reducible refine r_lst ?_
  | with_reducible refine r_c ?_
  | with_reducible refine r_lc ?_
  | with_reducible refine r_chain ?_
  | with_reducible refine r_iT ?_
  | with_reducible refine r_iL ?_
  | with_reducible refine r_iR1 ?_
  | with_reducible refine r_asgG ?_
  | with_reducible refine r_gSub ?_
  | with_reducible refine r_for ?_
  | with_reducible refine r_smeth ?_
  | with_reducible refine r_par ?_
  | with_reducible refine r_parK ?_
  | with_reducible refine r_gCons ?_
  | with_reducible refine r_gNil ?_
  | with_reducible refine r_gName ?_
  | with_reducible refine r_intI ?_
  | with_reducible refine r_intB ?_
  | with_reducible refine r_absI ?_
  | with_reducible refine r_k ?_
  | with_reducible refine r_kV ?_
  | ((with_reducible show tVar _ _ _ _); refine r_var3 ?_ (by rfl))
  | with_reducible refine r_I0 ?_
  | with_reducible refine r_U ?_
  | with_reducible refine r_eqI ?_
  | with_reducible refine r_neI ?_
  | dsimp only)))
/-! ### values -/
def bf (w p u : Int) : List (Str × V) := [("whole", .int w), ("part", .int p), ("under", .int u)]
def Bd (K : PySem.W.Frag) (H : Hp) (a : Addr) (w p u : Int) : Prop := 0 ≤ u ∧ ∃ dx, H a = some (.ins (He.ga K "Bound") dx (bf w p u))
theorem Bd.ex {K : PySem.W.Frag} {H H' : Hp} {a : Addr} {w p u : Int} (h : Bd K H a w p u) (e : Ex H H') : Bd K H' a w p u := let ⟨hu, dx, h⟩ := h; ⟨hu, dx, e _ _ h⟩
/-- a poly: its numbers stand in a tuple -/
def pf (t : Addr) (n : Int) : List (Str × V) := [("numbers", .ref t), ("degree", .int n)]
def Pl (K : PySem.W.Frag) (H : Hp) (a : Addr) (ns : List Int) : Prop := 1 ≤ ns.length ∧ ns.length ≤ 64 ∧ 0 < ns.headD 0 ∧ ∃ dx t, H a = some (.ins (He.ga K "Poly") dx (pf t ((ns.length : Int) - 1))) ∧ H t = some (.tup (ns.map V.int))
theorem Pl.ex {K : PySem.W.Frag} {H H' : Hp} {a : Addr} {ns : List Int} (h : Pl K H a ns) (e : Ex H H') : Pl K H' a ns := let ⟨h1, h2, h3, dx, t, h4, h5⟩ := h; ⟨h1, h2, h3, dx, t, e _ _ h4, e _ _ h5⟩
/-- an instance of a class of the program's -/
abbrev owns : List Str := ["Bound", "Poly"]
def Own (K : PySem.W.Frag) (H : Hp) (v : V) : Prop := ∃ a C dx fs, v = .ref a ∧ C ∈ owns ∧ H a = some (.ins (He.ga K C) dx fs)
theorem Bd.own {K : PySem.W.Frag} {H : Hp} {a : Addr} {w p u : Int} (h : Bd K H a w p u) : Own K H (.ref a) := let ⟨_, dx, h⟩ := h; ⟨a, "Bound", dx, _, rfl, by decide, h⟩
theorem Pl.own {K : PySem.W.Frag} {H : Hp} {a : Addr} {ns : List Int} (h : Pl K H a ns) : Own K H (.ref a) := let ⟨_, _, _, dx, _, h, _⟩ := h; ⟨a, "Poly", dx, _, rfl, by decide, h⟩
/-- a value whose kind is known -/
def Kn (K : PySem.W.Frag) (H : Hp) (v : V) : Prop := (∃ T ∈ tys, TyOf K H v (.type T)) ∨ Own K H v
theorem TyOf.ex' {K : PySem.W.Frag} {H H' : Hp} {v : V} {T : String} (b : TyOf K H v (.type T)) (e : ∀ a, v = .ref a → ∀ o, H a = some o → H' a = some o) : TyOf K H' v (.type T) := by
  cases b with
  | non => exact .non
  | bl b => exact .bl b
  | int i => exact .int i
  | str i => exact .str i
  | flt i => exact .flt i
  | lst q => exact .lst (e _ rfl _ q)
  | frz q => exact .frz (e _ rfl _ q)
  | tup q => exact .tup (e _ rfl _ q)
  | dK q => exact .dK (e _ rfl _ q)
  | dT q => exact .dT (e _ rfl _ q)
theorem TyOf.there {K : PySem.W.Frag} {H : Hp} {a : Addr} {T : String} (b : TyOf K H (.ref a) (.type T)) : ∃ o, H a = some o ∧ ∀ C dx fs, o ≠ .ins C dx fs := by
  cases b with
  | lst q => exact ⟨_, q, fun _ _ _ z => by cases z⟩
  | frz q => exact ⟨_, q, fun _ _ _ z => by cases z⟩
  | tup q => exact ⟨_, q, fun _ _ _ z => by cases z⟩
  | dK q => exact ⟨_, q, fun _ _ _ z => by cases z⟩
  | dT q => exact ⟨_, q, fun _ _ _ z => by cases z⟩
theorem Kn.ex {K : PySem.W.Frag} {H H' : Hp} {v : V} (h : Kn K H v) (e : Ex H H') : Kn K H' v := by
  rcases h with ⟨T, hT, h⟩ | ⟨a, C, dx, fs, h, hC, b⟩
  · exact .inl ⟨T, hT, TyOf.ex' h fun a _ o q => e a o q⟩
  · exact .inr ⟨a, C, dx, fs, h, hC, e _ _ b⟩
theorem kn_int {K : PySem.W.Frag} {H : Hp} (i : Int) : Kn K H (.int i) := .inl ⟨"int", by decide, .int i⟩
def isI : V → Bool
  | .int _ => true
  | _ => false
/-- an own class, for isinstance -/
theorem own_facts {K : PySem.W.Frag} {mg : Str → Option Value} (T : Txt K mg) {C : Str} (h : C ∈ owns) : Cls K (He.ga K C) ∧ ClsC K C tys := by
  simp only [owns, List.mem_cons, List.mem_nil_iff, or_false] at h
  rcases h with rfl | rfl
  · exact ⟨T.cl_Bound, T.cc_Bound⟩
  · exact ⟨T.cl_Poly, T.cc_Poly⟩
theorem ty_own {K : PySem.W.Frag} {mg : Str → Option Value} {H : Hp} {a dx : Addr} {C : Str} {fs : List (Str × V)} (T : Txt K mg) (h : C ∈ owns) (e : H a = some (.ins (He.ga K C) dx fs)) : TyX K H (.ref a) (.ref (He.ga K C)) := by
  obtain ⟨h1, h2⟩ := He.ba T.top
  obtain ⟨c1, c2⟩ := own_facts T h
  exact .base (.ins e c1 c2.ha (He.eqO_ok h1) (of_decide_eq_true h2) c2.hm)
def kitR (T1 T0 : String) : Bool := decide (T1 = T0) || (decide (T1 = "bool") && decide (T0 = "int"))
theorem kit_all : ∀ T1 ∈ tys, ∀ T0 ∈ tys, kitB T1 T0 = some (kitR T1 T0) := by decide +kernel
/-- isinstance(v, T0), T0 built-in -/
theorem kn_kit {K : PySem.W.Frag} {mg : Str → Option Value} {H : Hp} {v : V} (T : Txt K mg) (h : Kn K H v) {T0 : String} (h0 : T0 ∈ tys) : ∃ t b, TyX K H v t ∧ PySem.W.kitOne K t (.type T0) = some b ∧ ((∃ T1 ∈ tys, t = .type T1 ∧ kitR T1 T0 = b) ∨ (b = false ∧ (∃ C, t = .ref (He.ga K C)) ∧ ∃ a, v = .ref a)) := by
  rcases h with ⟨T1, hT, h⟩ | ⟨a, C, dx, fs, rfl, hC, b⟩
  · exact ⟨_, _, .base h, kit_ty (kit_all T1 hT T0 h0), .inl ⟨T1, hT, rfl, rfl⟩⟩
  · exact ⟨_, false, ty_own T hC b, ((own_facts T hC).2.ty T0 h0).2.1, .inr ⟨rfl, ⟨C, rfl⟩, a, rfl⟩⟩
/-- the type of an int is int; what has the type int is one -/
theorem ty_int {K : PySem.W.Frag} {H : Hp} {v : V} {T : String} (h : TyX K H v (.type T)) : (T = "int") ↔ isI v = true := by
  cases h with
  | base b => cases b <;> simp [isI]
  | _ => simp [isI]
def isBl : V → Bool
  | .bl _ => true
  | _ => false
theorem ty_bool {K : PySem.W.Frag} {H : Hp} {v : V} {T : String} (h : TyX K H v (.type T)) : (T = "bool") ↔ isBl v = true := by
  cases h with
  | base b => cases b <;> simp [isBl]
  | _ => simp [isBl]
/-! ### errors -/
def spErr (K : PySem.W.Frag) (x f : Str) : Sp := sp2 fun a v H Q _ => ∃ e, a = .ref e ∧ H e = some (exo e (He.ga K x) none) ∧ ∀ dx, H dx = none → dx ≠ e → Q .non (upd (upd H dx (exd dx [(f, v)])) e (exo e (He.ga K x) (some dx)))
/-- an error of the class x with its field -/
def Raised (K : PySem.W.Frag) (x f : Str) (v : V) (H : Hp) (E : XK) : Prop := ∀ d H', Ex H H' → H' d = some (.xd [(f, v)]) → E (.ref (He.ga K x)) (some d) H'
theorem r_err {K : PySem.W.Frag} {x f : Str} {v : V} {H : Hp} {E : XK} {vs : List V} (hv : vs = [v]) (q : Raised K x f v H E) : vs.length ≤ 1000 ∧ ∀ a, H a = none → spErr K x f (.ref a :: (vs ++ [])) (upd H a (exo a (He.ga K x) none))
    (fun v H2 => v = .non ∧ ∃ (d : Addr) (fs : List (Str × V)), H2 a = some (exo a (He.ga K x) (some d)) ∧ H2 d = some (exd d fs) ∧ H d = none ∧ E (.ref (He.ga K x)) (some d) (upd (del H2 a) d (.xd fs))) (fun _ _ _ => False) := by
  subst hv
  refine ⟨by simp, fun a ha => ⟨a, rfl, upd_same, fun dx hd hne => ⟨rfl, dx, [(f, v)], upd_same, ?_, ?_, ?_⟩⟩⟩
  · rw [upd_ne hne, upd_same]
  · rw [upd_ne hne] at hd
    exact hd
  · rw [upd_ne hne] at hd
    refine q dx _ (fun b o hb => ?_) upd_same
    have n1 : b ≠ dx := ne_of_none hb hd
    have n2 : b ≠ a := ne_of_none hb ha
    rw [upd_ne n1, del_ne n2, upd_ne n2, upd_ne n1, upd_ne n2]
    exact hb
theorem ok_BadNumber_init {P : Program} {w : World} {K : PySem.W.Frag} {mg : Str → Option Value} {base : Heap} (T : Txt K mg) : ∃ fd, FnOk P w K mg base (L2.CX P w) 1 (He.ma K (He.ga K "BadNumber") "__init__") fd ["self", "part"] (spErr K "BadNumber" "part") ∧ Binds K fd ["self", "part"] [] := by
  obtain ⟨fd, F⟩ := T.d_BadNumber_init
  refine ⟨fd, F.ok sc_BadNumber_init sp2_len (fun cdv A outer s H vs Q E hr h => ?_), F.bindsN fun _ _ _ _ _ _ us hl => match us, hl with | [_, _], _ => rfl⟩
  obtain ⟨a, v, rfl, e, rfl, he, k⟩ := sp2_is h
  refine ⟨_, (pss_one (ps_ost (pv 0) (pv 1))), ?_⟩
  exact ⟨_, rfl, _, rfl, e, _, rfl, T.e_BadNumber.o, T.e_BadNumber.no_ _ (by simp), .inl ⟨he, fun dx h1 h2 => k dx h1 h2⟩⟩
theorem ok_BadPoly_init {P : Program} {w : World} {K : PySem.W.Frag} {mg : Str → Option Value} {base : Heap} (T : Txt K mg) : ∃ fd, FnOk P w K mg base (L2.CX P w) 1 (He.ma K (He.ga K "BadPoly") "__init__") fd ["self", "part"] (spErr K "BadPoly" "part") ∧ Binds K fd ["self", "part"] [] := by
  obtain ⟨fd, F⟩ := T.d_BadPoly_init
  refine ⟨fd, F.ok sc_BadPoly_init sp2_len (fun cdv A outer s H vs Q E hr h => ?_), F.bindsN fun _ _ _ _ _ _ us hl => match us, hl with | [_, _], _ => rfl⟩
  obtain ⟨a, v, rfl, e, rfl, he, k⟩ := sp2_is h
  refine ⟨_, (pss_one (ps_ost (pv 0) (pv 1))), ?_⟩
  exact ⟨_, rfl, _, rfl, e, _, rfl, T.e_BadPoly.o, T.e_BadPoly.no_ _ (by simp), .inl ⟨he, fun dx h1 h2 => k dx h1 h2⟩⟩
theorem ok_BadBound_init {P : Program} {w : World} {K : PySem.W.Frag} {mg : Str → Option Value} {base : Heap} (T : Txt K mg) : ∃ fd, FnOk P w K mg base (L2.CX P w) 1 (He.ma K (He.ga K "BadBound") "__init__") fd ["self", "part"] (spErr K "BadBound" "part") ∧ Binds K fd ["self", "part"] [] := by
  obtain ⟨fd, F⟩ := T.d_BadBound_init
  refine ⟨fd, F.ok sc_BadBound_init sp2_len (fun cdv A outer s H vs Q E hr h => ?_), F.bindsN fun _ _ _ _ _ _ us hl => match us, hl with | [_, _], _ => rfl⟩
  obtain ⟨a, v, rfl, e, rfl, he, k⟩ := sp2_is h
  refine ⟨_, (pss_one (ps_ost (pv 0) (pv 1))), ?_⟩
  exact ⟨_, rfl, _, rfl, e, _, rfl, T.e_BadBound.o, T.e_BadBound.no_ _ (by simp), .inl ⟨he, fun dx h1 h2 => k dx h1 h2⟩⟩
theorem ok_Misfit_init {P : Program} {w : World} {K : PySem.W.Frag} {mg : Str → Option Value} {base : Heap} (T : Txt K mg) : ∃ fd, FnOk P w K mg base (L2.CX P w) 1 (He.ma K (He.ga K "Misfit") "__init__") fd ["self", "part"] (spErr K "Misfit" "part") ∧ Binds K fd ["self", "part"] [] := by
  obtain ⟨fd, F⟩ := T.d_Misfit_init
  refine ⟨fd, F.ok sc_Misfit_init sp2_len (fun cdv A outer s H vs Q E hr h => ?_), F.bindsN fun _ _ _ _ _ _ us hl => match us, hl with | [_, _], _ => rfl⟩
  obtain ⟨a, v, rfl, e, rfl, he, k⟩ := sp2_is h
  refine ⟨_, (pss_one (ps_ost (pv 0) (pv 1))), ?_⟩
  exact ⟨_, rfl, _, rfl, e, _, rfl, T.e_Misfit.o, T.e_Misfit.no_ _ (by simp), .inl ⟨he, fun dx h1 h2 => k dx h1 h2⟩⟩
/-! ### checks -/
def spIsInt (K : PySem.W.Frag) : Sp := sp1 fun v H Q _ => Kn K H v ∧ Q (.bl (isI v)) H
theorem ok_is_integer {P : Program} {w : World} {K : PySem.W.Frag} {mg : Str → Option Value} {base : Heap} (T : Txt K mg) : ∃ fd, FnOk P w K mg base (L2.CX P w) 1 (He.ga K "is_integer") fd ["value"] (spIsInt K) ∧ Binds K fd ["value"] [] := by
  obtain ⟨fd, F⟩ := T.d_is_integer
  refine ⟨fd, F.ok sc_is_integer sp1_len (fun cdv A outer s H vs Q E hr h => ?_), F.bindsN fun _ _ _ _ _ _ us hl => match us, hl with | [_], _ => rfl⟩
  obtain ⟨v, rfl, kv, q⟩ := sp1_is h
  refine ⟨_, (pss_one (ps_ret (pe_and (pe_callB (cr_isi rfl) (by rfl) T.b_isinstance (by decide +kernel) (pa_cons (pv 0) (pa_cons (pe_bltn (v := .ty "int") (by rfl) T.b_int (by decide +kernel) rfl) pa_nil))) (pe_one (pe_not (pe_callB (cr_isi rfl) (by rfl) T.b_isinstance (by decide +kernel) (pa_cons (pv 0) (pa_cons (pe_bltn (v := .ty "bool") (by rfl) T.b_bool (by decide +kernel) rfl) pa_nil)))))))), ?_⟩
  obtain ⟨t, b, ht, hb, hc⟩ := kn_kit T kv (T0 := "int") (by decide)
  obtain ⟨t', b', ht', hb', hc'⟩ := kn_kit T kv (T0 := "bool") (by decide)
  have e : (b && !b') = isI v := by
    rcases hc with ⟨T1, m1, rfl, rfl⟩ | ⟨rfl, ⟨C, rfl⟩, a, rfl⟩
    · have c1 := ty_int ht
      rcases hc' with ⟨T2, m2, rfl, rfl⟩ | ⟨rfl, ⟨C, rfl⟩, a, rfl⟩
      · have c2 := ty_int ht'
        cases hv : isI v with
        | true =>
          obtain rfl := c1.mpr hv
          obtain rfl := c2.mpr hv
          decide
        | false =>
          have n1 : T1 ≠ "int" := fun z => by have := c1.mp z; rw [hv] at this; cases this
          have n2 : T1 = "bool" → T2 = "bool" := fun z => (ty_bool ht').mpr ((ty_bool ht).mp z)
          by_cases z : T1 = "bool"
          · obtain rfl := n2 z
            subst z
            decide
          · simp [kitR, n1, z]
      · cases hv : isI (V.ref a) with
        | true => cases hv
        | false =>
          have n1 : T1 ≠ "int" := fun z => by have := c1.mp z; rw [hv] at this; cases this
          have n2 : T1 ≠ "bool" := fun z => by have := (ty_bool ht).mp z; cases this
          simp [kitR, n1, n2]
    · simp [isI]
  refine ⟨_, rfl, v, .ty "int", t, _, b, rfl, .ty "int", ht, hb, b, rfl, ?_⟩
  cases b with
  | false =>
    rw [if_neg Bool.false_ne_true]
    rw [← e] at q
    exact q
  | true =>
    rw [if_pos rfl]
    rw [← e] at q
    exact ⟨_, rfl, v, .ty "bool", t', _, b', rfl, .ty "bool", ht', hb', b', rfl, q⟩
/-- least, most: none or a bound -/
def bnd : V → Option (Option Int)
  | .non => some none
  | .int i => some (some i)
  | _ => none
def loB (i : Int) : Option Int → Bool
  | none => true
  | some l => decide (l ≤ i)
def upB (i : Int) : Option Int → Bool
  | none => true
  | some m => decide (i ≤ m)
def inB (v : V) (l m : Option Int) : Bool := match v with
  | .int i => loB i l && upB i m
  | _ => false
def spWithin (K : PySem.W.Frag) : Sp := sp3 fun v l m H Q _ => Kn K H v ∧ ∃ l' m', bnd l = some l' ∧ bnd m = some m' ∧ Q (.bl (inB v l' m')) H
theorem bnd_is {v : V} {l : Option Int} (h : bnd v = some l) : (v = .non ∧ l = none) ∨ ∃ i, v = .int i ∧ l = some i := by
  cases v <;> simp [bnd] at h <;> subst h <;> simp
theorem ok_is_within {P : Program} {w : World} {K : PySem.W.Frag} {mg : Str → Option Value} {base : Heap} (T : Txt K mg) : ∃ fd, FnOk P w K mg base (L2.CX P w) 2 (He.ga K "is_within") fd ["value", "least", "most"] (spWithin K) ∧ Binds K fd ["value", "least", "most"] [] := by
  obtain ⟨fd, F⟩ := T.d_is_within
  obtain ⟨fd_is_integer, F_is_integer, B_is_integer⟩ := ok_is_integer (P := P) (w := w) (base := base) T
  refine ⟨fd, F.ok sc_is_within sp3_len (fun cdv A outer s H vs Q E hr h => ?_), F.bindsN fun _ _ _ _ _ _ us hl => match us, hl with | [_, _, _], _ => rfl⟩
  have hr_is_integer : Room 1 _ := hr.mono (by decide)
  obtain ⟨v, l, m, rfl, kv, l', m', hl, hm, q⟩ := sp3_is h
  refine ⟨_, (pss_cons (ps_if (PW.pt (pw_or (pt_not (pt_val (pe_call F_is_integer hr_is_integer (by rfl) T.g_is_integer T.k_is_integer B_is_integer .nil passL (pa_cons (pv 0) pa_nil)))) (pw_or1 (PW.pt (pw_and (pt_cmpR op_notN (pv 1) pe_non (nomark _)) (pw_and1 (pt_cmpR op_lt (pv 0) (pv 1) (nomark _)))))))) (pss_one (ps_ret pe_bl)) pss_nil)
      (pss_one (ps_ret (pe_or (pe_cmpR op_isN (pv 2) pe_non (nomark _)) (pe_one (pe_cmpR op_le (pv 0) (pv 2) (nomark _))))))), ?_⟩
  refine ⟨_, rfl, kv, ⟨_, rfl, ?_⟩⟩
  cases hv : isI v with
  | false =>
    have e : inB v l' m' = false := by cases v <;> first | rfl | cases hv
    rw [e] at q
    exact ite_t rfl (ite_t rfl q)
  | true =>
    obtain ⟨i, rfl⟩ : ∃ i, v = .int i := by cases v <;> first | exact ⟨_, rfl⟩ | cases hv
    refine ite_f rfl ?_
    have last : ∀ {Q' : VK}, Q' (.bl (upB i m')) H → (tOrV (tOp (fun x y H Q => y = .non ∧ Q (.bl (decide (x = .non))) H) (tVar 2) (tC .non)) (tOp (rI0 fun i j => .bl (decide (i ≤ j))) (tVar 0) (tVar 2))) [some (.int i), some l, some m] H Q' := fun {Q'} q' => by
      refine ⟨_, rfl, rfl, _, rfl, ?_⟩
      rcases bnd_is hm with ⟨rfl, rfl⟩ | ⟨j, rfl, rfl⟩
      · exact ite_t (by simp) q'
      · exact ite_f (by simp) ⟨_, rfl, _, rfl, i, j, rfl, rfl, q'⟩
    rcases bnd_is hl with ⟨rfl, rfl⟩ | ⟨j, rfl, rfl⟩
    · refine ⟨_, rfl, rfl, _, rfl, ite_f (by simp) (ite_f rfl (last ?_))⟩
      simpa [inB, loB] using q
    · refine ⟨_, rfl, rfl, _, rfl, ite_t (by simp) ⟨_, rfl, _, rfl, i, j, rfl, rfl, _, rfl, ?_⟩⟩
      by_cases c : i < j
      · refine ite_t (by simp [c]) ?_
        have e : inB (.int i) (some j) m' = false := by simp [inB, loB, show ¬ j ≤ i by omega]
        rw [e] at q
        exact q
      · refine ite_f (by simp [c]) (last ?_)
        have e : inB (.int i) (some j) m' = upB i m' := by simp [inB, loB, show j ≤ i by omega]
        rw [← e]
        exact q
def spNeed (K : PySem.W.Frag) : Sp := sp4 fun v z l m H Q E => Kn K H v ∧ ∃ l' m' s, z = .str s ∧ bnd l = some l' ∧ bnd m = some m' ∧ (inB v l' m' = true → Q v H) ∧ (inB v l' m' = false → Raised K "BadNumber" "part" (.str s) H E)
theorem ok_need_integer {P : Program} {w : World} {K : PySem.W.Frag} {mg : Str → Option Value} {base : Heap} (T : Txt K mg) : ∃ fd, FnOk P w K mg base (L2.CX P w) 3 (He.ga K "need_integer") fd ["value", "part", "least", "most"] (spNeed K) ∧ Binds K fd ["value", "part", "least", "most"] [] := by
  obtain ⟨fd, F⟩ := T.d_need_integer
  obtain ⟨fd_is_within, F_is_within, B_is_within⟩ := ok_is_within (P := P) (w := w) (base := base) T
  obtain ⟨fd_BadNumber_init, F_BadNumber_init, B_BadNumber_init⟩ := ok_BadNumber_init (P := P) (w := w) (base := base) T
  refine ⟨fd, F.ok sc_need_integer sp4_len (fun cdv A outer s H vs Q E hr h => ?_), F.bindsN fun _ _ _ _ _ _ us hl => match us, hl with | [_, _, _, _], _ => rfl⟩
  have hr_is_within : Room 2 _ := hr.mono (by decide)
  have hr_BadNumber_init : Room 2 _ := hr.mono (by decide)
  obtain ⟨v, z, l, m, rfl, kv, l', m', z', rfl, hl, hm, q1, q2⟩ := sp4_is h
  refine ⟨_, (pss_cons (ps_if (pt_not (pt_val (pe_call F_is_within hr_is_within (by rfl) T.g_is_within T.k_is_within B_is_within .nil passL (pa_cons (pv 0) (pa_cons (pv 2) (pa_cons (pv 3) pa_nil)))))) (pss_one (ps_raise rfl (takes_of rfl rfl rfl rfl) (pmk_oex T.e_BadNumber.o T.e_BadNumber.i T.e_BadNumber.t F_BadNumber_init hr_BadNumber_init B_BadNumber_init .nil passL rfl T.g_BadNumber (pa_cons (pv 1) pa_nil)))) pss_nil)
      (pss_one (ps_ret (pv 0)))), ?_⟩
  refine ⟨_, rfl, _, rfl, _, rfl, kv, l', m', hl, hm, _, rfl, ?_⟩
  cases hv : inB v l' m' with
  | true => exact ite_f rfl ⟨_, rfl, q1 hv⟩
  | false => exact ite_t rfl ⟨_, rfl, r_err rfl (q2 hv)⟩

end K04
namespace K04
open PySem PySem.Spec PyProof.Rows L2 GS TL
local macro_rules | `(tactic| walk_at "rd") => `(tactic| (repeat (first
  | with_reducible refine r_next ?_
  | with_reducible refine r_seq ?_
  | with_reducible refine r_ret ?_
  | with_reducible refine r_ifS ?_
  | with_reducible refine r_asg ?_
  | with_reducible refine r_drop ?_
  | with_reducible refine r_op ?_
  | with_reducible refine r_un ?_
  | with_reducible refine r_cbInt ?_
  | with_reducible refine r_cbAbs ?_
  | with_reducible refine r_cbLen ?_
  | with_reducible refine r_cb ?_
  | with_reducible refine r_call ?_
  | with_reducible refine r_make ?_
  | with_reducible refine r_callN0 ?_
  | with_reducible refine r_makeK0 ?_
  | with_reducible refine r_makeS ?_
  | with_reducible refine r_callS ?_
  | with_reducible refine r_cons ?_
  | with_reducible refine r_nil ?_
  | with_reducible refine r_test ?_
  | with_reducible refine r_B ?_
  | with_reducible refine r_and ?_
  | with_reducible refine r_or ?_
  | with_reducible refine r_not ?_
  | with_reducible refine r_andV ?_
  | with_reducible refine r_orV ?_
  | with_reducible refine r_notV ?_
  | with_reducible refine r_if ?_
  | with_reducible refine r_tup ?_
  | with_reducible refine r_lst ?_
  | with_reducible refine r_c ?_
  | with_reducible refine r_lc ?_
  | with_reducible refine r_chain ?_
  | with_reducible refine r_iT ?_
  | with_reducible refine r_iL ?_
  | with_reducible refine r_iR1 ?_
  | with_reducible refine r_asgG ?_
  | with_reducible refine r_gSub ?_
  | with_reducible refine r_for ?_
  | with_reducible refine r_smeth ?_
  | with_reducible refine r_par ?_
  | with_reducible refine r_parK ?_
  | with_reducible refine r_gCons ?_
  | with_reducible refine r_gNil ?_
  | with_reducible refine r_gName ?_
  | with_reducible refine r_intI ?_
  | with_reducible refine r_intB ?_
  | with_reducible refine r_absI ?_
  | with_reducible refine r_k ?_
  | with_reducible refine r_kV ?_
  | ((with_reducible show tVar _ _ _ _); refine r_var3 ?_ (by rfl))
  | with_reducible refine r_I0 ?_
  | with_reducible refine r_U ?_
  | with_reducible refine r_eqI ?_
  | with_reducible refine r_neI ?_
  | dsimp only)))
local macro_rules | `(tactic| walk_at "rx") => `(tactic| (repeat (first
  | with_reducible refine r_next ?_
  | with_reducible refine r_ret ?_
  | with_reducible refine r_ifS ?_
  | with_reducible refine r_asg ?_
  | with_reducible refine r_drop ?_
  | with_reducible refine r_op ?_
  | with_reducible refine r_un ?_
  | with_reducible refine r_cbInt ?_
  | with_reducible refine r_cbAbs ?_
  | with_reducible refine r_cbLen ?_
  | with_reducible refine r_cb ?_
  | with_reducible refine r_call ?_
  | with_reducible refine r_make ?_
  | with_reducible refine r_callN0 ?_
  | with_reducible refine r_makeK0 ?_
  | with_reducible refine r_makeS ?_
  | with_reducible refine r_callS ?_
  | with_reducible refine r_cons ?_
  | with_reducible refine r_nil ?_
  | with_reducible refine r_test ?_
  | with_reducible refine r_B ?_
  | with_reducible refine r_and ?_
  | with_reducible refine r_or ?_
  | with_reducible refine r_not ?_
  | with_reducible refine r_andV ?_
  | with_reducible refine r_orV ?_
  | with_reducible refine r_notV ?_
  | with_reducible refine r_if ?_
  | with_reducible refine r_tup ?_
  | with_reducible refine r_lst ?_
  | with_reducible refine r_c ?_
  | with_reducible refine r_lc ?_
  | with_reducible refine r_chain ?_
  | with_reducible refine r_iT ?_
  | with_reducible refine r_iL ?_
  | with_reducible refine r_iR1 ?_
  | with_reducible refine r_asgG ?_
  | with_reducible refine r_gSub ?_
  | with_reducible refine r_for ?_
  | with_reducible refine r_smeth ?_
  | with_reducible refine r_par ?_
  | with_reducible refine r_parK ?_
  | with_reducible refine r_gCons ?_
  | with_reducible refine r_gNil ?_
  | with_reducible refine r_gName ?_
  | with_reducible refine r_intI ?_
  | with_reducible refine r_intB ?_
  | with_reducible refine r_absI ?_
  | with_reducible refine r_k ?_
  | with_reducible refine r_kV ?_
  | ((with_reducible show tVar _ _ _ _); refine r_var3 ?_ (by rfl))
  | with_reducible refine r_I0 ?_
  | with_reducible refine r_U ?_
  | with_reducible refine r_eqI ?_
  | with_reducible refine r_neI ?_
  | dsimp only)))
/-! ### rows of integers -/
/-- the items of a list or a tuple -/
def Sq (H : Hp) (v : V) (xs : List V) : Prop := ∃ a, v = .ref a ∧ (H a = some (.lst xs) ∨ H a = some (.tup xs))
theorem Sq.ex {H H' : Hp} {v : V} {xs : List V} (h : Sq H v xs) (e : Ex H H') : Sq H' v xs := by
  obtain ⟨a, rfl, h | h⟩ := h
  · exact ⟨a, rfl, .inl (e _ _ h)⟩
  · exact ⟨a, rfl, .inr (e _ _ h)⟩
theorem Sq.kn {K : PySem.W.Frag} {H : Hp} {v : V} {xs : List V} (h : Sq H v xs) : Kn K H v := by
  obtain ⟨a, rfl, h | h⟩ := h
  · exact .inl ⟨"list", by decide, .lst h⟩
  · exact .inl ⟨"tuple", by decide, .tup h⟩
theorem Own.ex {K : PySem.W.Frag} {H H' : Hp} {v : V} (h : Own K H v) (e : Ex H H') : Own K H' v := let ⟨a, C, dx, fs, h1, h2, h3⟩ := h; ⟨a, C, dx, fs, h1, h2, e _ _ h3⟩
/-- whether it is a list or a tuple -/
def RowB (K : PySem.W.Frag) (H : Hp) (v : V) (b : Bool) : Prop := (∃ T ∈ tys, TyOf K H v (.type T) ∧ b = (T == "list" || T == "tuple")) ∨ (Own K H v ∧ b = false)
theorem RowB.ex {K : PySem.W.Frag} {H H' : Hp} {v : V} {b : Bool} (h : RowB K H v b) (e : Ex H H') : RowB K H' v b := by
  rcases h with ⟨T, hT, h, hb⟩ | ⟨h, hb⟩
  · exact .inl ⟨T, hT, TyOf.ex' h fun a _ o q => e a o q, hb⟩
  · exact .inr ⟨h.ex e, hb⟩
theorem Kn.row {K : PySem.W.Frag} {H : Hp} {v : V} (h : Kn K H v) : ∃ b, RowB K H v b := by
  rcases h with ⟨T, hT, h⟩ | h
  · exact ⟨_, .inl ⟨T, hT, h, rfl⟩⟩
  · exact ⟨false, .inr ⟨h, rfl⟩⟩
theorem Sq.row {K : PySem.W.Frag} {H : Hp} {v : V} {xs : List V} (h : Sq H v xs) : RowB K H v true := by
  obtain ⟨a, rfl, h | h⟩ := h
  · exact .inl ⟨"list", by decide, .lst h, rfl⟩
  · exact .inl ⟨"tuple", by decide, .tup h, rfl⟩
theorem row_kit : ∀ T ∈ tys, kitR T "list" = (T == "list") ∧ kitR T "tuple" = (T == "tuple") := by decide
def spRow (K : PySem.W.Frag) : Sp := sp1 fun v H Q _ => ∃ b, RowB K H v b ∧ ∀ H', Ex H H' → Q (.bl b) H'
theorem ok_is_row {P : Program} {w : World} {K : PySem.W.Frag} {mg : Str → Option Value} {base : Heap} (T : Txt K mg) : ∃ fd, FnOk P w K mg base (L2.CX P w) 1 (He.ga K "is_row") fd ["value"] (spRow K) ∧ Binds K fd ["value"] [] := by
  obtain ⟨fd, F⟩ := T.d_is_row
  refine ⟨fd, F.ok sc_is_row sp1_len (fun cdv A outer s H vs Q E hr h => ?_), F.bindsN fun _ _ _ _ _ _ us hl => match us, hl with | [_], _ => rfl⟩
  obtain ⟨v, rfl, b, hv, k⟩ := sp1_is h
  refine ⟨_, (pss_one (ps_ret (pe_callB call_isiT (by rfl) T.b_isinstance (by decide +kernel) (pa_cons (pv 0) (pa_cons (pe_tup (pa_cons (pe_bltn (v := .ty "list") (by rfl) T.b_list (by decide +kernel) rfl) (pa_cons (pe_bltn (v := .ty "tuple") (by rfl) T.b_tuple (by decide +kernel) rfl) pa_nil))) pa_nil))))), ?_⟩
  walk_at "rd"
  refine r_newT (sz_le (by simp)) fun t H1 _ e1 h1 => ?_
  have hv1 := hv.ex e1
  have any : ∃ t, TyX K H1 v t ∧ PySem.W.kitAny K t [.type "list", .type "tuple"] = some b := by
    rcases hv1 with ⟨T1, hT, hy, rfl⟩ | ⟨⟨a, C, dx, fs, rfl, hC, ha⟩, rfl⟩
    · refine ⟨_, .base hy, ?_⟩
      have k1 := kit_ty (K := K) (kit_all T1 hT "list" (by decide))
      have k2 := kit_ty (K := K) (kit_all T1 hT "tuple" (by decide))
      obtain ⟨r1, r2⟩ := row_kit T1 hT
      rw [r1] at k1
      rw [r2] at k2
      unfold PySem.W.kitAny
      rw [k1]
      cases T1 == "list" with
      | true => rfl
      | false =>
        show PySem.W.kitAny K _ [_] = _
        unfold PySem.W.kitAny
        rw [k2]
        cases T1 == "tuple" <;> rfl
    · refine ⟨_, ty_own T hC ha, ?_⟩
      have k1 := ((own_facts T hC).2.ty "list" (by decide)).2.1
      have k2 := ((own_facts T hC).2.ty "tuple" (by decide)).2.1
      unfold PySem.W.kitAny
      rw [k1]
      show PySem.W.kitAny K _ [_] = _
      unfold PySem.W.kitAny
      rw [k2]
      rfl
  obtain ⟨t0, ty, ka⟩ := any
  exact ⟨v, t, _, t0, _, b, rfl, h1, .cons (.ty "list") (.cons (.ty "tuple") .nil), ty, ka, k H1 e1⟩
theorem getD_map {α : Type} (xs : List V) (f : V → α) : ((List.range xs.length).map fun j => f (xs.getD j .non)) = xs.map f := by
  refine List.ext_getElem (by simp) fun i h1 h2 => ?_
  simp at h1
  simp [h1]
def spInts (K : PySem.W.Frag) : Sp := sp1 fun v H Q _ => (∃ xs, Sq H v xs ∧ xs.length ≤ 50000 ∧ (∀ x ∈ xs, Kn K H x) ∧ ∀ H', Ex H H' → Q (.bl (xs.all isI)) H') ∨ (RowB K H v false ∧ ∀ H', Ex H H' → Q (.bl false) H')
theorem ok_are_integers {P : Program} {w : World} {K : PySem.W.Frag} {mg : Str → Option Value} {base : Heap} (T : Txt K mg) : ∃ fd, FnOk P w K mg base (L2.CX P w) 2 (He.ga K "are_integers") fd ["value"] (spInts K) ∧ Binds K fd ["value"] [] := by
  obtain ⟨fd, F⟩ := T.d_are_integers
  obtain ⟨fd_is_integer, F_is_integer, B_is_integer⟩ := ok_is_integer (P := P) (w := w) (base := base) T
  obtain ⟨fd_is_row, F_is_row, B_is_row⟩ := ok_is_row (P := P) (w := w) (base := base) T
  refine ⟨fd, F.ok sc_are_integers sp1_len (fun cdv A outer s H vs Q E hr h => ?_), F.bindsN fun _ _ _ _ _ _ us hl => match us, hl with | [_], _ => rfl⟩
  have hr_is_integer : Room 1 _ := hr.mono (by decide)
  have hr_is_row : Room 1 _ := hr.mono (by decide)
  obtain ⟨v, rfl, hh⟩ := sp1_is h
  refine ⟨_, (pss_one (ps_ret (pe_and (pe_call F_is_row hr_is_row (by rfl) T.g_is_row T.k_is_row B_is_row .nil passL (pa_cons (pv 0) pa_nil)) (pe_one (pe_callB (cr_all rfl) (by rfl) T.b_all (by decide +kernel) (pa_cons (pe_lc (own := [("each", 1)]) (g := gName 1) (tt := tYes)  rfl sc_are_integers.nd (pi_seq (pv 0)) (blkOk_by (own := [("each", 1)]) (N := ["value", "each"]) (sc := defScope s_are_integers) (by decide +kernel)) (fun _ _ _ _ _ => (pg_name (i := 1) sc_are_integers.nd rfl (Or.inl rfl))) (fun _ _ _ _ _ => pts_nil) (fun _ _ _ _ _ => (pe_call F_is_integer hr_is_integer (by rfl) T.g_is_integer T.k_is_integer B_is_integer .nil passL (pa_cons (pv 1) pa_nil)))) pa_nil)))))), ?_⟩
  walk_at "rd"
  rcases hh with ⟨xs, hs, hl, hk, k⟩ | ⟨hr, k⟩
  · refine ⟨true, hs.row, fun H1 e1 => ?_⟩
    walk_at "rd"
    refine ite_t rfl ?_
    walk_at "rd"
    have go : ∀ {J : It} {a : Addr} {G : Hp → Prop}, v = .ref a → Walk J xs.length G (YAt xs) → (∀ H', Ex H1 H' → G H') → lcB J (gName 1) tYes (tCall (spIsInt K) [] E0 (tCons (tVar 1) tNil)) [1] [some v, none] (fun x H2 => rAll K [x] H2 Q) H1 := by
      intro J a G ev w hG
      refine r_lcM w (fun j => .bl (isI (xs.getD j .non))) hl hG (fun _ => rfl) ?_ ?_
      · rintro j y H0 H' hj e0 ⟨rfl, hy⟩
        refine ⟨Ex.refl _, fun H3 e3 R r => ?_⟩
        have : y = xs.getD j .non := by
          rw [List.getD_eq_getElem?_getD, hy]
          rfl
        subst this
        walk_at "rd"
        exact ⟨((hk _ (List.mem_of_getElem? hy)).ex (e1.trans (e0.trans e3))), r H3 (Ex.refl _)⟩
      · intro p H' hp e h'
        rw [getD_map xs fun x => V.bl (isI x)] at h'
        refine ⟨p, xs.map isI, rfl, SqL.of (by rw [List.map_map]; exact h'), ?_⟩
        have e : (xs.map isI).all id = xs.all isI := by rw [List.all_map]; rfl
        rw [e]
        exact k H' (e1.trans ‹Ex H1 H'›)
    obtain ⟨a, rfl, ha | ha⟩ := hs.ex e1
    · refine ⟨_, rfl, ?_⟩
      exact ⟨a, rfl, .inl ⟨⟨_, SqL.of ha⟩, go rfl walk_list fun H' e => SqL.of (e _ _ ha)⟩⟩
    · refine ⟨_, rfl, ?_⟩
      exact ⟨a, rfl, .inr ⟨⟨_, SqT.of ha⟩, go rfl walk_tup fun H' e => SqT.of (e _ _ ha)⟩⟩
  · refine ⟨false, hr, fun H1 e1 => ?_⟩
    walk_at "rd"
    exact ite_f rfl (k H1 e1)

end K04
namespace K04
open PySem PySem.Spec PyProof.Rows L2 GS TL
local macro_rules | `(tactic| walk_at "rd") => `(tactic| (repeat (first
  | with_reducible refine r_next ?_
  | with_reducible refine r_seq ?_
  | with_reducible refine r_ret ?_
  | with_reducible refine r_ifS ?_
  | with_reducible refine r_asg ?_
  | with_reducible refine r_drop ?_
  | with_reducible refine r_op ?_
  | with_reducible refine r_un ?_
  | with_reducible refine r_cbInt ?_
  | with_reducible refine r_cbAbs ?_
  | with_reducible refine r_cbLen ?_
  | with_reducible refine r_cb ?_
  | with_reducible refine r_call ?_
  | with_reducible refine r_make ?_
  | with_reducible refine r_callN0 ?_
  | with_reducible refine r_makeK0 ?_
  | with_reducible refine r_makeS ?_
  | with_reducible refine r_callS ?_
  | with_reducible refine r_cons ?_
  | with_reducible refine r_nil ?_
  | with_reducible refine r_test ?_
  | with_reducible refine r_B ?_
  | with_reducible refine r_and ?_
  | with_reducible refine r_or ?_
  | with_reducible refine r_not ?_
  | with_reducible refine r_andV ?_
  | with_reducible refine r_orV ?_
  | with_reducible refine r_notV ?_
  | with_reducible refine r_if ?_
  | with_reducible refine r_tup ?_
  | with_reducible refine r_lst ?_
  | with_reducible refine r_c ?_
  | with_reducible refine r_lc ?_
  | with_reducible refine r_chain ?_
  | with_reducible refine r_iT ?_
  | with_reducible refine r_iL ?_
  | with_reducible refine r_iR1 ?_
  | with_reducible refine r_asgG ?_
  | with_reducible refine r_gSub ?_
  | with_reducible refine r_for ?_
  | with_reducible refine r_smeth ?_
  | with_reducible refine r_par ?_
  | with_reducible refine r_parK ?_
  | with_reducible refine r_gCons ?_
  | with_reducible refine r_gNil ?_
  | with_reducible refine r_gName ?_
  | with_reducible refine r_intI ?_
  | with_reducible refine r_intB ?_
  | with_reducible refine r_absI ?_
  | with_reducible refine r_k ?_
  | with_reducible refine r_kV ?_
  | ((with_reducible show tVar _ _ _ _); refine r_var3 ?_ (by rfl))
  | with_reducible refine r_I0 ?_
  | with_reducible refine r_U ?_
  | with_reducible refine r_eqI ?_
  | with_reducible refine r_neI ?_
  | dsimp only)))
local macro_rules | `(tactic| walk_at "rx") => `(tactic| (repeat (first
  | with_reducible refine r_next ?_
  | with_reducible refine r_ret ?_
  | with_reducible refine r_ifS ?_
  | with_reducible refine r_asg ?_
  | with_reducible refine r_drop ?_
  | with_reducible refine r_op ?_
  | with_reducible refine r_un ?_
  | with_reducible refine r_cbInt ?_
  | with_reducible refine r_cbAbs ?_
  | with_reducible refine r_cbLen ?_
  | with_reducible refine r_cb ?_
  | with_reducible refine r_call ?_
  | with_reducible refine r_make ?_
  | with_reducible refine r_callN0 ?_
  | with_reducible refine r_makeK0 ?_
  | with_reducible refine r_makeS ?_
  | with_reducible refine r_callS ?_
  | with_reducible refine r_cons ?_
  | with_reducible refine r_nil ?_
  | with_reducible refine r_test ?_
  | with_reducible refine r_B ?_
  | with_reducible refine r_and ?_
  | with_reducible refine r_or ?_
  | with_reducible refine r_not ?_
  | with_reducible refine r_andV ?_
  | with_reducible refine r_orV ?_
  | with_reducible refine r_notV ?_
  | with_reducible refine r_if ?_
  | with_reducible refine r_tup ?_
  | with_reducible refine r_lst ?_
  | with_reducible refine r_c ?_
  | with_reducible refine r_lc ?_
  | with_reducible refine r_chain ?_
  | with_reducible refine r_iT ?_
  | with_reducible refine r_iL ?_
  | with_reducible refine r_iR1 ?_
  | with_reducible refine r_asgG ?_
  | with_reducible refine r_gSub ?_
  | with_reducible refine r_for ?_
  | with_reducible refine r_smeth ?_
  | with_reducible refine r_par ?_
  | with_reducible refine r_parK ?_
  | with_reducible refine r_gCons ?_
  | with_reducible refine r_gNil ?_
  | with_reducible refine r_gName ?_
  | with_reducible refine r_intI ?_
  | with_reducible refine r_intB ?_
  | with_reducible refine r_absI ?_
  | with_reducible refine r_k ?_
  | with_reducible refine r_kV ?_
  | ((with_reducible show tVar _ _ _ _); refine r_var3 ?_ (by rfl))
  | with_reducible refine r_I0 ?_
  | with_reducible refine r_U ?_
  | with_reducible refine r_eqI ?_
  | with_reducible refine r_neI ?_
  | dsimp only)))
/-! ### the class Poly -/
theorem Bu.new {p q : Addr} {H : Hp} {o : HO} (h : H q = none) : Bu p H (upd H q o) := Bu.of (Ex.new h)
def RaisedB (K : PySem.W.Frag) (x : Str) (p : Addr) (z : Str) (H : Hp) (E : XK) : Prop := ∀ d H', Bu p H H' → H' d = some (.xd [(("part" : Str), .str z)]) → E (.ref (He.ga K x)) (some d) H'
/-- rows that hold integers alone, from 1 to 64, the first above 0 -/
def okN (ns : List Int) : Prop := 1 ≤ ns.length ∧ ns.length ≤ 64 ∧ 0 < ns.headD 0
def spPInit (K : PySem.W.Frag) : Sp := sp2 fun a v H Q E => ∃ p dx, a = .ref p ∧ H p = some (.ins (He.ga K "Poly") dx []) ∧
  ((∃ ns : List Int, Sq H v (ns.map V.int) ∧ ns.length ≤ 50000 ∧ (okN ns → ∀ t H', Bu p H H' → H' t = some (.tup (ns.map V.int)) → t ≠ p → H' p = some (.ins (He.ga K "Poly") dx (pf t ((ns.length : Int) - 1))) → Q .non H') ∧
      (¬ (1 ≤ ns.length ∧ ns.length ≤ 64) → RaisedB K "BadPoly" p "numbers" H E) ∧ (1 ≤ ns.length ∧ ns.length ≤ 64 → ¬ 0 < ns.headD 0 → RaisedB K "BadPoly" p "first" H E)) ∨
   (((∃ xs, Sq H v xs ∧ xs.length ≤ 50000 ∧ (∀ x ∈ xs, Kn K H x) ∧ xs.all isI = false) ∨ RowB K H v false) ∧ RaisedB K "BadPoly" p "numbers" H E))
theorem ok_Poly_init {P : Program} {w : World} {K : PySem.W.Frag} {mg : Str → Option Value} {base : Heap} (T : Txt K mg) : ∃ fd, FnOk P w K mg base (L2.CX P w) 3 (He.ma K (He.ga K "Poly") "__init__") fd ["self", "numbers"] (spPInit K) ∧ Binds K fd ["self", "numbers"] [] ∧ KBn K fd ["self", "numbers"] 1 ["numbers"] (pm [0, 1]) (pm [0, 1]) := by
  obtain ⟨fd, F⟩ := T.d_Poly_init
  obtain ⟨fd_BadPoly_init, F_BadPoly_init, B_BadPoly_init⟩ := ok_BadPoly_init (P := P) (w := w) (base := base) T
  obtain ⟨fd_are_integers, F_are_integers, B_are_integers⟩ := ok_are_integers (P := P) (w := w) (base := base) T
  refine ⟨fd, F.ok sc_Poly_init sp2_len (fun cdv A outer s H vs Q E hr h => ?_), F.bindsN fun _ _ _ _ _ _ us hl => match us, hl with | [_, _], _ => rfl, kb_of F 1 ["numbers"] [0, 1] (fun _ _ _ _ _ _ us ws h1 h2 => match us, ws, h1, h2 with | [_], [_], _, _ => rfl)⟩
  have hr_BadPoly_init : Room 2 _ := hr.mono (by decide)
  have hr_are_integers : Room 2 _ := hr.mono (by decide)
  obtain ⟨a, v, rfl, p, dx, rfl, hp, hh⟩ := sp2_is h
  refine ⟨_, (pss_cons (ps_if (PW.pt (pw_or (pt_not (pt_val (pe_call F_are_integers hr_are_integers (by rfl) T.g_are_integers T.k_are_integers B_are_integers .nil passL (pa_cons (pv 1) pa_nil)))) (pw_or1 (pt_not (pt_chain op_le op_le pe_int (pe_callB (kx_lens rfl) (by rfl) T.b_len PySem.boot_len (pa_cons (pv 1) pa_nil)) (pe_gint rfl T.c_MOST_NUMBERS)))))) (pss_one (ps_raise rfl (takes_of rfl rfl rfl rfl) (pmk_oex T.e_BadPoly.o T.e_BadPoly.i T.e_BadPoly.t F_BadPoly_init hr_BadPoly_init B_BadPoly_init .nil passL rfl T.g_BadPoly (pa_cons pe_str pa_nil)))) pss_nil)
      (pss_cons (ps_if (pt_cmpR op_le (pe_ix ix_seq (pv 1) pe_int (fun _ _ => rfl)) pe_int (nomark _)) (pss_one (ps_raise rfl (takes_of rfl rfl rfl rfl) (pmk_oex T.e_BadPoly.o T.e_BadPoly.i T.e_BadPoly.t F_BadPoly_init hr_BadPoly_init B_BadPoly_init .nil passL rfl T.g_BadPoly (pa_cons pe_str pa_nil)))) pss_nil)
      (pss_cons (ps_fld (pv 0) (pe_callTy call_tuple_of (by rfl) T.b_tuple (by decide +kernel) (pa_cons (pv 1) pa_nil)) rfl)
      (pss_one (ps_fld (pv 0) (pe_op op_sub (pe_callB (kx_lens rfl) (by rfl) T.b_len PySem.boot_len (pa_cons (pv 1) pa_nil)) pe_int) rfl))))), ?_⟩
  walk_at "rd"
  rcases hh with ⟨ns, hs, hl, k1, k2, k3⟩ | ⟨hbad, k⟩
  · refine .inl ⟨_, hs, by simpa using hl, fun x hx => ?_, fun H1 e1 => ?_⟩
    · obtain ⟨i, _, rfl⟩ := List.mem_map.mp hx
      exact .inl ⟨"int", by decide, .int i⟩
    · have all : (ns.map V.int).all isI = true := by rw [List.all_map]; exact List.all_eq_true.mpr fun _ _ => rfl
      rw [all]
      walk_at "rd"
      refine ite_f rfl ?_
      walk_at "rd"
      obtain ⟨b, rfl, hb⟩ := hs.ex e1
      have sq : SqL K H1 b (ns.map V.int) ∨ SqT K H1 b (ns.map V.int) := hb.imp SqL.of SqT.of
      have ix : ∀ {Q' : VK} {i : Int}, ns.head? = some i → Q' (.int i) H1 → rIx K (.ref b) (.int 0) H1 Q' := fun {Q' i} hi q => by
        have e : atI (ns.map V.int) 0 = some (.int i) := atI_nat (j := 0) (by cases ns with | nil => cases hi | cons n r => cases hi; rfl)
        rcases sq with sq | sq
        · exact .inl ⟨b, _, _, _, rfl, rfl, sq, e, q⟩
        · exact .inr (.inl ⟨b, _, _, _, rfl, rfl, sq, e, q⟩)
      refine ⟨b, _, rfl, sq, ?_⟩
      rw [List.length_map]
      walk_at "rd"
      by_cases c1 : 1 ≤ ns.length
      · refine ite_t (decide_eq_true (by omega)) ?_
        walk_at "rd"
        by_cases c2 : ns.length ≤ 64
        · rw [decide_eq_true (show (ns.length : Int) ≤ 64 by omega)]
          refine ite_f rfl ?_
          walk_at "rd"
          obtain ⟨i, hi⟩ : ∃ i, ns.head? = some i := by
            cases ns with
            | nil => simp at c1
            | cons n r => exact ⟨n, rfl⟩
          have hd : ns.headD 0 = i := by rw [List.headD_eq_head?_getD, hi]; rfl
          refine ix hi ?_
          walk_at "rd"
          by_cases c3 : 0 < i
          · refine ite_f (decide_eq_false (by omega)) ?_
            have ok : okN ns := ⟨c1, c2, by rw [hd]; exact c3⟩
            have fin : ∀ (t : Addr) (H2 : Hp), Ex H1 H2 → H2 t = some (.tup (ns.map V.int)) → sFld K (tVar 0) (tC (.ref t)) "numbers" { nx := sFld K (tVar 0) (tOp (rI0 fun i j => .int (i - j)) (tCB (fun xs H Q => ∃ p ys, xs = [V.ref p] ∧ (SqL K H p ys ∨ SqT K H p ys) ∧ Q (V.int ys.length) H) (tCons (tVar 1) tNil)) (tC (.int 1))) "degree" { nx := fun _ H' => Q .non H', rt := Q }, rt := Q } [some (.ref p), some (.ref b)] H2 := by
              intro t H2 e2 ht
              have hp2 := e2 _ _ (e1 _ _ hp)
              have tn : t ≠ p := by rintro rfl; rw [hp2] at ht; cases ht
              have bn : b ≠ p := by
                rintro rfl
                rcases hb with hb | hb <;> rw [e1 _ _ hp] at hb <;> cases hb
              refine ⟨_, rfl, p, _, dx, [], rfl, hp2, T.cl_Poly, T.na_Poly_numbers, by decide, ?_⟩
              walk_at "rd"
              refine ⟨_, rfl, b, ns.map V.int, rfl, ?_, ?_⟩
              · rcases hb with hb | hb
                · exact .inl (SqL.of (by rw [upd_ne bn]; exact e2 _ _ hb))
                · exact .inr (SqT.of (by rw [upd_ne bn]; exact e2 _ _ hb))
              walk_at "rd"
              rw [List.length_map]
              refine ⟨p, _, dx, _, rfl, upd_same, T.cl_Poly, T.na_Poly_degree, (by show 1 < 1000; decide), ?_⟩
              refine k1 ok t _ (((Bu.of (e1.trans e2)).trans Bu.upd).trans Bu.upd) ?_ tn ?_
              · rw [upd_ne tn, upd_ne tn]; exact ht
              · rw [upd_same]
                rfl
            walk_at "rd"
            refine ⟨_, rfl, b, ns.map V.int, rfl, ?_⟩
            rcases hb with hb | hb
            · exact .inl ⟨SqL.of hb, fun l hl => fin l _ (Ex.new hl) upd_same⟩
            · exact .inr ⟨SqT.of hb, fin b _ (Ex.refl _) hb⟩
          · refine ite_t (decide_eq_true (by omega)) (r_err rfl fun d H' e hd => k3 ⟨c1, c2⟩ (by rw [‹ns.headD 0 = i›]; exact c3) d H' (Bu.of (e1.trans e)) hd)
        · rw [decide_eq_false (show ¬ (ns.length : Int) ≤ 64 by omega)]
          exact ite_t rfl (r_err rfl fun d H' e hd => k2 (fun z => c2 z.2) d H' (Bu.of (e1.trans e)) hd)
      · refine ite_f (decide_eq_false (by omega)) ?_
        walk_at "rd"
        exact (ite_t rfl (r_err rfl fun d H' e hd => k2 (fun z => c1 z.1) d H' (Bu.of (e1.trans e)) hd))
  · have no : ∀ H1, Ex H H1 → Raised K "BadPoly" "part" (.str "numbers") H1 E := fun H1 e1 d H' e hd => k d H' (Bu.of (e1.trans e)) hd
    rcases hbad with ⟨xs, hs, hl, hk, hn⟩ | hr
    · refine .inl ⟨xs, hs, hl, hk, fun H1 e1 => ?_⟩
      rw [hn]
      walk_at "rd"
      refine ite_t rfl ?_
      walk_at "rd"
      exact ite_t rfl (r_err rfl (no H1 e1))
    · refine .inr ⟨hr, fun H1 e1 => ?_⟩
      walk_at "rd"
      refine ite_t rfl ?_
      walk_at "rd"
      exact ite_t rfl (r_err rfl (no H1 e1))

end K04
namespace K04
open PySem PySem.Spec PyProof.Rows L2 GS TL
local macro_rules | `(tactic| walk_at "rd") => `(tactic| (repeat (first
  | with_reducible refine r_next ?_
  | with_reducible refine r_seq ?_
  | with_reducible refine r_ret ?_
  | with_reducible refine r_ifS ?_
  | with_reducible refine r_asg ?_
  | with_reducible refine r_drop ?_
  | with_reducible refine r_op ?_
  | with_reducible refine r_un ?_
  | with_reducible refine r_cbInt ?_
  | with_reducible refine r_cbAbs ?_
  | with_reducible refine r_cbLen ?_
  | with_reducible refine r_cb ?_
  | with_reducible refine r_call ?_
  | with_reducible refine r_make ?_
  | with_reducible refine r_callN0 ?_
  | with_reducible refine r_makeK0 ?_
  | with_reducible refine r_makeS ?_
  | with_reducible refine r_callS ?_
  | with_reducible refine r_cons ?_
  | with_reducible refine r_nil ?_
  | with_reducible refine r_test ?_
  | with_reducible refine r_B ?_
  | with_reducible refine r_and ?_
  | with_reducible refine r_or ?_
  | with_reducible refine r_not ?_
  | with_reducible refine r_andV ?_
  | with_reducible refine r_orV ?_
  | with_reducible refine r_notV ?_
  | with_reducible refine r_if ?_
  | with_reducible refine r_tup ?_
  | with_reducible refine r_lst ?_
  | with_reducible refine r_c ?_
  | with_reducible refine r_lc ?_
  | with_reducible refine r_chain ?_
  | with_reducible refine r_iT ?_
  | with_reducible refine r_iL ?_
  | with_reducible refine r_iR1 ?_
  | with_reducible refine r_asgG ?_
  | with_reducible refine r_gSub ?_
  | with_reducible refine r_for ?_
  | with_reducible refine r_smeth ?_
  | with_reducible refine r_par ?_
  | with_reducible refine r_parK ?_
  | with_reducible refine r_gCons ?_
  | with_reducible refine r_gNil ?_
  | with_reducible refine r_gName ?_
  | with_reducible refine r_intI ?_
  | with_reducible refine r_intB ?_
  | with_reducible refine r_absI ?_
  | with_reducible refine r_k ?_
  | with_reducible refine r_kV ?_
  | ((with_reducible show tVar _ _ _ _); refine r_var3 ?_ (by rfl))
  | with_reducible refine r_I0 ?_
  | with_reducible refine r_U ?_
  | with_reducible refine r_eqI ?_
  | with_reducible refine r_neI ?_
  | dsimp only)))
local macro_rules | `(tactic| walk_at "rx") => `(tactic| (repeat (first
  | with_reducible refine r_next ?_
  | with_reducible refine r_ret ?_
  | with_reducible refine r_ifS ?_
  | with_reducible refine r_asg ?_
  | with_reducible refine r_drop ?_
  | with_reducible refine r_op ?_
  | with_reducible refine r_un ?_
  | with_reducible refine r_cbInt ?_
  | with_reducible refine r_cbAbs ?_
  | with_reducible refine r_cbLen ?_
  | with_reducible refine r_cb ?_
  | with_reducible refine r_call ?_
  | with_reducible refine r_make ?_
  | with_reducible refine r_callN0 ?_
  | with_reducible refine r_makeK0 ?_
  | with_reducible refine r_makeS ?_
  | with_reducible refine r_callS ?_
  | with_reducible refine r_cons ?_
  | with_reducible refine r_nil ?_
  | with_reducible refine r_test ?_
  | with_reducible refine r_B ?_
  | with_reducible refine r_and ?_
  | with_reducible refine r_or ?_
  | with_reducible refine r_not ?_
  | with_reducible refine r_andV ?_
  | with_reducible refine r_orV ?_
  | with_reducible refine r_notV ?_
  | with_reducible refine r_if ?_
  | with_reducible refine r_tup ?_
  | with_reducible refine r_lst ?_
  | with_reducible refine r_c ?_
  | with_reducible refine r_lc ?_
  | with_reducible refine r_chain ?_
  | with_reducible refine r_iT ?_
  | with_reducible refine r_iL ?_
  | with_reducible refine r_iR1 ?_
  | with_reducible refine r_asgG ?_
  | with_reducible refine r_gSub ?_
  | with_reducible refine r_for ?_
  | with_reducible refine r_smeth ?_
  | with_reducible refine r_par ?_
  | with_reducible refine r_parK ?_
  | with_reducible refine r_gCons ?_
  | with_reducible refine r_gNil ?_
  | with_reducible refine r_gName ?_
  | with_reducible refine r_intI ?_
  | with_reducible refine r_intB ?_
  | with_reducible refine r_absI ?_
  | with_reducible refine r_k ?_
  | with_reducible refine r_kV ?_
  | ((with_reducible show tVar _ _ _ _); refine r_var3 ?_ (by rfl))
  | with_reducible refine r_I0 ?_
  | with_reducible refine r_U ?_
  | with_reducible refine r_eqI ?_
  | with_reducible refine r_neI ?_
  | dsimp only)))
theorem bu_ex {p : Addr} {H H0 H' : Hp} (e0 : Ex H H0) (hp : H p = none) (e : Bu p H0 H') : Ex H H' := fun a o h => e a o (ne_of_none h hp) (e0 a o h)
theorem put_own {H : Hp} {x dx : Addr} {o u : HO} (h1 : H x = none) (h2 : H dx = none) : Ex H (upd (upd H dx o) x u) := fun a v h => by
  rw [upd_ne (ne_of_none h h1), upd_ne (ne_of_none h h2)]
  exact h
/-- Poly(ns) -/
theorem r_Poly {K : PySem.W.Frag} {H : Hp} {Q : VK} {E : XK} {v : V} {ns : List Int} (hs : Sq H v (ns.map V.int)) (ok : okN ns) (q : ∀ p H', H p = none → Ex H H' → Pl K H' p ns → Q (.ref p) H') : mkK (He.ga K "Poly") (spPInit K) E Q [v] H := by
  intro x dx hx hd hn
  have e0 : Ex H (upd (upd H dx (.own x)) x (.ins (He.ga K "Poly") dx [])) := put_own hx hd
  refine ⟨x, dx, rfl, upd_same, .inl ⟨ns, hs.ex e0, Nat.le_trans ok.2.1 (by decide), fun _ t H' bu ht tn hi => ⟨rfl, ?_⟩, fun z => absurd ⟨ok.1, ok.2.1⟩ z, fun _ z => absurd ok.2.2 z⟩⟩
  exact q x H' hx (bu_ex e0 hx bu) ⟨ok.1, ok.2.1, ok.2.2, dx, t, hi, ht⟩
/-- a value of a built-in kind, or of another class -/
def No (K : PySem.W.Frag) (C : Str) (H : Hp) (v : V) : Prop := (∃ T ∈ tys, TyOf K H v (.type T)) ∨ ∃ a D dx fs, v = .ref a ∧ D ∈ owns ∧ D ≠ C ∧ H a = some (.ins (He.ga K D) dx fs)
theorem No.ex {K : PySem.W.Frag} {C : Str} {H H' : Hp} {v : V} (h : No K C H v) (e : Ex H H') : No K C H' v := by
  rcases h with ⟨T, hT, h⟩ | ⟨a, D, dx, fs, h1, h2, h3, h4⟩
  · exact .inl ⟨T, hT, TyOf.ex' h fun a _ o q => e a o q⟩
  · exact .inr ⟨a, D, dx, fs, h1, h2, h3, e _ _ h4⟩
/-- isinstance(v, C) is False -/
theorem no_not {K : PySem.W.Frag} {mg : Str → Option Value} {H : Hp} {v : V} {C : Str} (T : Txt K mg) (hC : C ∈ owns) (h : No K C H v) : ∃ t, TyX K H v t ∧ PySem.W.kitOne K t (.ref (He.ga K C)) = some false ∧ PySem.W.notFirst K (He.ga K C) t = true := by
  rcases h with ⟨T1, h1, h2⟩ | ⟨a, D, dx, fs, rfl, hD, ne, ha⟩
  · exact ⟨_, .base h2, ((own_facts T hC).2.ty T1 h1).1, ((own_facts T hC).2.ty T1 h1).2.2⟩
  · refine ⟨_, ty_own T hD ha, ?_⟩
    simp only [owns, List.mem_cons, List.mem_nil_iff, or_false] at hC hD
    rcases hC with rfl | rfl <;> rcases hD with rfl | rfl
    · exact absurd rfl ne
    · exact T.ot_Poly_Bound
    · exact T.ot_Bound_Poly
    · exact absurd rfl ne
def spNeedC (K : PySem.W.Frag) (C x : Str) : Sp := sp2 fun v z H Q E => ∃ s, z = .str s ∧ (((∃ a dx fs, v = .ref a ∧ H a = some (.ins (He.ga K C) dx fs)) ∧ Q v H) ∨ (No K C H v ∧ Raised K x "part" (.str s) H E))
theorem ok_need_poly {P : Program} {w : World} {K : PySem.W.Frag} {mg : Str → Option Value} {base : Heap} (T : Txt K mg) : ∃ fd, FnOk P w K mg base (L2.CX P w) 3 (He.ga K "need_poly") fd ["value", "part"] (spNeedC K "Poly" "BadPoly") ∧ Binds K fd ["value", "part"] [] := by
  obtain ⟨fd, F⟩ := T.d_need_poly
  obtain ⟨fd_BadPoly_init, F_BadPoly_init, B_BadPoly_init⟩ := ok_BadPoly_init (P := P) (w := w) (base := base) T
  refine ⟨fd, F.ok sc_need_poly sp2_len (fun cdv A outer s H vs Q E hr h => ?_), F.bindsN fun _ _ _ _ _ _ us hl => match us, hl with | [_, _], _ => rfl⟩
  have hr_BadPoly_init : Room 2 _ := hr.mono (by decide)
  obtain ⟨v, z, rfl, z', rfl, hh⟩ := sp2_is h
  refine ⟨_, (pss_cons (ps_if (pt_not (pt_val (pe_callB (cr_isi rfl) (by rfl) T.b_isinstance (by decide +kernel) (pa_cons (pv 0) (pa_cons (pe_glob (v := .ref (He.ga K "Poly")) rfl T.g_Poly rfl) pa_nil))))) (pss_one (ps_raise rfl (takes_of rfl rfl rfl rfl) (pmk_oex T.e_BadPoly.o T.e_BadPoly.i T.e_BadPoly.t F_BadPoly_init hr_BadPoly_init B_BadPoly_init .nil passL rfl T.g_BadPoly (pa_cons (pv 1) pa_nil)))) pss_nil)
      (pss_one (ps_ret (pv 0)))), ?_⟩
  walk_at "rd"
  rcases hh with ⟨⟨a, dx, fs, rfl, ha⟩, k⟩ | ⟨hb, k⟩
  · refine ⟨_, _, _, _, true, rfl, .own _, ty_own T (by decide) ha, T.cc_Poly.me, ?_⟩
    walk_at "rd"
    refine ite_f rfl ?_
    walk_at "rd"
    exact k
  · obtain ⟨t, ht, hk, _⟩ := no_not T (by decide) hb
    refine ⟨_, _, _, _, false, rfl, .own _, ht, hk, ?_⟩
    walk_at "rd"
    refine ite_t rfl ?_
    exact ⟨_, rfl, r_err rfl k⟩
theorem ok_need_bound {P : Program} {w : World} {K : PySem.W.Frag} {mg : Str → Option Value} {base : Heap} (T : Txt K mg) : ∃ fd, FnOk P w K mg base (L2.CX P w) 3 (He.ga K "need_bound") fd ["value", "part"] (spNeedC K "Bound" "BadBound") ∧ Binds K fd ["value", "part"] [] := by
  obtain ⟨fd, F⟩ := T.d_need_bound
  obtain ⟨fd_BadBound_init, F_BadBound_init, B_BadBound_init⟩ := ok_BadBound_init (P := P) (w := w) (base := base) T
  refine ⟨fd, F.ok sc_need_bound sp2_len (fun cdv A outer s H vs Q E hr h => ?_), F.bindsN fun _ _ _ _ _ _ us hl => match us, hl with | [_, _], _ => rfl⟩
  have hr_BadBound_init : Room 2 _ := hr.mono (by decide)
  obtain ⟨v, z, rfl, z', rfl, hh⟩ := sp2_is h
  refine ⟨_, (pss_cons (ps_if (pt_not (pt_val (pe_callB (cr_isi rfl) (by rfl) T.b_isinstance (by decide +kernel) (pa_cons (pv 0) (pa_cons (pe_glob (v := .ref (He.ga K "Bound")) rfl T.g_Bound rfl) pa_nil))))) (pss_one (ps_raise rfl (takes_of rfl rfl rfl rfl) (pmk_oex T.e_BadBound.o T.e_BadBound.i T.e_BadBound.t F_BadBound_init hr_BadBound_init B_BadBound_init .nil passL rfl T.g_BadBound (pa_cons (pv 1) pa_nil)))) pss_nil)
      (pss_one (ps_ret (pv 0)))), ?_⟩
  walk_at "rd"
  rcases hh with ⟨⟨a, dx, fs, rfl, ha⟩, k⟩ | ⟨hb, k⟩
  · refine ⟨_, _, _, _, true, rfl, .own _, ty_own T (by decide) ha, T.cc_Bound.me, ?_⟩
    walk_at "rd"
    refine ite_f rfl ?_
    walk_at "rd"
    exact k
  · obtain ⟨t, ht, hk, _⟩ := no_not T (by decide) hb
    refine ⟨_, _, _, _, false, rfl, .own _, ht, hk, ?_⟩
    walk_at "rd"
    refine ite_t rfl ?_
    exact ⟨_, rfl, r_err rfl k⟩

end K04
namespace K04
open PySem PySem.Spec PyProof.Rows L2 GS TL
local macro_rules | `(tactic| walk_at "rd") => `(tactic| (repeat (first
  | with_reducible refine r_next ?_
  | with_reducible refine r_seq ?_
  | with_reducible refine r_ret ?_
  | with_reducible refine r_ifS ?_
  | with_reducible refine r_asg ?_
  | with_reducible refine r_drop ?_
  | with_reducible refine r_op ?_
  | with_reducible refine r_un ?_
  | with_reducible refine r_cbInt ?_
  | with_reducible refine r_cbAbs ?_
  | with_reducible refine r_cbLen ?_
  | with_reducible refine r_cb ?_
  | with_reducible refine r_call ?_
  | with_reducible refine r_make ?_
  | with_reducible refine r_callN0 ?_
  | with_reducible refine r_makeK0 ?_
  | with_reducible refine r_makeS ?_
  | with_reducible refine r_callS ?_
  | with_reducible refine r_cons ?_
  | with_reducible refine r_nil ?_
  | with_reducible refine r_test ?_
  | with_reducible refine r_B ?_
  | with_reducible refine r_and ?_
  | with_reducible refine r_or ?_
  | with_reducible refine r_not ?_
  | with_reducible refine r_andV ?_
  | with_reducible refine r_orV ?_
  | with_reducible refine r_notV ?_
  | with_reducible refine r_if ?_
  | with_reducible refine r_tup ?_
  | with_reducible refine r_lst ?_
  | with_reducible refine r_c ?_
  | with_reducible refine r_lc ?_
  | with_reducible refine r_chain ?_
  | with_reducible refine r_iT ?_
  | with_reducible refine r_iL ?_
  | with_reducible refine r_iR1 ?_
  | with_reducible refine r_asgG ?_
  | with_reducible refine r_gSub ?_
  | with_reducible refine r_for ?_
  | with_reducible refine r_smeth ?_
  | with_reducible refine r_par ?_
  | with_reducible refine r_parK ?_
  | with_reducible refine r_gCons ?_
  | with_reducible refine r_gNil ?_
  | with_reducible refine r_gName ?_
  | with_reducible refine r_intI ?_
  | with_reducible refine r_intB ?_
  | with_reducible refine r_absI ?_
  | with_reducible refine r_k ?_
  | with_reducible refine r_kV ?_
  | ((with_reducible show tVar _ _ _ _); refine r_var3 ?_ (by rfl))
  | with_reducible refine r_I0 ?_
  | with_reducible refine r_U ?_
  | with_reducible refine r_eqI ?_
  | with_reducible refine r_neI ?_
  | dsimp only)))
local macro_rules | `(tactic| walk_at "rx") => `(tactic| (repeat (first
  | with_reducible refine r_next ?_
  | with_reducible refine r_ret ?_
  | with_reducible refine r_ifS ?_
  | with_reducible refine r_asg ?_
  | with_reducible refine r_drop ?_
  | with_reducible refine r_op ?_
  | with_reducible refine r_un ?_
  | with_reducible refine r_cbInt ?_
  | with_reducible refine r_cbAbs ?_
  | with_reducible refine r_cbLen ?_
  | with_reducible refine r_cb ?_
  | with_reducible refine r_call ?_
  | with_reducible refine r_make ?_
  | with_reducible refine r_callN0 ?_
  | with_reducible refine r_makeK0 ?_
  | with_reducible refine r_makeS ?_
  | with_reducible refine r_callS ?_
  | with_reducible refine r_cons ?_
  | with_reducible refine r_nil ?_
  | with_reducible refine r_test ?_
  | with_reducible refine r_B ?_
  | with_reducible refine r_and ?_
  | with_reducible refine r_or ?_
  | with_reducible refine r_not ?_
  | with_reducible refine r_andV ?_
  | with_reducible refine r_orV ?_
  | with_reducible refine r_notV ?_
  | with_reducible refine r_if ?_
  | with_reducible refine r_tup ?_
  | with_reducible refine r_lst ?_
  | with_reducible refine r_c ?_
  | with_reducible refine r_lc ?_
  | with_reducible refine r_chain ?_
  | with_reducible refine r_iT ?_
  | with_reducible refine r_iL ?_
  | with_reducible refine r_iR1 ?_
  | with_reducible refine r_asgG ?_
  | with_reducible refine r_gSub ?_
  | with_reducible refine r_for ?_
  | with_reducible refine r_smeth ?_
  | with_reducible refine r_par ?_
  | with_reducible refine r_parK ?_
  | with_reducible refine r_gCons ?_
  | with_reducible refine r_gNil ?_
  | with_reducible refine r_gName ?_
  | with_reducible refine r_intI ?_
  | with_reducible refine r_intB ?_
  | with_reducible refine r_absI ?_
  | with_reducible refine r_k ?_
  | with_reducible refine r_kV ?_
  | ((with_reducible show tVar _ _ _ _); refine r_var3 ?_ (by rfl))
  | with_reducible refine r_I0 ?_
  | with_reducible refine r_U ?_
  | with_reducible refine r_eqI ?_
  | with_reducible refine r_neI ?_
  | dsimp only)))
/-! ### Bound -/
def spBInit (K : PySem.W.Frag) : Sp := sp4 fun a x y z H Q E => ∃ p dx i j k, a = .ref p ∧ x = .int i ∧ y = .int j ∧ z = .int k ∧ 0 ≤ k ∧ H p = some (.ins (He.ga K "Bound") dx []) ∧ ∀ H', Bu p H H' → H' p = some (.ins (He.ga K "Bound") dx (bf i j k)) → Q .non H'
theorem ok_Bound_init {P : Program} {w : World} {K : PySem.W.Frag} {mg : Str → Option Value} {base : Heap} (T : Txt K mg) : ∃ fd, FnOk P w K mg base (L2.CX P w) 4 (He.ma K (He.ga K "Bound") "__init__") fd ["self", "whole", "part", "under"] (spBInit K) ∧ Binds K fd ["self", "whole", "part", "under"] [] := by
  obtain ⟨fd, F⟩ := T.d_Bound_init
  obtain ⟨fd_need_integer, F_need_integer, B_need_integer⟩ := ok_need_integer (P := P) (w := w) (base := base) T
  refine ⟨fd, F.ok sc_Bound_init sp4_len (fun cdv A outer s H vs Q E hr h => ?_), F.bindsN fun _ _ _ _ _ _ us hl => match us, hl with | [_, _, _, _], _ => rfl⟩
  have hr_need_integer : Room 3 _ := hr.mono (by decide)
  obtain ⟨a, x, y, z, rfl, p, dx, i, j, k, rfl, rfl, rfl, rfl, hk, hp, q⟩ := sp4_is h
  refine ⟨_, (pss_cons (ps_fld (pv 0) (pe_call F_need_integer hr_need_integer (by rfl) T.g_need_integer T.k_need_integer B_need_integer .nil (passes_call (takes_of rfl rfl rfl rfl) (fun _ _ _ _ h => h)) (pa_cons (pv 1) (pa_cons pe_str (pa_cons pe_non (pa_cons pe_non pa_nil))))) rfl)
      (pss_cons (ps_fld (pv 0) (pe_call F_need_integer hr_need_integer (by rfl) T.g_need_integer T.k_need_integer B_need_integer .nil (passes_call (takes_of rfl rfl rfl rfl) (fun _ _ _ _ h => h)) (pa_cons (pv 2) (pa_cons pe_str (pa_cons pe_non (pa_cons pe_non pa_nil))))) rfl)
      (pss_one (ps_fld (pv 0) (pe_call F_need_integer hr_need_integer (by rfl) T.g_need_integer T.k_need_integer B_need_integer .nil (passes_call (takes_of rfl rfl rfl rfl) (fun _ _ _ _ h => h)) (pa_cons (pv 3) (pa_cons pe_str (pa_cons pe_int (pa_cons pe_non pa_nil))))) rfl)))), ?_⟩
  refine ⟨_, rfl, kn_int i, none, none, _, rfl, rfl, rfl, fun c1 => ?_, fun c1 => by cases c1⟩
  refine ⟨_, rfl, p, _, dx, [], rfl, hp, T.cl_Bound, T.na_Bound_whole, by decide, ?_⟩
  refine ⟨_, rfl, kn_int j, none, none, _, rfl, rfl, rfl, fun c2 => ?_, fun c2 => by cases c2⟩
  refine ⟨_, rfl, p, _, dx, _, rfl, upd_same, T.cl_Bound, T.na_Bound_part, (by show 1 < 1000; decide), ?_⟩
  refine ⟨_, rfl, kn_int k, some 0, none, _, rfl, rfl, rfl, fun c3 => ?_, fun c3 => by simp [inB, loB, upB, hk] at c3⟩
  refine ⟨_, rfl, p, _, dx, _, rfl, upd_same, T.cl_Bound, T.na_Bound_under, (by show 2 < 1000; decide), ?_⟩
  refine q _ ((Bu.upd.trans Bu.upd).trans Bu.upd) ?_
  rw [upd_same]
  rfl
/-- Bound(i, j, k) -/
theorem r_Bound {K : PySem.W.Frag} {H : Hp} {Q : VK} {E : XK} {i j k : Int} (hk : 0 ≤ k) (q : ∀ p H', H p = none → Ex H H' → Bd K H' p i j k → Q (.ref p) H') :
    mkK (He.ga K "Bound") (spBInit K) E Q [.int i, .int j, .int k] H := by
  intro x dx hx hd hn
  refine ⟨x, dx, i, j, k, rfl, rfl, rfl, rfl, hk, upd_same, fun H' e hb => ⟨rfl, ?_⟩⟩
  exact q x H' hx (bu_ex (put_own hx hd) hx e) ⟨hk, dx, hb⟩
/-! ### TooMany -/
def spErr2 (K : PySem.W.Frag) (x f g : Str) : Sp := sp3 fun a v w H Q _ => ∃ e, a = .ref e ∧ H e = some (exo e (He.ga K x) none) ∧ ∀ dx, H dx = none → dx ≠ e → Q .non (upd (upd (upd H dx (exd dx [(f, v)])) e (exo e (He.ga K x) (some dx))) dx (exd dx [(g, w), (f, v)]))
def Raised2 (K : PySem.W.Frag) (x f g : Str) (v w : V) (H : Hp) (E : XK) : Prop := ∀ d H', Ex H H' → H' d = some (.xd [(g, w), (f, v)]) → E (.ref (He.ga K x)) (some d) H'
theorem r_err2 {K : PySem.W.Frag} {x f g : Str} {v w : V} {H : Hp} {E : XK} {vs : List V} (hv : vs = [v, w]) (q : Raised2 K x f g v w H E) : vs.length ≤ 1000 ∧ ∀ a, H a = none → spErr2 K x f g (.ref a :: (vs ++ [])) (upd H a (exo a (He.ga K x) none))
    (fun v H2 => v = .non ∧ ∃ (d : Addr) (fs : List (Str × V)), H2 a = some (exo a (He.ga K x) (some d)) ∧ H2 d = some (exd d fs) ∧ H d = none ∧ E (.ref (He.ga K x)) (some d) (upd (del H2 a) d (.xd fs))) (fun _ _ _ => False) := by
  subst hv
  refine ⟨by simp, fun a ha => ⟨a, rfl, upd_same, fun dx hd hne => ⟨rfl, dx, [(g, w), (f, v)], ?_, upd_same, ?_, ?_⟩⟩⟩
  · rw [upd_ne (Ne.symm hne), upd_same]
  · rw [upd_ne hne] at hd
    exact hd
  · rw [upd_ne hne] at hd
    refine q dx _ (fun b o hb => ?_) upd_same
    have n1 : b ≠ dx := ne_of_none hb hd
    have n2 : b ≠ a := ne_of_none hb ha
    rw [upd_ne n1, del_ne n2, upd_ne n1, upd_ne n2, upd_ne n1, upd_ne n2]
    exact hb
theorem ok_TooMany_init {P : Program} {w : World} {K : PySem.W.Frag} {mg : Str → Option Value} {base : Heap} (T : Txt K mg) : ∃ fd, FnOk P w K mg base (L2.CX P w) 1 (He.ma K (He.ga K "TooMany") "__init__") fd ["self", "what", "most"] (spErr2 K "TooMany" "what" "most") ∧ Binds K fd ["self", "what", "most"] [] := by
  obtain ⟨fd, F⟩ := T.d_TooMany_init
  refine ⟨fd, F.ok sc_TooMany_init sp3_len (fun cdv A outer s H vs Q E hr h => ?_), F.bindsN fun _ _ _ _ _ _ us hl => match us, hl with | [_, _, _], _ => rfl⟩
  obtain ⟨a, v, w', rfl, e, rfl, he, k⟩ := sp3_is h
  refine ⟨_, (pss_cons (ps_ost (pv 0) (pv 1))
      (pss_one (ps_ost (pv 0) (pv 2)))), ?_⟩
  refine ⟨_, rfl, _, rfl, e, _, rfl, T.e_TooMany.o, T.e_TooMany.no_ _ (by simp), .inl ⟨he, fun dx h1 h2 => ?_⟩⟩
  refine ⟨_, rfl, _, rfl, e, _, rfl, T.e_TooMany.o, T.e_TooMany.no_ _ (by simp), .inr ⟨dx, _, upd_same, ?_, by simp, k dx h1 h2⟩⟩
  rw [upd_ne h2, upd_same]
/-! ### rows of integers -/
theorem ints_kn {K : PySem.W.Frag} {H : Hp} {ns : List Int} : ∀ x ∈ ns.map V.int, Kn K H x := fun x hx => by
  obtain ⟨i, _, rfl⟩ := List.mem_map.mp hx
  exact kn_int i
theorem int_at {ns : List Int} {i : Nat} {x : V} (hx : (ns.map V.int)[i]? = some x) : ∃ n, ns[i]? = some n ∧ x = .int n := by
  rw [List.getElem?_map] at hx
  cases q : ns[i]? with
  | none => rw [q] at hx; cases hx
  | some n => rw [q] at hx; exact ⟨n, rfl, (Option.some.inj hx).symm⟩
theorem ints_all (ns : List Int) : (ns.map V.int).all isI = true := by rw [List.all_map]; exact List.all_eq_true.mpr fun _ _ => rfl
def spNeedInts (K : PySem.W.Frag) : Sp := sp2 fun v z H Q E => ∃ (a : Addr) (ns : List Int), v = .ref a ∧ SqT K H a (ns.map V.int) ∧ H a = some (.tup (ns.map V.int)) ∧ ns.length ≤ 50000 ∧ ∀ H', Ex H H' → Q v H'
theorem ok_need_integers {P : Program} {w : World} {K : PySem.W.Frag} {mg : Str → Option Value} {base : Heap} (T : Txt K mg) : ∃ fd, FnOk P w K mg base (L2.CX P w) 3 (He.ga K "need_integers") fd ["value", "part"] (spNeedInts K) ∧ Binds K fd ["value", "part"] [] := by
  obtain ⟨fd, F⟩ := T.d_need_integers
  obtain ⟨fd_are_integers, F_are_integers, B_are_integers⟩ := ok_are_integers (P := P) (w := w) (base := base) T
  obtain ⟨fd_BadNumber_init, F_BadNumber_init, B_BadNumber_init⟩ := ok_BadNumber_init (P := P) (w := w) (base := base) T
  refine ⟨fd, F.ok sc_need_integers sp2_len (fun cdv A outer s H vs Q E hr h => ?_), F.bindsN fun _ _ _ _ _ _ us hl => match us, hl with | [_, _], _ => rfl⟩
  have hr_are_integers : Room 2 _ := hr.mono (by decide)
  have hr_BadNumber_init : Room 2 _ := hr.mono (by decide)
  obtain ⟨v, z, rfl, a, ns, rfl, hs, ha, hl, k⟩ := sp2_is h
  refine ⟨_, (pss_cons (ps_if (pt_not (pt_val (pe_call F_are_integers hr_are_integers (by rfl) T.g_are_integers T.k_are_integers B_are_integers .nil passL (pa_cons (pv 0) pa_nil)))) (pss_one (ps_raise rfl (takes_of rfl rfl rfl rfl) (pmk_oex T.e_BadNumber.o T.e_BadNumber.i T.e_BadNumber.t F_BadNumber_init hr_BadNumber_init B_BadNumber_init .nil passL rfl T.g_BadNumber (pa_cons (pv 1) pa_nil)))) pss_nil)
      (pss_one (ps_ret (pe_callTy call_tuple_of (by rfl) T.b_tuple (by decide +kernel) (pa_cons (pv 0) pa_nil))))), ?_⟩
  walk_at "rd"
  refine .inl ⟨_, ⟨a, rfl, .inr ha⟩, by simpa using hl, ints_kn, fun H1 e1 => ?_⟩
  rw [ints_all]
  walk_at "rd"
  refine ite_f rfl ?_
  walk_at "rd"
  exact ⟨a, _, rfl, .inr ⟨e1.sqt hs, k H1 e1⟩⟩
def gcdL (ns : List Int) : Int := ns.foldl (fun d v => ((Nat.gcd d.natAbs v.natAbs : Nat) : Int)) 0
theorem foldl_take {α β : Type} (f : β → α → β) (b : β) (l : List α) {i : Nat} {a : α} (h : l[i]? = some a) : (l.take (i + 1)).foldl f b = f ((l.take i).foldl f b) a := by
  rw [List.take_add_one, h, List.foldl_append]
  rfl
def spCommon (K : PySem.W.Frag) : Sp := sp1 fun v H Q E => ∃ (a : Addr) (ns : List Int), v = .ref a ∧ H a = some (.tup (ns.map V.int)) ∧ ns.length ≤ 50000 ∧ ∀ H', Ex H H' → Q (.int (gcdL ns)) H'
theorem ok_common_divisor {P : Program} {w : World} {K : PySem.W.Frag} {mg : Str → Option Value} {base : Heap} (T : Txt K mg) : ∃ fd, FnOk P w K mg base (L2.CX P w) 4 (He.ga K "common_divisor") fd ["values"] (spCommon K) ∧ Binds K fd ["values"] [] := by
  obtain ⟨fd, F⟩ := T.d_common_divisor
  obtain ⟨fd_need_integers, F_need_integers, B_need_integers⟩ := ok_need_integers (P := P) (w := w) (base := base) T
  refine ⟨fd, F.ok sc_common_divisor sp1_len (fun cdv A outer s H vs Q E hr h => ?_), F.bindsN fun _ _ _ _ _ _ us hl => match us, hl with | [_], _ => rfl⟩
  have hr_need_integers : Room 3 _ := hr.mono (by decide)
  obtain ⟨v, rfl, a, ns, rfl, ha, hl, k⟩ := sp1_is h
  refine ⟨_, (pss_cons (ps_set (i := 1) sc_common_divisor.nd rfl (Or.inl rfl) pe_int)
      (pss_cons (ps_for (passes_of rfl) rfl (pi_tup (pe_call F_need_integers hr_need_integers (by rfl) T.g_need_integers T.k_need_integers B_need_integers .nil (passes_call (takes_of rfl rfl rfl rfl) (fun _ _ _ _ h => h)) (pa_cons (pv 0) (pa_cons pe_str pa_nil)))) (pg_name (i := 2) sc_common_divisor.nd rfl (Or.inl rfl)) (pss_one (ps_set (i := 1) sc_common_divisor.nd rfl (Or.inl rfl) (pe_callBfun cr_gcd (by rfl) T.i_gcd (pa_cons (pv 1) (pa_cons (pv 2) pa_nil))))))
      (pss_one (ps_ret (pv 1))))), ?_⟩
  walk_at "rd"
  refine ⟨a, ns, rfl, SqT.of ha, ha, hl, fun H1 e1 => ?_⟩
  have ha1 := e1 _ _ ha
  refine ⟨a, rfl, ⟨_, SqT.of ha1⟩, ?_⟩
  refine for_of (walk_tup (xs := ns.map V.int)) (fun i σ H => H = H1 ∧ ∃ x, σ = [some (.ref a), some (.int ((ns.take i).foldl (fun d v => ((Nat.gcd d.natAbs v.natAbs : Nat) : Int)) 0)), x]) ⟨rfl, none, rfl⟩ (fun i σ H _ p => by rw [p.1]; exact SqT.of ha1) ?_ ?_
  · rintro i x σ H2 H' hi ⟨rfl, y, rfl⟩ ⟨rfl, hx⟩
    obtain ⟨n, hn, rfl⟩ := int_at hx
    walk_at "rd"
    refine ⟨_, _, rfl, ?_⟩
    refine ⟨rfl, some (.int n), ?_⟩
    rw [foldl_take _ _ _ hn]
    rfl
  · rintro σ H2 ⟨rfl, y, rfl⟩
    walk_at "rd"
    rw [List.length_map, List.take_length]
    exact k _ e1
/-! ### fields of a Poly -/
section
variable {K : PySem.W.Frag} {mg : Str → Option Value} {H : Hp} {σ : L2.St} {n : Nat} {a : Addr} {ns : List Int} {Q : VK}
theorem r_fn (T : Txt K mg) (h : Pl K H a ns) (q : ∀ t, H t = some (.tup (ns.map V.int)) → Q (.ref t) H) (hs : σ[n]? = some (some (.ref a)) := by rfl) : tFld K (tVar n) "numbers" σ H Q := by
  obtain ⟨_, _, _, dx, t, h, ht⟩ := h
  exact ⟨_, hs, a, _, dx, _, _, rfl, h, T.cl_Poly, T.na_Poly_numbers, rfl, q t ht⟩
theorem r_fd (T : Txt K mg) (h : Pl K H a ns) (q : Q (.int ((ns.length : Int) - 1)) H) (hs : σ[n]? = some (some (.ref a)) := by rfl) : tFld K (tVar n) "degree" σ H Q := by
  obtain ⟨_, _, _, dx, t, h, ht⟩ := h
  exact ⟨_, hs, a, _, dx, _, _, rfl, h, T.cl_Poly, T.na_Poly_degree, rfl, q⟩
theorem r_bw (T : Txt K mg) {w p u : Int} (h : Bd K H a w p u) (q : Q (.int w) H) (hs : σ[n]? = some (some (.ref a)) := by rfl) : tFld K (tVar n) "whole" σ H Q := by
  obtain ⟨_, dx, h⟩ := h
  exact ⟨_, hs, a, _, dx, _, _, rfl, h, T.cl_Bound, T.na_Bound_whole, rfl, q⟩
theorem r_bp (T : Txt K mg) {w p u : Int} (h : Bd K H a w p u) (q : Q (.int p) H) (hs : σ[n]? = some (some (.ref a)) := by rfl) : tFld K (tVar n) "part" σ H Q := by
  obtain ⟨_, dx, h⟩ := h
  exact ⟨_, hs, a, _, dx, _, _, rfl, h, T.cl_Bound, T.na_Bound_part, rfl, q⟩
theorem r_bu (T : Txt K mg) {w p u : Int} (h : Bd K H a w p u) (q : Q (.int u) H) (hs : σ[n]? = some (some (.ref a)) := by rfl) : tFld K (tVar n) "under" σ H Q := by
  obtain ⟨_, dx, h⟩ := h
  exact ⟨_, hs, a, _, dx, _, _, rfl, h, T.cl_Bound, T.na_Bound_under, rfl, q⟩
end
theorem Pl.inst {K : PySem.W.Frag} {H : Hp} {a : Addr} {ns : List Int} (h : Pl K H a ns) : ∃ dx fs, H a = some (.ins (He.ga K "Poly") dx fs) := let ⟨_, _, _, dx, _, h, _⟩ := h; ⟨dx, _, h⟩
/-! ### == -/
def spPEq (K : PySem.W.Frag) : Sp := sp2 fun v o H Q E => ∃ a ns, v = .ref a ∧ Pl K H a ns ∧ ((∃ b ms, o = .ref b ∧ Pl K H b ms ∧ Q (.bl (decide (ns = ms))) H) ∨ (No K "Poly" H o ∧ Q (.bl false) H))
theorem ok_Poly_eq {P : Program} {w : World} {K : PySem.W.Frag} {mg : Str → Option Value} {base : Heap} (T : Txt K mg) : ∃ fd, FnOk P w K mg base (L2.CX P w) 1 (He.ma K (He.ga K "Poly") "__eq__") fd ["self", "other"] (spPEq K) ∧ Binds K fd ["self", "other"] [] := by
  obtain ⟨fd, F⟩ := T.d_Poly_eq
  refine ⟨fd, F.ok sc_Poly_eq sp2_len (fun cdv A outer s H vs Q E hr h => ?_), F.bindsN fun _ _ _ _ _ _ us hl => match us, hl with | [_, _], _ => rfl⟩
  obtain ⟨v, o, rfl, a, ns, rfl, ha, hh⟩ := sp2_is h
  refine ⟨_, (pss_one (ps_ret (pe_and (pe_callB (cr_isi rfl) (by rfl) T.b_isinstance (by decide +kernel) (pa_cons (pv 1) (pa_cons (pe_glob (v := .ref (He.ga K "Poly")) rfl T.g_Poly rfl) pa_nil))) (pe_one (pe_cmpR (op_eqD hr.units) (kx_fld rfl (pv 0) rfl) (kx_fld rfl (pv 1) rfl) (nomark _)))))), ?_⟩
  walk_at "rd"
  rcases hh with ⟨b, ms, rfl, hb, k⟩ | ⟨hb, k⟩
  · obtain ⟨dx, fs, hi⟩ := hb.inst
    refine ⟨_, _, _, _, true, rfl, .own _, ty_own T (by decide) hi, T.cc_Poly.me, ?_⟩
    walk_at "rd"
    refine ite_t rfl ?_
    walk_at "rd"
    refine r_fn T ha fun t1 h1 => ?_
    refine r_fn T hb fun t2 h2 => ?_
    exact r_eqInts h1 h2 k
  · obtain ⟨t, ht, hk, _⟩ := no_not T (by decide) hb
    refine ⟨_, _, _, _, false, rfl, .own _, ht, hk, ?_⟩
    walk_at "rd"
    exact ite_f rfl k
/-! ### worth -/
def spWorth (K : PySem.W.Frag) : Sp := sp2 fun v x H Q E => ∃ a ns, v = .ref a ∧ Pl K H a ns ∧ ((∃ i, x = .int i ∧ Z 100 i ∧ (∀ c ∈ ns, Z 200 c) ∧ Q (.int (GM.ev ns i)) H) ∨ (Kn K H x ∧ isI x = false ∧ Raised K "BadNumber" "part" (.str "x") H E))
theorem hor_size {i : Int} (hi : Z 100 i) : ∀ (l : List Int), (∀ c ∈ l, Z 200 c) → l.length ≤ 64 → Z (201 + 101 * l.length) (GM.hor i 0 l) := by
  intro l
  induction hn : l.length generalizing l with
  | zero =>
    intro _ _
    rw [List.length_eq_zero_iff.mp hn]
    show (0 : Int).natAbs < 2 ^ _
    exact Nat.pow_pos (by decide)
  | succ n ih =>
    intro h hl
    rcases List.eq_nil_or_concat l with rfl | ⟨as, a, rfl⟩
    · cases hn
    simp only [List.concat_eq_append] at *
    have hn' : as.length = n := by simpa using hn
    have z := ih as hn' (fun c m => h c (by simp [m])) (by omega)
    have e : GM.hor i 0 (as ++ [a]) = GM.hor i 0 as * i + a := by simp [GM.hor]
    rw [e]
    exact ((z.mul hi).add ((h a (by simp)).mono (by omega))).mono (by omega)
theorem ok_Poly_worth {P : Program} {w : World} {K : PySem.W.Frag} {mg : Str → Option Value} {base : Heap} (T : Txt K mg) : ∃ fd, FnOk P w K mg base (L2.CX P w) 4 (He.ma K (He.ga K "Poly") "worth") fd ["self", "x"] (spWorth K) ∧ Binds K fd ["self", "x"] [] ∧ KBn K fd ["self", "x"] 1 ["x"] (pm [0, 1]) (pm [0, 1]) := by
  obtain ⟨fd, F⟩ := T.d_Poly_worth
  obtain ⟨fd_need_integer, F_need_integer, B_need_integer⟩ := ok_need_integer (P := P) (w := w) (base := base) T
  refine ⟨fd, F.ok sc_Poly_worth sp2_len (fun cdv A outer s H vs Q E hr h => ?_), F.bindsN fun _ _ _ _ _ _ us hl => match us, hl with | [_, _], _ => rfl, kb_of F 1 ["x"] [0, 1] (fun _ _ _ _ _ _ us ws h1 h2 => match us, ws, h1, h2 with | [_], [_], _, _ => rfl)⟩
  have hr_need_integer : Room 3 _ := hr.mono (by decide)
  obtain ⟨v, x, rfl, a, ns, rfl, ha, hh⟩ := sp2_is h
  refine ⟨_, (pss_cons (ps_expr (pe_call F_need_integer hr_need_integer (by rfl) T.g_need_integer T.k_need_integer B_need_integer .nil (passes_call (takes_of rfl rfl rfl rfl) (fun _ _ _ _ h => h)) (pa_cons (pv 1) (pa_cons pe_str (pa_cons pe_non (pa_cons pe_non pa_nil))))))
      (pss_cons (ps_set (i := 2) sc_Poly_worth.nd rfl (Or.inl rfl) pe_int)
      (pss_cons (ps_for (passes_of rfl) rfl (pi_tup (kx_fld rfl (pv 0) rfl)) (pg_name (i := 3) sc_Poly_worth.nd rfl (Or.inl rfl)) (pss_one (ps_set (i := 2) sc_Poly_worth.nd rfl (Or.inl rfl) (pe_op op_add (pe_op op_mulW (pv 2) (pv 1)) (pv 3)))))
      (pss_one (ps_ret (pv 2)))))), ?_⟩
  walk_at "rd"
  rcases hh with ⟨i, rfl, hi, hz, k⟩ | ⟨kx, hx, k⟩
  · refine ⟨kn_int i, none, none, _, rfl, rfl, rfl, fun _ => ?_, fun c => by cases c⟩
    walk_at "rd"
    refine r_fn T ha fun t ht => ?_
    refine ⟨t, rfl, ⟨_, SqT.of ht⟩, ?_⟩
    refine for_of (walk_tup (xs := ns.map V.int)) (fun j σ H' => H' = H ∧ ∃ y, σ = [some (.ref a), some (.int i), some (.int (GM.hor i 0 (ns.take j))), y]) ⟨rfl, none, rfl⟩ (fun i σ H _ p => by rw [p.1]; exact SqT.of ht) ?_ ?_
    · rintro j x σ H2 H' hj ⟨rfl, y, rfl⟩ ⟨rfl, hx⟩
      obtain ⟨n, hn, rfl⟩ := int_at hx
      walk_at "rd"
      have l64 : ns.length ≤ 64 := ha.2.1
      have zz := hor_size hi (ns.take j) (fun c m => hz c (List.mem_of_mem_take m)) (by simp; omega)
      refine r_I (mulOk (zz.mono (show _ ≤ 7000 by simp only [List.length_take]; omega)) hi (by decide) (by decide) (by decide)) ?_
      walk_at "rd"
      refine ⟨rfl, some (.int n), ?_⟩
      have e : GM.hor i 0 (ns.take (j + 1)) = GM.hor i 0 (ns.take j) * i + n := foldl_take _ _ _ hn
      rw [e]
      rfl
    · rintro σ H2 ⟨rfl, y, rfl⟩
      walk_at "rd"
      rw [List.length_map, List.take_length]
      have e := GM.hor_ev i ns 0
      rw [Int.zero_mul, Int.zero_add] at e
      rw [e]
      exact k
  · refine ⟨kx, none, none, _, rfl, rfl, rfl, fun c => ?_, fun c => k⟩
    have : inB x none none = isI x := by cases x <;> rfl
    rw [this, hx] at c
    cases c

end K04
namespace K04
open PySem PySem.Spec PyProof.Rows L2 GS TL
local macro_rules | `(tactic| walk_at "rd") => `(tactic| (repeat (first
  | with_reducible refine r_next ?_
  | with_reducible refine r_seq ?_
  | with_reducible refine r_ret ?_
  | with_reducible refine r_ifS ?_
  | with_reducible refine r_asg ?_
  | with_reducible refine r_drop ?_
  | with_reducible refine r_op ?_
  | with_reducible refine r_un ?_
  | with_reducible refine r_cbInt ?_
  | with_reducible refine r_cbAbs ?_
  | with_reducible refine r_cbLen ?_
  | with_reducible refine r_cb ?_
  | with_reducible refine r_call ?_
  | with_reducible refine r_make ?_
  | with_reducible refine r_callN0 ?_
  | with_reducible refine r_makeK0 ?_
  | with_reducible refine r_makeS ?_
  | with_reducible refine r_callS ?_
  | with_reducible refine r_cons ?_
  | with_reducible refine r_nil ?_
  | with_reducible refine r_test ?_
  | with_reducible refine r_B ?_
  | with_reducible refine r_and ?_
  | with_reducible refine r_or ?_
  | with_reducible refine r_not ?_
  | with_reducible refine r_andV ?_
  | with_reducible refine r_orV ?_
  | with_reducible refine r_notV ?_
  | with_reducible refine r_if ?_
  | with_reducible refine r_tup ?_
  | with_reducible refine r_lst ?_
  | with_reducible refine r_c ?_
  | with_reducible refine r_lc ?_
  | with_reducible refine r_chain ?_
  | with_reducible refine r_iT ?_
  | with_reducible refine r_iL ?_
  | with_reducible refine r_iR1 ?_
  | with_reducible refine r_asgG ?_
  | with_reducible refine r_gSub ?_
  | with_reducible refine r_for ?_
  | with_reducible refine r_smeth ?_
  | with_reducible refine r_par ?_
  | with_reducible refine r_parK ?_
  | with_reducible refine r_gCons ?_
  | with_reducible refine r_gNil ?_
  | with_reducible refine r_gName ?_
  | with_reducible refine r_intI ?_
  | with_reducible refine r_intB ?_
  | with_reducible refine r_absI ?_
  | with_reducible refine r_k ?_
  | with_reducible refine r_kV ?_
  | ((with_reducible show tVar _ _ _ _); refine r_var3 ?_ (by rfl))
  | with_reducible refine r_I0 ?_
  | with_reducible refine r_U ?_
  | with_reducible refine r_eqI ?_
  | with_reducible refine r_neI ?_
  | dsimp only)))
local macro_rules | `(tactic| walk_at "rx") => `(tactic| (repeat (first
  | with_reducible refine r_next ?_
  | with_reducible refine r_ret ?_
  | with_reducible refine r_ifS ?_
  | with_reducible refine r_asg ?_
  | with_reducible refine r_drop ?_
  | with_reducible refine r_op ?_
  | with_reducible refine r_un ?_
  | with_reducible refine r_cbInt ?_
  | with_reducible refine r_cbAbs ?_
  | with_reducible refine r_cbLen ?_
  | with_reducible refine r_cb ?_
  | with_reducible refine r_call ?_
  | with_reducible refine r_make ?_
  | with_reducible refine r_callN0 ?_
  | with_reducible refine r_makeK0 ?_
  | with_reducible refine r_makeS ?_
  | with_reducible refine r_callS ?_
  | with_reducible refine r_cons ?_
  | with_reducible refine r_nil ?_
  | with_reducible refine r_test ?_
  | with_reducible refine r_B ?_
  | with_reducible refine r_and ?_
  | with_reducible refine r_or ?_
  | with_reducible refine r_not ?_
  | with_reducible refine r_andV ?_
  | with_reducible refine r_orV ?_
  | with_reducible refine r_notV ?_
  | with_reducible refine r_if ?_
  | with_reducible refine r_tup ?_
  | with_reducible refine r_lst ?_
  | with_reducible refine r_c ?_
  | with_reducible refine r_lc ?_
  | with_reducible refine r_chain ?_
  | with_reducible refine r_iT ?_
  | with_reducible refine r_iL ?_
  | with_reducible refine r_iR1 ?_
  | with_reducible refine r_asgG ?_
  | with_reducible refine r_gSub ?_
  | with_reducible refine r_for ?_
  | with_reducible refine r_smeth ?_
  | with_reducible refine r_par ?_
  | with_reducible refine r_parK ?_
  | with_reducible refine r_gCons ?_
  | with_reducible refine r_gNil ?_
  | with_reducible refine r_gName ?_
  | with_reducible refine r_intI ?_
  | with_reducible refine r_intB ?_
  | with_reducible refine r_absI ?_
  | with_reducible refine r_k ?_
  | with_reducible refine r_kV ?_
  | ((with_reducible show tVar _ _ _ _); refine r_var3 ?_ (by rfl))
  | with_reducible refine r_I0 ?_
  | with_reducible refine r_U ?_
  | with_reducible refine r_eqI ?_
  | with_reducible refine r_neI ?_
  | dsimp only)))
/-! ### loops over rows of integers -/
section
variable {K : PySem.W.Frag} {ns : List Int} {a : Addr} {g1 g2 : Nat} {tb : TS} {D : Ends} {σ : L2.St} {H : Hp}
theorem SqT.ints {K : PySem.W.Frag} {H : Hp} {a : Addr} {xs : List V} (h : H a = some (.tup xs)) : SqT K H a xs := SqT.of h
theorem for_enT (Pv : Nat → L2.St → Hp → Prop) (h0 : Pv 0 σ H) (hG : ∀ i σ H, i ≤ ns.length → Pv i σ H → H a = some (.tup (ns.map V.int)))
    (hs : ∀ i n σ H H', ns[i]? = some n → Pv i σ H → Ex H H' → tb { D with nx := Pv (i + 1), ct := Pv (i + 1), bk := D.nx } ((σ.set g1 (some (.int (i : Nat)))).set g2 (some (.int n))) H') (hd : ∀ σ H, Pv ns.length σ H → D.nx σ H) :
    forB (IteT K a) (gTup K 2 (gCons (gName g1) (gCons (gName g2) gNil))) tb D σ H := by
  refine for_of (walk_enumT (xs := ns.map V.int)) Pv h0 (fun i σ H hi p => SqT.of (hG i σ H (by simpa using hi) p)) ?_ (by rw [List.length_map]; exact hd)
  rintro i x σ H H' hi p ⟨T, x1, x2, rfl, hT, rfl, e1, e2⟩
  cases e1
  obtain ⟨n, hn, rfl⟩ := int_at e2
  exact r_gTup upd_same rfl (r_gCons (r_gName (r_gCons (r_gName (r_gNil (hs i n σ H _ hn p (Ex.new hT)))))))
theorem for_enL (Pv : Nat → L2.St → Hp → Prop) (h0 : Pv 0 σ H) (hG : ∀ i σ H, i ≤ ns.length → Pv i σ H → H a = some (.lst (ns.map V.int)))
    (hs : ∀ i n σ H H', ns[i]? = some n → Pv i σ H → Ex H H' → tb { D with nx := Pv (i + 1), ct := Pv (i + 1), bk := D.nx } ((σ.set g1 (some (.int (i : Nat)))).set g2 (some (.int n))) H') (hd : ∀ σ H, Pv ns.length σ H → D.nx σ H) :
    forB (Ite K a) (gTup K 2 (gCons (gName g1) (gCons (gName g2) gNil))) tb D σ H := by
  refine for_of (walk_enum (xs := ns.map V.int)) Pv h0 (fun i σ H hi p => SqL.of (hG i σ H (by simpa using hi) p)) ?_ (by rw [List.length_map]; exact hd)
  rintro i x σ H H' hi p ⟨T, x1, x2, rfl, hT, rfl, e1, e2⟩
  cases e1
  obtain ⟨n, hn, rfl⟩ := int_at e2
  exact r_gTup upd_same rfl (r_gCons (r_gName (r_gCons (r_gName (r_gNil (hs i n σ H _ hn p (Ex.new hT)))))))
theorem for_tI (Pv : Nat → L2.St → Hp → Prop) (h0 : Pv 0 σ H) (hG : ∀ i σ H, i ≤ ns.length → Pv i σ H → H a = some (.tup (ns.map V.int)))
    (hs : ∀ i n σ H, ns[i]? = some n → Pv i σ H → tb { D with nx := Pv (i + 1), ct := Pv (i + 1), bk := D.nx } (σ.set g1 (some (.int n))) H) (hd : ∀ σ H, Pv ns.length σ H → D.nx σ H) :
    forB (Itt K a) (gName g1) tb D σ H := by
  refine for_of (walk_tup (xs := ns.map V.int)) Pv h0 (fun i σ H hi p => SqT.of (hG i σ H (by simpa using hi) p)) ?_ (by rw [List.length_map]; exact hd)
  rintro i x σ H H' hi p ⟨rfl, e2⟩
  obtain ⟨n, hn, rfl⟩ := int_at e2
  exact hs i n σ H' hn p
theorem for_lI (Pv : Nat → L2.St → Hp → Prop) (h0 : Pv 0 σ H) (hG : ∀ i σ H, i ≤ ns.length → Pv i σ H → H a = some (.lst (ns.map V.int)))
    (hs : ∀ i n σ H, ns[i]? = some n → Pv i σ H → tb { D with nx := Pv (i + 1), ct := Pv (i + 1), bk := D.nx } (σ.set g1 (some (.int n))) H) (hd : ∀ σ H, Pv ns.length σ H → D.nx σ H) :
    forB (Itl K a) (gName g1) tb D σ H := by
  refine for_of (walk_list (xs := ns.map V.int)) Pv h0 (fun i σ H hi p => SqL.of (hG i σ H (by simpa using hi) p)) ?_ (by rw [List.length_map]; exact hd)
  rintro i x σ H H' hi p ⟨rfl, e2⟩
  obtain ⟨n, hn, rfl⟩ := int_at e2
  exact hs i n σ H' hn p
theorem r_iEnT {ta : TA} {R : It → Hp → Prop} (q : ta σ H fun vs H1 => ∃ a xs, vs = [.ref a] ∧ SqT K H1 a xs ∧ R (IteT K a) H1) : iEnumT K ta σ H R := q
theorem r_iEnL {ta : TA} {R : It → Hp → Prop} (q : ta σ H fun vs H1 => ∃ a xs, vs = [.ref a] ∧ SqL K H1 a xs ∧ R (Ite K a) H1) : iEnum K ta σ H R := q
theorem r_augS {to ti te : TE} {tget : V → V → Hp → VK → Prop} {tip : TIp} {tset : TSet} (q : to σ H fun o H1 => ti σ H1 fun i H2 => tget o i H2 fun x H3 => te σ H3 fun y H4 => tip x y H4 fun z H5 => tset o i z H5 fun H6 => D.nx σ H6) : tAugS to ti te tget tip tset D σ H := q
end
theorem ixN_nat {n j : Nat} (h : j < n) : ixN n ((j : Nat) : Int) = some j := by
  unfold ixN
  rw [if_pos (Int.natCast_nonneg j), if_pos (by omega), Int.toNat_natCast]
theorem rep_ints (k : Nat) : List.replicate k (V.int 0) = (GM.zr k).map V.int := by simp [GM.zr]
theorem set_ints (l : List Int) (j : Nat) (v : Int) : (l.map V.int).set j (.int v) = (l.set j v).map V.int := by rw [List.map_set]
theorem Bu.ins {K : PySem.W.Frag} {H H' : Hp} {p a : Addr} {ns xs : List Int} (h : Pl K H a ns) (b : Bu p H H') (hp : H p = some (.lst (xs.map V.int))) : Pl K H' a ns := by
  obtain ⟨h1, h2, h3, dx, t, h4, h5⟩ := h
  refine ⟨h1, h2, h3, dx, t, b _ _ ?_ h4, b _ _ ?_ h5⟩
  · rintro rfl; rw [hp] at h4; cases h4
  · rintro rfl; rw [hp] at h5; cases h5
theorem rep_flat (m : Nat) : (List.replicate m [V.int 0]).flatten = List.replicate m (V.int 0) := by
  induction m with
  | zero => rfl
  | succ m ih => rw [List.replicate_succ, List.flatten_cons, ih, List.replicate_succ]; rfl
theorem r_zeros {H : Hp} {Q : VK} {q : Addr} {k : Int} {m : Nat} (h : H q = some (.lst [.int 0])) (hk : k = (m : Nat)) (hm : m ≤ 1000) (g : ∀ p H', H p = none → Ex H H' → H' p = some (.lst ((GM.zr m).map V.int)) → Q (.ref p) H') : rRep (.ref q) (.int k) H Q := by
  subst hk
  refine ⟨q, m, [.int 0], rfl, rfl, h, by omega, by omega, sz_le (by simp; omega), fun p hp => g p _ hp (Ex.new hp) ?_⟩
  rw [upd_same, Int.toNat_natCast, rep_flat, rep_ints]
theorem Pl.bu {K : PySem.W.Frag} {H H' : Hp} {p a : Addr} {ns xs : List Int} (h : Pl K H a ns) (b : Bu p H H') (hp : H p = some (.lst (xs.map V.int))) : Pl K H' a ns := Bu.ins h b hp
/-! ### times -/
def spTimes (K : PySem.W.Frag) : Sp := sp2 fun v w H Q E => (No K "Poly" H v ∧ Raised K "BadPoly" "part" (.str "one") H E) ∨
  ∃ a ns, v = .ref a ∧ Pl K H a ns ∧ ((No K "Poly" H w ∧ Raised K "BadPoly" "part" (.str "other") H E) ∨
  ∃ b ms, w = .ref b ∧ Pl K H b ms ∧ ((65 < ns.length + ms.length ∧ Raised2 K "TooMany" "what" "most" (.str "numbers") (.int 64) H E) ∨
  (ns.length + ms.length ≤ 65 ∧ (∀ c ∈ ns, Z 200 c) ∧ (∀ c ∈ ms, Z 200 c) ∧ ∀ p H', H p = none → Ex H H' → Pl K H' p (GM.mulH ns ms) → Q (.ref p) H')))
theorem okN.mul {ns ms : List Int} (h1 : okN ns) (h2 : okN ms) (h : ns.length + ms.length ≤ 65) : okN (GM.mulH ns ms) := by
  obtain ⟨a1, a2, a3⟩ := h1
  obtain ⟨b1, b2, b3⟩ := h2
  have ne : ms ≠ [] := fun z => by simp [z] at b1
  refine ⟨by rw [GM.mulH_len ne]; omega, by rw [GM.mulH_len ne]; omega, ?_⟩
  cases ns with
  | nil => simp at a1
  | cons n ns =>
    cases ms with
    | nil => simp at b1
    | cons m ms =>
      rw [GM.mulH_head]
      exact Int.mul_pos a3 b3
theorem Pl.ok {K : PySem.W.Frag} {H : Hp} {a : Addr} {ns : List Int} (h : Pl K H a ns) : okN ns := ⟨h.1, h.2.1, h.2.2.1⟩
theorem ok_times {P : Program} {w : World} {K : PySem.W.Frag} {mg : Str → Option Value} {base : Heap} (T : Txt K mg) : ∃ fd, FnOk P w K mg base (L2.CX P w) 5 (He.ga K "times") fd ["one", "other"] (spTimes K) ∧ Binds K fd ["one", "other"] [] ∧ KBn K fd ["one", "other"] 0 ["other", "one"] (pm [1, 0]) (pm [1, 0]) := by
  obtain ⟨fd, F⟩ := T.d_times
  obtain ⟨fd_Poly_init, F_Poly_init, B_Poly_init, kb_Poly_init_0⟩ := ok_Poly_init (P := P) (w := w) (base := base) T
  obtain ⟨fd_TooMany_init, F_TooMany_init, B_TooMany_init⟩ := ok_TooMany_init (P := P) (w := w) (base := base) T
  obtain ⟨fd_need_poly, F_need_poly, B_need_poly⟩ := ok_need_poly (P := P) (w := w) (base := base) T
  refine ⟨fd, F.ok sc_times sp2_len (fun cdv A outer s H vs Q E hr h => ?_), F.bindsN fun _ _ _ _ _ _ us hl => match us, hl with | [_, _], _ => rfl, kb_of F 0 ["other", "one"] [1, 0] (fun _ _ _ _ _ _ us ws h1 h2 => match us, ws, h1, h2 with | [], [_, _], _, _ => rfl)⟩
  have hr_Poly_init : Room 4 _ := hr.mono (by decide)
  have hr_TooMany_init : Room 2 _ := hr.mono (by decide)
  have hr_need_poly : Room 3 _ := hr.mono (by decide)
  obtain ⟨v, w', rfl, hh⟩ := sp2_is h
  refine ⟨_, (pss_cons (ps_expr (pe_call F_need_poly hr_need_poly (by rfl) T.g_need_poly T.k_need_poly B_need_poly .nil (passes_call (takes_of rfl rfl rfl rfl) (fun _ _ _ _ h => h)) (pa_cons (pv 0) (pa_cons pe_str pa_nil))))
      (pss_cons (ps_expr (pe_call F_need_poly hr_need_poly (by rfl) T.g_need_poly T.k_need_poly B_need_poly .nil (passes_call (takes_of rfl rfl rfl rfl) (fun _ _ _ _ h => h)) (pa_cons (pv 1) (pa_cons pe_str pa_nil))))
      (pss_cons (ps_set (i := 2) sc_times.nd rfl (Or.inl rfl) (pe_op op_add (pe_op op_add (kx_fld rfl (pv 0) rfl) (kx_fld rfl (pv 1) rfl)) pe_int))
      (pss_cons (ps_if (pt_cmpR op_gt (pv 2) (pe_gint rfl T.c_MOST_NUMBERS) (nomark _)) (pss_one (ps_raise rfl (takes_of rfl rfl rfl rfl) (pmk_oex T.e_TooMany.o T.e_TooMany.i T.e_TooMany.t F_TooMany_init hr_TooMany_init B_TooMany_init .nil passL rfl T.g_TooMany (pa_cons pe_str (pa_cons (pe_gint rfl T.c_MOST_NUMBERS) pa_nil))))) pss_nil)
      (pss_cons (ps_set (i := 3) sc_times.nd rfl (Or.inl rfl) (pe_op op_rep (pe_lst (pa_cons pe_int pa_nil)) (pv 2)))
      (pss_cons (ps_for (passes_of rfl) rfl (pi_enumT (by rfl) T.b_enumerate (pa_cons (kx_fld rfl (pv 0) rfl) pa_nil)) (pg_tup rfl (pgs_cons (pg_name (i := 4) sc_times.nd rfl (Or.inl rfl)) (pgs_cons (pg_name (i := 5) sc_times.nd rfl (Or.inl rfl)) pgs_nil))) (pss_one (ps_for (passes_of rfl) rfl (pi_enumT (by rfl) T.b_enumerate (pa_cons (kx_fld rfl (pv 1) rfl) pa_nil)) (pg_tup rfl (pgs_cons (pg_name (i := 6) sc_times.nd rfl (Or.inl rfl)) (pgs_cons (pg_name (i := 7) sc_times.nd rfl (Or.inl rfl)) pgs_nil))) (pss_one (ps_augS (pv 3) (pe_op op_add (pv 4) (pv 6)) pget_list (pe_op op_mulW (pv 5) (pv 7)) ip_add set_list)))))
      (pss_one (ps_ret (pe_make T.mk_Poly F_Poly_init hr_Poly_init (by rfl) T.g_Poly B_Poly_init .nil (passes_call (takes_of rfl rfl rfl rfl) (fun _ _ _ _ h => h)) (pa_cons (pv 3) pa_nil)))))))))), ?_⟩
  walk_at "rd"
  rcases hh with ⟨no, k⟩ | ⟨a, ns, rfl, ha, hh⟩
  · exact ⟨_, rfl, .inr ⟨no, k⟩⟩
  obtain ⟨dx, fs, hi⟩ := ha.inst
  refine ⟨_, rfl, .inl ⟨⟨_, _, _, rfl, hi⟩, ?_⟩⟩
  walk_at "rd"
  rcases hh with ⟨no, k⟩ | ⟨b, ms, rfl, hb, hh⟩
  · exact ⟨_, rfl, .inr ⟨no, k⟩⟩
  obtain ⟨dx2, fs2, hi2⟩ := hb.inst
  refine ⟨_, rfl, .inl ⟨⟨_, _, _, rfl, hi2⟩, ?_⟩⟩
  walk_at "rd"
  refine r_fd T ha ?_
  walk_at "rd"
  refine r_fd T hb ?_
  walk_at "rd"
  rcases hh with ⟨big, k⟩ | ⟨fit, z1, z2, k⟩
  · refine ite_t (decide_eq_true (by omega)) ?_
    walk_at "rd"
    exact r_err2 rfl k
  refine ite_f (decide_eq_false (by omega)) ?_
  walk_at "rd"
  refine r_newL (sz_le (by simp)) fun q H1 hq e1 h1 => ?_
  have ok1 := ha.ok
  have ok2 := hb.ok
  have n1 : 1 ≤ ns.length := ok1.1
  have n2 : 1 ≤ ms.length := ok2.1
  have ne2 : ms ≠ [] := fun z => by simp [z] at n2
  walk_at "rd"
  refine r_zeros (m := ns.length + ms.length - 1) h1 (by omega) (by omega) fun p H2 hp e2 h2 => ?_
  walk_at "rd"
  have ha2 := (ha.ex e1).ex e2
  have hb2 := (hb.ex e1).ex e2
  refine r_iEnT ?_
  walk_at "rd"
  refine r_fn T ha2 fun t1 ht1 => ?_
  walk_at "rd"
  have np1 : t1 ≠ p := by rintro rfl; rw [h2] at ht1; cases ht1
  refine ⟨t1, _, rfl, SqT.of ht1, ?_⟩
  refine for_enT (ns := ns) (fun i σ H' => Bu p H2 H' ∧ ∃ F : List Int, H' p = some (.lst (F.map V.int)) ∧ F.length = ns.length + ms.length - 1 ∧ (∀ x, GM.ev F x = GM.ev (ns.take i) x * GM.ev ms x * x ^ (ns.length - i)) ∧ ∃ s1 s2 s3 s4, σ = [some (.ref a), some (.ref b), some (.int ((ns.length : Int) - 1 + ((ms.length : Int) - 1) + 1)), some (.ref p), s1, s2, s3, s4])
    ⟨Bu.refl _ _, GM.zr (ns.length + ms.length - 1), h2, GM.zr_len _, fun x => by simp [GM.ev_zr, GM.ev], none, none, none, none, rfl⟩ (fun i σ H' _ p' => p'.1 _ _ np1 ht1) ?_ ?_
  · rintro i mine σ H3 H4 hi ⟨b3, F, hF, hl, hev, s1, s2, s3, s4, rfl⟩ e4
    have il : i < ns.length := (List.getElem?_eq_some_iff.mp hi).1
    walk_at "rd"
    refine r_iEnT ?_
    walk_at "rd"
    have b4 : Bu p H2 H4 := b3.trans (Bu.of e4)
    have hF4 := e4 _ _ hF
    have hb4 := hb2.bu b4 h2
    refine r_fn T hb4 fun t2 ht2 => ?_
    walk_at "rd"
    have np2 : t2 ≠ p := by rintro rfl; rw [hF4] at ht2; cases ht2
    refine ⟨t2, _, rfl, SqT.of ht2, ?_⟩
    have fit1 : i + ms.length ≤ F.length := by omega
    refine for_enT (ns := ms) (fun j σ H' => Bu p H4 H' ∧ H' p = some (.lst ((GM.addR F i mine (ms.take j)).map V.int)) ∧ ∃ s3 s4, σ = [some (.ref a), some (.ref b), some (.int ((ns.length : Int) - 1 + ((ms.length : Int) - 1) + 1)), some (.ref p), some (.int (i : Nat)), some (.int mine), s3, s4])
      ⟨Bu.refl _ _, by rw [List.take_zero, GM.addR_nil _ _ _ (by omega)]; exact hF4, s3, s4, rfl⟩ (fun j σ H' _ p' => p'.1 _ _ np2 ht2) ?_ ?_
    · rintro j its σ H5 H6 hj ⟨b5, hF5, s3', s4', rfl⟩ e6
      have jl : j < ms.length := (List.getElem?_eq_some_iff.mp hj).1
      have hF6 := e6 _ _ hF5
      have fit2 : i + (ms.take j).length ≤ F.length := by simp only [List.length_take]; omega
      have len5 : (GM.addR F i mine (ms.take j)).length = F.length := GM.addR_len fit2 _
      have ij : i + j < (GM.addR F i mine (ms.take j)).length := by rw [len5]; omega
      refine r_augS ?_
      walk_at "rd"
      refine ⟨p, _, i + j, .int ((GM.addR F i mine (ms.take j)).getD (i + j) 0), rfl, rfl, SqL.of hF6, ?_, ?_⟩
      · rw [List.getElem?_map, List.getElem?_eq_getElem ij]
        simp [ij]
      walk_at "rd"
      refine r_I (mulOk ((z1 mine (List.mem_of_getElem? hi)).mono (show 200 ≤ 500 by decide)) ((z2 its (List.mem_of_getElem? hj)).mono (show 200 ≤ 500 by decide)) (by decide) (by decide) (by decide)) ?_
      refine ⟨_, _, rfl, rfl, ?_⟩
      refine r_setL (n := i + j) hF6 (by rw [List.length_map]; exact ixN_nat ij) ?_
      refine ⟨(b5.trans (Bu.of e6)).trans Bu.upd, ?_, some (.int (j : Nat)), some (.int its), rfl⟩
      rw [upd_same, set_ints]
      have g : ms.getD j 0 = its := by rw [List.getD_eq_getElem?_getD, hj]; rfl
      rw [GM.addR_step fit1 jl mine _ (by rw [g])]
    · rintro σ H5 ⟨b5, hF5, s3', s4', rfl⟩
      rw [List.take_length] at hF5
      refine ⟨b4.trans b5, _, hF5, by rw [GM.addR_len fit1]; exact hl, fun x => ?_, _, _, _, _, rfl⟩
      have g : ns.getD i 0 = mine := by rw [List.getD_eq_getElem?_getD, hi]; rfl
      rw [GM.ev_addR fit1, hev, GM.ev_take il, g, hl, show ns.length + ms.length - 1 - i - ms.length = ns.length - (i + 1) by omega, show ns.length - i = (ns.length - (i + 1)) + 1 by omega, Int.pow_succ]
      grind
  · rintro σ H3 ⟨b3, F, hF, hl, hev, s1, s2, s3, s4, rfl⟩
    walk_at "rd"
    have eF : F = GM.mulH ns ms := GM.ext_ev' (by rw [hl, GM.mulH_len ne2]) fun x => by
      rw [hev, GM.ev_mulH ne2, List.take_length, Nat.sub_self, Int.pow_zero, Int.mul_one]
    rw [eF] at hF
    have e3 : Ex H H3 := fun c o h => b3 c o (by rintro rfl; rw [e1.free hp] at h; cases h) (e2 _ _ (e1 _ _ h))
    exact r_Poly ⟨p, rfl, .inl hF⟩ (okN.mul ok1 ok2 (by omega)) fun r H4 hr e4 hp4 => k r H4 (e3.free hr) (e3.trans e4) hp4

end K04
namespace K04
open PySem PySem.Spec PyProof.Rows L2 GS TL
local macro_rules | `(tactic| walk_at "rd") => `(tactic| (repeat (first
  | with_reducible refine r_next ?_
  | with_reducible refine r_seq ?_
  | with_reducible refine r_ret ?_
  | with_reducible refine r_ifS ?_
  | with_reducible refine r_asg ?_
  | with_reducible refine r_drop ?_
  | with_reducible refine r_op ?_
  | with_reducible refine r_un ?_
  | with_reducible refine r_cbInt ?_
  | with_reducible refine r_cbAbs ?_
  | with_reducible refine r_cbLen ?_
  | with_reducible refine r_cb ?_
  | with_reducible refine r_call ?_
  | with_reducible refine r_make ?_
  | with_reducible refine r_callN0 ?_
  | with_reducible refine r_makeK0 ?_
  | with_reducible refine r_makeS ?_
  | with_reducible refine r_callS ?_
  | with_reducible refine r_cons ?_
  | with_reducible refine r_nil ?_
  | with_reducible refine r_test ?_
  | with_reducible refine r_B ?_
  | with_reducible refine r_and ?_
  | with_reducible refine r_or ?_
  | with_reducible refine r_not ?_
  | with_reducible refine r_andV ?_
  | with_reducible refine r_orV ?_
  | with_reducible refine r_notV ?_
  | with_reducible refine r_if ?_
  | with_reducible refine r_tup ?_
  | with_reducible refine r_lst ?_
  | with_reducible refine r_c ?_
  | with_reducible refine r_lc ?_
  | with_reducible refine r_chain ?_
  | with_reducible refine r_iT ?_
  | with_reducible refine r_iL ?_
  | with_reducible refine r_iR1 ?_
  | with_reducible refine r_asgG ?_
  | with_reducible refine r_gSub ?_
  | with_reducible refine r_for ?_
  | with_reducible refine r_smeth ?_
  | with_reducible refine r_par ?_
  | with_reducible refine r_parK ?_
  | with_reducible refine r_gCons ?_
  | with_reducible refine r_gNil ?_
  | with_reducible refine r_gName ?_
  | with_reducible refine r_intI ?_
  | with_reducible refine r_intB ?_
  | with_reducible refine r_absI ?_
  | with_reducible refine r_k ?_
  | with_reducible refine r_kV ?_
  | ((with_reducible show tVar _ _ _ _); refine r_var3 ?_ (by rfl))
  | with_reducible refine r_I0 ?_
  | with_reducible refine r_U ?_
  | with_reducible refine r_eqI ?_
  | with_reducible refine r_neI ?_
  | dsimp only)))
local macro_rules | `(tactic| walk_at "rx") => `(tactic| (repeat (first
  | with_reducible refine r_next ?_
  | with_reducible refine r_ret ?_
  | with_reducible refine r_ifS ?_
  | with_reducible refine r_asg ?_
  | with_reducible refine r_drop ?_
  | with_reducible refine r_op ?_
  | with_reducible refine r_un ?_
  | with_reducible refine r_cbInt ?_
  | with_reducible refine r_cbAbs ?_
  | with_reducible refine r_cbLen ?_
  | with_reducible refine r_cb ?_
  | with_reducible refine r_call ?_
  | with_reducible refine r_make ?_
  | with_reducible refine r_callN0 ?_
  | with_reducible refine r_makeK0 ?_
  | with_reducible refine r_makeS ?_
  | with_reducible refine r_callS ?_
  | with_reducible refine r_cons ?_
  | with_reducible refine r_nil ?_
  | with_reducible refine r_test ?_
  | with_reducible refine r_B ?_
  | with_reducible refine r_and ?_
  | with_reducible refine r_or ?_
  | with_reducible refine r_not ?_
  | with_reducible refine r_andV ?_
  | with_reducible refine r_orV ?_
  | with_reducible refine r_notV ?_
  | with_reducible refine r_if ?_
  | with_reducible refine r_tup ?_
  | with_reducible refine r_lst ?_
  | with_reducible refine r_c ?_
  | with_reducible refine r_lc ?_
  | with_reducible refine r_chain ?_
  | with_reducible refine r_iT ?_
  | with_reducible refine r_iL ?_
  | with_reducible refine r_iR1 ?_
  | with_reducible refine r_asgG ?_
  | with_reducible refine r_gSub ?_
  | with_reducible refine r_for ?_
  | with_reducible refine r_smeth ?_
  | with_reducible refine r_par ?_
  | with_reducible refine r_parK ?_
  | with_reducible refine r_gCons ?_
  | with_reducible refine r_gNil ?_
  | with_reducible refine r_gName ?_
  | with_reducible refine r_intI ?_
  | with_reducible refine r_intB ?_
  | with_reducible refine r_absI ?_
  | with_reducible refine r_k ?_
  | with_reducible refine r_kV ?_
  | ((with_reducible show tVar _ _ _ _); refine r_var3 ?_ (by rfl))
  | with_reducible refine r_I0 ?_
  | with_reducible refine r_U ?_
  | with_reducible refine r_eqI ?_
  | with_reducible refine r_neI ?_
  | dsimp only)))
/-! ### mixed -/
theorem r_pickI {c : Prop} [Decidable c] {σ : L2.St} {H : Hp} {Q : VK} {ta tb : TE} {i j : Int} (h1 : ∀ Q : VK, Q (.int i) H → ta σ H Q) (h2 : ∀ Q : VK, Q (.int j) H → tb σ H Q) (q : Q (.int (if c then i else j)) H) : if decide c = true then ta σ H Q else tb σ H Q := by
  by_cases h : c
  · rw [if_pos h] at q
    exact ite_t (decide_eq_true h) (h1 Q q)
  · rw [if_neg h] at q
    exact ite_f (decide_eq_false h) (h2 Q q)
def mixL (i j : Int) (ns ms : List Int) : List Int := GM.zadd (GM.scl i ns) (GM.scl j ms)
theorem mixL_len {i j : Int} {ns ms : List Int} (h : ns.length = ms.length) : (mixL i j ns ms).length = ns.length := by rw [mixL, GM.zadd_len, GM.scl_len]; rw [GM.scl_len, GM.scl_len, h]
theorem mixL_get {i j : Int} {ns ms : List Int} {k : Nat} {a b : Int} (h1 : ns[k]? = some a) (h2 : ms[k]? = some b) : (mixL i j ns ms).getD k 0 = i * a + j * b := by
  obtain ⟨l1, rfl⟩ := List.getElem?_eq_some_iff.mp h1
  obtain ⟨l2, rfl⟩ := List.getElem?_eq_some_iff.mp h2
  rw [List.getD_eq_getElem?_getD, mixL, GM.zadd_get (by rw [GM.scl_len]; exact l1) (by rw [GM.scl_len]; exact l2)]
  simp [GM.scl]
theorem okN.mix {i j : Int} {ns ms : List Int} (h1 : okN ns) (h2 : okN ms) (h : ns.length = ms.length) (hi : 0 ≤ i) (hj : (if i = 0 then 1 else 0) ≤ j) : okN (mixL i j ns ms) := by
  obtain ⟨a1, a2, a3⟩ := h1
  obtain ⟨b1, b2, b3⟩ := h2
  refine ⟨by rw [mixL_len h]; exact a1, by rw [mixL_len h]; exact a2, ?_⟩
  cases ns with
  | nil => simp at a1
  | cons n ns =>
    cases ms with
    | nil => simp at b1
    | cons m ms =>
      show 0 < i * n + j * m
      simp only [List.headD_cons] at a3 b3
      by_cases c : i = 0
      · rw [if_pos c] at hj
        have := Int.mul_pos (show 0 < j by omega) b3
        rw [c]
        omega
      · rw [if_neg c] at hj
        have h1 := Int.mul_pos (show 0 < i by omega) a3
        have h2 := Int.mul_nonneg hj (Int.le_of_lt b3)
        omega
def spMixed (K : PySem.W.Frag) : Sp := sp4 fun v w x y H Q E => (No K "Poly" H v ∧ Raised K "BadPoly" "part" (.str "one") H E) ∨
  ∃ a ns, v = .ref a ∧ Pl K H a ns ∧ ((No K "Poly" H w ∧ Raised K "BadPoly" "part" (.str "other") H E) ∨
  ∃ b ms, w = .ref b ∧ Pl K H b ms ∧ ((Kn K H x ∧ inB x (some 0) none = false ∧ Raised K "BadNumber" "part" (.str "mine") H E) ∨
  ∃ i, x = .int i ∧ 0 ≤ i ∧ ((Kn K H y ∧ inB y (some (if i = 0 then 1 else 0)) none = false ∧ Raised K "BadNumber" "part" (.str "its") H E) ∨
  ∃ j, y = .int j ∧ (if i = 0 then 1 else 0) ≤ j ∧ ((ns.length ≠ ms.length ∧ Raised K "Misfit" "part" (.str "degree") H E) ∨
  (ns.length = ms.length ∧ Z 200 i ∧ Z 200 j ∧ (∀ c ∈ ns, Z 200 c) ∧ (∀ c ∈ ms, Z 200 c) ∧ ∀ p H', H p = none → Ex H H' → Pl K H' p (mixL i j ns ms) → Q (.ref p) H')))))
theorem ok_mixed {P : Program} {w : World} {K : PySem.W.Frag} {mg : Str → Option Value} {base : Heap} (T : Txt K mg) : ∃ fd, FnOk P w K mg base (L2.CX P w) 5 (He.ga K "mixed") fd ["one", "other", "mine", "its"] (spMixed K) ∧ Binds K fd ["one", "other", "mine", "its"] [] ∧ KBn K fd ["one", "other", "mine", "its"] 0 ["its", "mine", "other", "one"] (pm [3, 2, 1, 0]) (pm [3, 2, 1, 0]) := by
  obtain ⟨fd, F⟩ := T.d_mixed
  obtain ⟨fd_Poly_init, F_Poly_init, B_Poly_init, kb_Poly_init_0⟩ := ok_Poly_init (P := P) (w := w) (base := base) T
  obtain ⟨fd_Misfit_init, F_Misfit_init, B_Misfit_init⟩ := ok_Misfit_init (P := P) (w := w) (base := base) T
  obtain ⟨fd_need_integer, F_need_integer, B_need_integer⟩ := ok_need_integer (P := P) (w := w) (base := base) T
  obtain ⟨fd_need_poly, F_need_poly, B_need_poly⟩ := ok_need_poly (P := P) (w := w) (base := base) T
  refine ⟨fd, F.ok sc_mixed sp4_len (fun cdv A outer s H vs Q E hr h => ?_), F.bindsN fun _ _ _ _ _ _ us hl => match us, hl with | [_, _, _, _], _ => rfl, kb_of F 0 ["its", "mine", "other", "one"] [3, 2, 1, 0] (fun _ _ _ _ _ _ us ws h1 h2 => match us, ws, h1, h2 with | [], [_, _, _, _], _, _ => rfl)⟩
  have hr_Poly_init : Room 4 _ := hr.mono (by decide)
  have hr_Misfit_init : Room 2 _ := hr.mono (by decide)
  have hr_need_integer : Room 3 _ := hr.mono (by decide)
  have hr_need_poly : Room 3 _ := hr.mono (by decide)
  obtain ⟨v, w', x, y, rfl, hh⟩ := sp4_is h
  refine ⟨_, (pss_cons (ps_expr (pe_call F_need_poly hr_need_poly (by rfl) T.g_need_poly T.k_need_poly B_need_poly .nil (passes_call (takes_of rfl rfl rfl rfl) (fun _ _ _ _ h => h)) (pa_cons (pv 0) (pa_cons pe_str pa_nil))))
      (pss_cons (ps_expr (pe_call F_need_poly hr_need_poly (by rfl) T.g_need_poly T.k_need_poly B_need_poly .nil (passes_call (takes_of rfl rfl rfl rfl) (fun _ _ _ _ h => h)) (pa_cons (pv 1) (pa_cons pe_str pa_nil))))
      (pss_cons (ps_expr (pe_call F_need_integer hr_need_integer (by rfl) T.g_need_integer T.k_need_integer B_need_integer .nil (passes_call (takes_of rfl rfl rfl rfl) (fun _ _ _ _ h => h)) (pa_cons (pv 2) (pa_cons pe_str (pa_cons pe_int (pa_cons pe_non pa_nil))))))
      (pss_cons (ps_expr (pe_call F_need_integer hr_need_integer (by rfl) T.g_need_integer T.k_need_integer B_need_integer .nil (passes_call (takes_of rfl rfl rfl rfl) (fun _ _ _ _ h => h)) (pa_cons (pv 3) (pa_cons pe_str (pa_cons (pe_ifExp (pt_cmpR op_eq (pv 2) pe_int (nomark _)) pe_int pe_int) (pa_cons pe_non pa_nil))))))
      (pss_cons (ps_if (pt_cmpR op_ne (kx_fld rfl (pv 0) rfl) (kx_fld rfl (pv 1) rfl) (nomark _)) (pss_one (ps_raise rfl (takes_of rfl rfl rfl rfl) (pmk_oex T.e_Misfit.o T.e_Misfit.i T.e_Misfit.t F_Misfit_init hr_Misfit_init B_Misfit_init .nil passL rfl T.g_Misfit (pa_cons pe_str pa_nil)))) pss_nil)
      (pss_one (ps_ret (pe_make T.mk_Poly F_Poly_init hr_Poly_init (by rfl) T.g_Poly B_Poly_init .nil (passes_call (takes_of rfl rfl rfl rfl) (fun _ _ _ _ h => h)) (pa_cons (pe_lc (own := [("a", 4), ("b", 5)]) (g := gTup K 2 (gCons (gName 4) (gCons (gName 5) (gNil)))) (tt := tYes)  rfl sc_mixed.nd (RZ.pi_zipA (by rfl) T.b_zip (pa_cons (kx_fld rfl (pv 0) rfl) (pa_cons (kx_fld rfl (pv 1) rfl) pa_nil))) (blkOk_by (own := [("a", 4), ("b", 5)]) (N := ["one", "other", "mine", "its", "a", "b"]) (sc := defScope s_mixed) (by decide +kernel)) (fun _ _ _ _ _ => (pg_tup rfl (pgs_cons (pg_name (i := 4) sc_mixed.nd rfl (Or.inl rfl)) (pgs_cons (pg_name (i := 5) sc_mixed.nd rfl (Or.inl rfl)) pgs_nil)))) (fun _ _ _ _ _ => pts_nil) (fun _ _ _ _ _ => (pe_op op_add (pe_op op_mulW (pv 2) (pv 4)) (pe_op op_mulW (pv 3) (pv 5))))) pa_nil))))))))), ?_⟩
  walk_at "rd"
  rcases hh with ⟨no, k⟩ | ⟨a, ns, rfl, ha, hh⟩
  · exact ⟨_, rfl, .inr ⟨no, k⟩⟩
  obtain ⟨dx, fs, hi⟩ := ha.inst
  refine ⟨_, rfl, .inl ⟨⟨_, _, _, rfl, hi⟩, ?_⟩⟩
  walk_at "rd"
  rcases hh with ⟨no, k⟩ | ⟨b, ms, rfl, hb, hh⟩
  · exact ⟨_, rfl, .inr ⟨no, k⟩⟩
  obtain ⟨dx2, fs2, hi2⟩ := hb.inst
  refine ⟨_, rfl, .inl ⟨⟨_, _, _, rfl, hi2⟩, ?_⟩⟩
  walk_at "rd"
  rcases hh with ⟨kn, hin, k⟩ | ⟨i, rfl, i0, hh⟩
  · refine ⟨kn, some 0, none, _, rfl, rfl, rfl, fun c => ?_, fun _ => k⟩
    rw [hin] at c
    cases c
  refine ⟨kn_int i, some 0, none, _, rfl, rfl, rfl, fun _ => ?_, fun c => by simp [inB, loB, upB, i0] at c⟩
  walk_at "rd"
  refine r_pickI (i := 1) (j := 0) (fun Q q => q) (fun Q q => q) ?_
  walk_at "rd"
  rcases hh with ⟨kn, hin, k⟩ | ⟨j, rfl, j0, hh⟩
  · refine ⟨kn, some _, none, _, rfl, rfl, rfl, fun c => ?_, fun _ => k⟩
    rw [hin] at c
    cases c
  refine ⟨kn_int j, some _, none, _, rfl, rfl, rfl, fun _ => ?_, fun c => by simp [inB, loB, upB, j0] at c⟩
  walk_at "rd"
  refine r_fd T ha ?_
  refine r_fd T hb ?_
  walk_at "rd"
  rcases hh with ⟨ne, k⟩ | ⟨el, zi, zj, z1, z2, k⟩
  · refine ite_t (by simp; omega) ?_
    exact r_err rfl k
  refine ite_f (by simp; omega) ?_
  walk_at "rd"
  refine r_zipA ?_
  walk_at "rd"
  refine r_fn T ha fun t1 h1 => ?_
  walk_at "rd"
  refine r_fn T hb fun t2 h2 => ?_
  walk_at "rd"
  refine ⟨t1, t2, _, _, rfl, .inr ⟨SqT.of h1, SqT.of h2, ?_⟩⟩
  have l64 : ns.length ≤ 64 := ha.2.1
  refine r_lcZ (n := ns.length) (walk_zipT (xs := ns.map V.int) (ys := ms.map V.int) (by simp; omega)) (mixL i j ns ms) (mixL_len el) (by omega) (fun H' e => ⟨e.sqt (SqT.of h1), e.sqt (SqT.of h2)⟩) ?_ ?_
  · rintro k' x H2 H3 hk e2 ⟨T', x1, x2, rfl, hT, rfl, g1, g2⟩ N hN
    obtain ⟨n1, hn1, rfl⟩ := int_at g1
    obtain ⟨n2, hn2, rfl⟩ := int_at g2
    refine r_gTup upd_same rfl (r_gCons (r_gName (r_gCons (r_gName (r_gNil ⟨rfl, ?_⟩)))))
    walk_at "rd"
    refine r_I (mulOk zi (z1 n1 (List.mem_of_getElem? hn1)) (by decide) (by decide) (by decide)) ?_
    walk_at "rd"
    refine r_I (mulOk zj (z2 n2 (List.mem_of_getElem? hn2)) (by decide) (by decide) (by decide)) ?_
    walk_at "rd"
    rw [← mixL_get hn1 hn2]
    exact hN _ (Ex.new hT)
  · intro D H2 hD e2 hl
    exact r_Poly ⟨D, rfl, .inl hl⟩ (ha.ok.mix hb.ok el i0 j0) fun r H4 hr e4 hp4 => k r H4 (e2.free hr) (e2.trans e4) hp4
/-! ### derived -/
theorem der_get {ns : List Int} {k : Nat} {a : Int} (h1 : ns[k]? = some a) (hk : k + 1 < ns.length) : (GM.der ns).getD k 0 = a * ((ns.length : Int) - 1 - (k : Nat)) := by
  induction ns generalizing k with
  | nil => simp at h1
  | cons n ns ih =>
    cases ns with
    | nil => simp at hk
    | cons m ns =>
      cases k with
      | zero =>
        cases h1
        simp [GM.der]
      | succ k =>
        have := ih (k := k) (by simpa using h1) (by simpa using hk)
        rw [show (GM.der (n :: m :: ns)).getD (k + 1) 0 = (GM.der (m :: ns)).getD k 0 from by simp [GM.der], this]
        simp only [List.length_cons, Int.natCast_add]
        congr 1
        omega
def spDerN (K : PySem.W.Frag) : Sp := sp1 fun v H Q E => ∃ (t : Addr) (ns : List Int), v = .ref t ∧ H t = some (.tup (ns.map V.int)) ∧ 2 ≤ ns.length ∧ ns.length ≤ 64 ∧ (∀ c ∈ ns, Z 200 c) ∧ ∀ D H', H D = none → Ex H H' → H' D = some (.lst ((GM.der ns).map V.int)) → Q (.ref D) H'
theorem ok_derived_numbers {P : Program} {w : World} {K : PySem.W.Frag} {mg : Str → Option Value} {base : Heap} (T : Txt K mg) : ∃ fd, FnOk P w K mg base (L2.CX P w) 1 (He.ga K "derived_numbers") fd ["numbers"] (spDerN K) ∧ Binds K fd ["numbers"] [] := by
  obtain ⟨fd, F⟩ := T.d_derived_numbers
  refine ⟨fd, F.ok sc_derived_numbers sp1_len (fun cdv A outer s H vs Q E hr h => ?_), F.bindsN fun _ _ _ _ _ _ us hl => match us, hl with | [_], _ => rfl⟩
  obtain ⟨v, rfl, t, ns, rfl, ht, l2, l64, hz, k⟩ := sp1_is h
  refine ⟨_, (pss_cons (ps_set (i := 1) sc_derived_numbers.nd rfl (Or.inr rfl) (pe_op op_sub (pe_callB (kx_lens rfl) (by rfl) T.b_len PySem.boot_len (pa_cons (pv 0) pa_nil)) pe_int))
      (pss_one (ps_ret (pe_lc (own := [("at", 2), ("number", 3)]) (g := gTup K 2 (gCons (gName 2) (gCons (gName 3) (gNil)))) (tt := tYes)  rfl sc_derived_numbers.nd (pi_enumT (by rfl) T.b_enumerate (pa_cons (pe_slice sl_tup (pv 0) po_none (po_some (pe_un un_neg pe_int))) pa_nil)) (blkOk_by (own := [("at", 2), ("number", 3)]) (N := ["numbers", "degree", "at", "number"]) (sc := defScope s_derived_numbers) (by decide +kernel)) (fun _ _ _ _ _ => (pg_tup rfl (pgs_cons (pg_name (i := 2) sc_derived_numbers.nd rfl (Or.inl rfl)) (pgs_cons (pg_name (i := 3) sc_derived_numbers.nd rfl (Or.inl rfl)) pgs_nil)))) (fun _ _ _ _ _ => pts_nil) (fun _ _ _ _ _ => (pe_op op_mulW (pv 3) (pe_op op_sub (pv 1) (pv 2)))))))), ?_⟩
  walk_at "rd"
  refine ⟨t, _, rfl, .inr (SqT.of ht), ?_⟩
  walk_at "rd"
  refine r_iEnT ?_
  walk_at "rd"
  refine ⟨V.ref t, rfl, 1, rfl, -1, rfl, t, _, rfl, SqT.of ht, ?_, fun p hp => ?_⟩
  · show ¬ (_ ∧ _)
    rintro ⟨-, z⟩
    rw [show HT.sIx (ns.map V.int).length (ns.map V.int).length (some (-1)) = ns.length - 1 by simp [HT.sIx]; omega] at z
    rw [List.length_map] at z
    omega
  rw [show cutV (ns.map V.int) none (some (-1)) = (ns.dropLast).map V.int by
    unfold cutV
    rw [HT.sIx_none, List.drop_zero, show HT.sIx (ns.map V.int).length (ns.map V.int).length (some (-1)) = ns.length - 1 by simp [HT.sIx]; omega, Nat.sub_zero, List.dropLast_eq_take, List.map_take]]
  walk_at "rd"
  refine ⟨p, _, rfl, SqT.of upd_same, ?_⟩
  have dl : ns.dropLast.length = ns.length - 1 := List.length_dropLast
  refine r_lcZ (n := ns.length - 1) (walk_enumT' (xs := ns.dropLast.map V.int) (by simp)) (GM.der ns) (GM.der_len ns) (by omega) (fun H' e => e.sqt (SqT.of upd_same)) ?_ ?_
  · rintro k' x H2 H3 hk e2 ⟨T', x1, x2, rfl, hT, rfl, g1, g2⟩ N hN
    cases g1
    obtain ⟨n2, hn2, rfl⟩ := int_at g2
    refine r_gTup upd_same rfl (r_gCons (r_gName (r_gCons (r_gName (r_gNil ⟨rfl, ?_⟩)))))
    walk_at "rd"
    have hn : ns[k']? = some n2 := by
      rw [List.dropLast_eq_take, List.getElem?_take_of_lt hk] at hn2
      exact hn2
    refine r_I (mulOk (hz n2 (List.mem_of_getElem? hn)) (show Z 10 _ from by unfold Z; rw [List.length_map]; omega) (by decide) (by decide) (by decide)) ?_
    rw [List.length_map, ← der_get hn (by omega)]
    exact hN _ (Ex.new hT)
  · intro D H2 hD e2 hl
    exact k D H2 ((Ex.new hp).free hD) ((Ex.new hp).trans e2) hl
def spDerived (K : PySem.W.Frag) : Sp := sp1 fun v H Q E => (No K "Poly" H v ∧ Raised K "BadPoly" "part" (.str "poly") H E) ∨
  ∃ a ns, v = .ref a ∧ Pl K H a ns ∧ ((ns.length = 1 ∧ Raised K "Misfit" "part" (.str "degree") H E) ∨ (2 ≤ ns.length ∧ (∀ c ∈ ns, Z 200 c) ∧ ∀ p H', H p = none → Ex H H' → Pl K H' p (GM.der ns) → Q (.ref p) H'))
theorem okN.der {ns : List Int} (h : okN ns) (l : 2 ≤ ns.length) : okN (GM.der ns) := by
  obtain ⟨a1, a2, a3⟩ := h
  refine ⟨by rw [GM.der_len]; omega, by rw [GM.der_len]; omega, ?_⟩
  match ns, l with
  | n :: m :: ns, _ =>
    simp only [List.headD_cons] at a3
    exact Int.mul_pos a3 (by omega)
theorem ok_derived {P : Program} {w : World} {K : PySem.W.Frag} {mg : Str → Option Value} {base : Heap} (T : Txt K mg) : ∃ fd, FnOk P w K mg base (L2.CX P w) 5 (He.ga K "derived") fd ["poly"] (spDerived K) ∧ Binds K fd ["poly"] [] ∧ KBn K fd ["poly"] 0 ["poly"] (pm [0]) (pm [0]) := by
  obtain ⟨fd, F⟩ := T.d_derived
  obtain ⟨fd_Poly_init, F_Poly_init, B_Poly_init, kb_Poly_init_0⟩ := ok_Poly_init (P := P) (w := w) (base := base) T
  obtain ⟨fd_derived_numbers, F_derived_numbers, B_derived_numbers⟩ := ok_derived_numbers (P := P) (w := w) (base := base) T
  obtain ⟨fd_Misfit_init, F_Misfit_init, B_Misfit_init⟩ := ok_Misfit_init (P := P) (w := w) (base := base) T
  obtain ⟨fd_need_poly, F_need_poly, B_need_poly⟩ := ok_need_poly (P := P) (w := w) (base := base) T
  refine ⟨fd, F.ok sc_derived sp1_len (fun cdv A outer s H vs Q E hr h => ?_), F.bindsN fun _ _ _ _ _ _ us hl => match us, hl with | [_], _ => rfl, kb_of F 0 ["poly"] [0] (fun _ _ _ _ _ _ us ws h1 h2 => match us, ws, h1, h2 with | [], [_], _, _ => rfl)⟩
  have hr_Poly_init : Room 4 _ := hr.mono (by decide)
  have hr_derived_numbers : Room 1 _ := hr.mono (by decide)
  have hr_Misfit_init : Room 2 _ := hr.mono (by decide)
  have hr_need_poly : Room 3 _ := hr.mono (by decide)
  obtain ⟨v, rfl, hh⟩ := sp1_is h
  refine ⟨_, (pss_cons (ps_expr (pe_call F_need_poly hr_need_poly (by rfl) T.g_need_poly T.k_need_poly B_need_poly .nil (passes_call (takes_of rfl rfl rfl rfl) (fun _ _ _ _ h => h)) (pa_cons (pv 0) (pa_cons pe_str pa_nil))))
      (pss_cons (ps_if (pt_cmpR op_eq (kx_fld rfl (pv 0) rfl) pe_int (nomark _)) (pss_one (ps_raise rfl (takes_of rfl rfl rfl rfl) (pmk_oex T.e_Misfit.o T.e_Misfit.i T.e_Misfit.t F_Misfit_init hr_Misfit_init B_Misfit_init .nil passL rfl T.g_Misfit (pa_cons pe_str pa_nil)))) pss_nil)
      (pss_one (ps_ret (pe_make T.mk_Poly F_Poly_init hr_Poly_init (by rfl) T.g_Poly B_Poly_init .nil (passes_call (takes_of rfl rfl rfl rfl) (fun _ _ _ _ h => h)) (pa_cons (pe_call F_derived_numbers hr_derived_numbers (by rfl) T.g_derived_numbers T.k_derived_numbers B_derived_numbers .nil passL (pa_cons (kx_fld rfl (pv 0) rfl) pa_nil)) pa_nil)))))), ?_⟩
  walk_at "rd"
  rcases hh with ⟨no, k⟩ | ⟨a, ns, rfl, ha, hh⟩
  · exact ⟨_, rfl, .inr ⟨no, k⟩⟩
  obtain ⟨dx, fs, hi⟩ := ha.inst
  refine ⟨_, rfl, .inl ⟨⟨_, _, _, rfl, hi⟩, ?_⟩⟩
  walk_at "rd"
  refine r_fd T ha ?_
  walk_at "rd"
  rcases hh with ⟨e1, k⟩ | ⟨l2, hz, k⟩
  · refine ite_t (by simp [e1]) ?_
    exact r_err rfl k
  refine ite_f (decide_eq_false (by omega)) ?_
  walk_at "rd"
  refine r_fn T ha fun t ht => ?_
  walk_at "rd"
  refine ⟨t, ns, rfl, ht, l2, ha.2.1, hz, fun D H2 hD e2 hl => ?_⟩
  walk_at "rd"
  exact r_Poly ⟨D, rfl, .inl hl⟩ (ha.ok.der l2) fun r H4 hr e4 hp4 => k r H4 (e2.free hr) (e2.trans e4) hp4
/-! ### what is never reached -/
def spInSq (K : PySem.W.Frag) : Sp := sp1 fun v H Q E => No K "Poly" H v ∧ Raised K "BadPoly" "part" (.str "poly") H E
theorem ok_in_squares {P : Program} {w : World} {K : PySem.W.Frag} {mg : Str → Option Value} {base : Heap} (T : Txt K mg) : ∃ fd, FnOk P w K mg base (L2.CX P w) 4 (He.ga K "in_squares") fd ["poly"] (spInSq K) ∧ Binds K fd ["poly"] [] := by
  obtain ⟨fd, F⟩ := T.d_in_squares
  obtain ⟨fd_need_poly, F_need_poly, B_need_poly⟩ := ok_need_poly (P := P) (w := w) (base := base) T
  refine ⟨fd, F.ok sc_in_squares sp1_len (fun cdv A outer s H vs Q E hr h => ?_), F.bindsN fun _ _ _ _ _ _ us hl => match us, hl with | [_], _ => rfl⟩
  have hr_need_poly : Room 3 _ := hr.mono (by decide)
  obtain ⟨v, rfl, no, k⟩ := sp1_is h
  refine ⟨_, (pss_cons (ps_expr (pe_call F_need_poly hr_need_poly (by rfl) T.g_need_poly T.k_need_poly B_need_poly .nil (passes_call (takes_of rfl rfl rfl rfl) (fun _ _ _ _ h => h)) (pa_cons (pv 0) (pa_cons pe_str pa_nil))))
      (pss_cons ps_never
      (pss_one ps_never))), ?_⟩
  walk_at "rd"
  exact ⟨_, rfl, .inr ⟨no, k⟩⟩
/-! ### lessened -/
def lessL (ns : List Int) : List Int := ns.map (· / gcdL ns)
theorem gcd_fold (l : List Int) : ∀ d : Int, 0 ≤ d → 0 ≤ l.foldl (fun (d v : Int) => ((Nat.gcd d.natAbs v.natAbs : Nat) : Int)) d ∧ (l.foldl (fun (d v : Int) => ((Nat.gcd d.natAbs v.natAbs : Nat) : Int)) d ∣ d) ∧ ∀ c ∈ l, l.foldl (fun (d v : Int) => ((Nat.gcd d.natAbs v.natAbs : Nat) : Int)) d ∣ c := by
  induction l with
  | nil => exact fun d h => ⟨h, Int.dvd_refl d, fun _ z => by cases z⟩
  | cons v l ih =>
    intro d h
    obtain ⟨i1, i2, i3⟩ := ih ((Nat.gcd d.natAbs v.natAbs : Nat) : Int) (Int.natCast_nonneg _)
    have d1 : ((Nat.gcd d.natAbs v.natAbs : Nat) : Int) ∣ d := Int.natCast_dvd_natCast.mpr (Nat.gcd_dvd_left _ _) |> fun z => Int.dvd_trans z (Int.natAbs_dvd_self)
    have d2 : ((Nat.gcd d.natAbs v.natAbs : Nat) : Int) ∣ v := Int.natCast_dvd_natCast.mpr (Nat.gcd_dvd_right _ _) |> fun z => Int.dvd_trans z (Int.natAbs_dvd_self)
    refine ⟨i1, Int.dvd_trans i2 d1, fun c hc => ?_⟩
    rcases List.mem_cons.mp hc with rfl | hc
    · exact Int.dvd_trans i2 d2
    · exact i3 c hc
theorem gcdL_dvd {ns : List Int} {c : Int} (h : c ∈ ns) : gcdL ns ∣ c := (gcd_fold ns 0 (by decide)).2.2 c h
theorem okN.gcd {ns : List Int} (h : okN ns) : 0 < gcdL ns := by
  have h0 := (gcd_fold ns 0 (by decide)).1
  rcases Int.lt_or_eq_of_le h0 with c | c
  · exact c
  · exfalso
    obtain ⟨a1, a2, a3⟩ := h
    cases ns with
    | nil => simp at a1
    | cons n ns =>
      have d := gcdL_dvd (ns := n :: ns) (c := n) (by simp)
      rw [show gcdL (n :: ns) = 0 from c.symm] at d
      have := Int.zero_dvd.mp d
      simp only [List.headD_cons] at a3
      omega
theorem okN.less {ns : List Int} (h : okN ns) : okN (lessL ns) := by
  have hg := h.gcd
  obtain ⟨a1, a2, a3⟩ := h
  refine ⟨by simp [lessL]; exact a1, by simp [lessL]; exact a2, ?_⟩
  cases ns with
  | nil => simp at a1
  | cons n ns =>
    obtain ⟨q, e⟩ := gcdL_dvd (ns := n :: ns) (c := n) (by simp)
    show 0 < n / gcdL (n :: ns)
    rw [show n / gcdL (n :: ns) = q by conv => lhs; lhs; rw [e]
                                       rw [Int.mul_ediv_cancel_left _ (by omega)]]
    simp only [List.headD_cons] at a3
    rw [e] at a3
    rcases Int.lt_or_le 0 q with c | c
    · exact c
    · have := Int.mul_nonneg (Int.le_of_lt hg) (show 0 ≤ -q by omega)
      rw [Int.mul_neg] at this
      omega
def spLess (K : PySem.W.Frag) : Sp := sp1 fun v H Q E => (No K "Poly" H v ∧ Raised K "BadPoly" "part" (.str "poly") H E) ∨
  ∃ a ns, v = .ref a ∧ Pl K H a ns ∧ (∀ c ∈ ns, Z 200 c) ∧ ∀ p H', H p = none → Ex H H' → Pl K H' p (lessL ns) → Q (.ref p) H'
theorem ok_lessened {P : Program} {w : World} {K : PySem.W.Frag} {mg : Str → Option Value} {base : Heap} (T : Txt K mg) : ∃ fd, FnOk P w K mg base (L2.CX P w) 5 (He.ga K "lessened") fd ["poly"] (spLess K) ∧ Binds K fd ["poly"] [] ∧ KBn K fd ["poly"] 0 ["poly"] (pm [0]) (pm [0]) := by
  obtain ⟨fd, F⟩ := T.d_lessened
  obtain ⟨fd_Poly_init, F_Poly_init, B_Poly_init, kb_Poly_init_0⟩ := ok_Poly_init (P := P) (w := w) (base := base) T
  obtain ⟨fd_common_divisor, F_common_divisor, B_common_divisor⟩ := ok_common_divisor (P := P) (w := w) (base := base) T
  obtain ⟨fd_need_poly, F_need_poly, B_need_poly⟩ := ok_need_poly (P := P) (w := w) (base := base) T
  refine ⟨fd, F.ok sc_lessened sp1_len (fun cdv A outer s H vs Q E hr h => ?_), F.bindsN fun _ _ _ _ _ _ us hl => match us, hl with | [_], _ => rfl, kb_of F 0 ["poly"] [0] (fun _ _ _ _ _ _ us ws h1 h2 => match us, ws, h1, h2 with | [], [_], _, _ => rfl)⟩
  have hr_Poly_init : Room 4 _ := hr.mono (by decide)
  have hr_common_divisor : Room 4 _ := hr.mono (by decide)
  have hr_need_poly : Room 3 _ := hr.mono (by decide)
  obtain ⟨v, rfl, hh⟩ := sp1_is h
  refine ⟨_, (pss_cons (ps_expr (pe_call F_need_poly hr_need_poly (by rfl) T.g_need_poly T.k_need_poly B_need_poly .nil (passes_call (takes_of rfl rfl rfl rfl) (fun _ _ _ _ h => h)) (pa_cons (pv 0) (pa_cons pe_str pa_nil))))
      (pss_cons (ps_set (i := 1) sc_lessened.nd rfl (Or.inr rfl) (pe_call F_common_divisor hr_common_divisor (by rfl) T.g_common_divisor T.k_common_divisor B_common_divisor .nil (passes_call (takes_of rfl rfl rfl rfl) (fun _ _ _ _ h => h)) (pa_cons (kx_fld rfl (pv 0) rfl) pa_nil)))
      (pss_one (ps_ret (pe_make T.mk_Poly F_Poly_init hr_Poly_init (by rfl) T.g_Poly B_Poly_init .nil (passes_call (takes_of rfl rfl rfl rfl) (fun _ _ _ _ h => h)) (pa_cons (pe_lc (own := [("number", 2)]) (g := gName 2) (tt := tYes)  rfl sc_lessened.nd (pi_tup (kx_fld rfl (pv 0) rfl)) (blkOk_by (own := [("number", 2)]) (N := ["poly", "divisor", "number"]) (sc := defScope s_lessened) (by decide +kernel)) (fun _ _ _ _ _ => (pg_name (i := 2) sc_lessened.nd rfl (Or.inl rfl))) (fun _ _ _ _ _ => pts_nil) (fun _ _ _ _ _ => (pe_op op_fdivW (pv 2) (pv 1)))) pa_nil)))))), ?_⟩
  walk_at "rd"
  rcases hh with ⟨no, k⟩ | ⟨a, ns, rfl, ha, hz, k⟩
  · exact ⟨_, rfl, .inr ⟨no, k⟩⟩
  obtain ⟨dx, fs, hi⟩ := ha.inst
  refine ⟨_, rfl, .inl ⟨⟨_, _, _, rfl, hi⟩, ?_⟩⟩
  walk_at "rd"
  refine r_fn T ha fun t ht => ?_
  walk_at "rd"
  refine ⟨t, ns, rfl, ht, Nat.le_trans ha.2.1 (by decide), fun H1 e1 => ?_⟩
  walk_at "rd"
  have ha1 := ha.ex e1
  refine r_fn T ha1 fun t1 ht1 => ?_
  walk_at "rd"
  refine ⟨t1, rfl, ⟨_, SqT.of ht1⟩, ?_⟩
  have l64 : ns.length ≤ 64 := ha.2.1
  refine r_lcZ (walk_tup (xs := ns.map V.int)) (lessL ns) (by simp [lessL]) (by simp; omega) (fun H' e => e.sqt (SqT.of ht1)) ?_ ?_
  · rintro k' x H2 H3 hk e2 ⟨rfl, g1⟩ N hN
    obtain ⟨n1, hn1, rfl⟩ := int_at g1
    refine r_gName ⟨rfl, ?_⟩
    walk_at "rd"
    have hg := ha.ok.gcd
    have hlt : gcdL ns < 2 ^ 200 := by
      obtain ⟨c, hc⟩ : ∃ c, ns.head? = some c := by
        have := ha.ok.1
        cases ns with
        | nil => simp at this
        | cons c r => exact ⟨c, rfl⟩
      have hm : c ∈ ns := List.mem_of_head? hc
      have h3 := ha.ok.2.2
      rw [List.headD_eq_head?_getD, hc] at h3
      have d := Int.le_of_dvd h3 (gcdL_dvd hm)
      have z : c.natAbs < 2 ^ 200 := hz c hm
      simp only [Option.getD_some] at d h3
      have : (c.natAbs : Int) < (2 : Int) ^ 200 := by exact_mod_cast z
      omega
    refine r_I ⟨hg, ?_⟩ ?_
    · have z : (gcdL ns).natAbs < 2 ^ 200 := by
        have : ((gcdL ns).natAbs : Int) < (2 : Int) ^ 200 := by omega
        exact_mod_cast this
      exact Nat.lt_trans (lg_lt z (by decide)) (by decide)
    have e : (lessL ns).getD k' 0 = n1 / gcdL ns := by
      rw [List.getD_eq_getElem?_getD, lessL, List.getElem?_map, hn1]
      rfl
    rw [← e]
    exact hN _ (Ex.refl _)
  · intro D H2 hD e2 hl
    exact r_Poly ⟨D, rfl, .inl hl⟩ ha.ok.less fun r H4 hr e4 hp4 => k r H4 (e1.free (e2.free hr)) ((e1.trans e2).trans e4) hp4

end K04
namespace K04
open PySem PySem.Spec PyProof.Rows L2 GS TL
local macro_rules | `(tactic| walk_at "rd") => `(tactic| (repeat (first
  | with_reducible refine r_next ?_
  | with_reducible refine r_seq ?_
  | with_reducible refine r_ret ?_
  | with_reducible refine r_ifS ?_
  | with_reducible refine r_asg ?_
  | with_reducible refine r_drop ?_
  | with_reducible refine r_op ?_
  | with_reducible refine r_un ?_
  | with_reducible refine r_cbInt ?_
  | with_reducible refine r_cbAbs ?_
  | with_reducible refine r_cbLen ?_
  | with_reducible refine r_cbList ?_
  | with_reducible refine r_cbTup ?_
  | with_reducible refine r_iEnT ?_
  | with_reducible refine r_iEnL ?_
  | with_reducible refine r_zipA ?_
  | with_reducible refine r_augS ?_
  | with_reducible refine r_cb ?_
  | with_reducible refine r_call ?_
  | with_reducible refine r_make ?_
  | with_reducible refine r_callN0 ?_
  | with_reducible refine r_makeK0 ?_
  | with_reducible refine r_makeS ?_
  | with_reducible refine r_callS ?_
  | with_reducible refine r_cons ?_
  | with_reducible refine r_nil ?_
  | with_reducible refine r_test ?_
  | with_reducible refine r_B ?_
  | with_reducible refine r_and ?_
  | with_reducible refine r_or ?_
  | with_reducible refine r_not ?_
  | with_reducible refine r_andV ?_
  | with_reducible refine r_orV ?_
  | with_reducible refine r_notV ?_
  | with_reducible refine r_if ?_
  | with_reducible refine r_tup ?_
  | with_reducible refine r_lst ?_
  | with_reducible refine r_c ?_
  | with_reducible refine r_lc ?_
  | with_reducible refine r_chain ?_
  | with_reducible refine r_iT ?_
  | with_reducible refine r_iL ?_
  | with_reducible refine r_iR1 ?_
  | with_reducible refine r_iR2 ?_
  | with_reducible refine r_iR3 ?_
  | with_reducible refine r_asgG ?_
  | with_reducible refine r_gSub ?_
  | with_reducible refine r_for ?_
  | with_reducible refine r_smeth ?_
  | with_reducible refine r_par ?_
  | with_reducible refine r_parK ?_
  | with_reducible refine r_gCons ?_
  | with_reducible refine r_gNil ?_
  | with_reducible refine r_gName ?_
  | with_reducible refine r_intI ?_
  | with_reducible refine r_intB ?_
  | with_reducible refine r_absI ?_
  | with_reducible refine r_k ?_
  | with_reducible refine r_kV ?_
  | ((with_reducible show tVar _ _ _ _); refine r_var3 ?_ (by rfl))
  | with_reducible refine r_I0 ?_
  | with_reducible refine r_U ?_
  | with_reducible refine r_eqI ?_
  | with_reducible refine r_neI ?_
  | dsimp only)))
local macro_rules | `(tactic| walk_at "rx") => `(tactic| (repeat (first
  | with_reducible refine r_next ?_
  | with_reducible refine r_ret ?_
  | with_reducible refine r_ifS ?_
  | with_reducible refine r_asg ?_
  | with_reducible refine r_drop ?_
  | with_reducible refine r_op ?_
  | with_reducible refine r_un ?_
  | with_reducible refine r_cbInt ?_
  | with_reducible refine r_cbAbs ?_
  | with_reducible refine r_cbLen ?_
  | with_reducible refine r_cbList ?_
  | with_reducible refine r_cbTup ?_
  | with_reducible refine r_iEnT ?_
  | with_reducible refine r_iEnL ?_
  | with_reducible refine r_zipA ?_
  | with_reducible refine r_augS ?_
  | with_reducible refine r_cb ?_
  | with_reducible refine r_call ?_
  | with_reducible refine r_make ?_
  | with_reducible refine r_callN0 ?_
  | with_reducible refine r_makeK0 ?_
  | with_reducible refine r_makeS ?_
  | with_reducible refine r_callS ?_
  | with_reducible refine r_cons ?_
  | with_reducible refine r_nil ?_
  | with_reducible refine r_test ?_
  | with_reducible refine r_B ?_
  | with_reducible refine r_and ?_
  | with_reducible refine r_or ?_
  | with_reducible refine r_not ?_
  | with_reducible refine r_andV ?_
  | with_reducible refine r_orV ?_
  | with_reducible refine r_notV ?_
  | with_reducible refine r_if ?_
  | with_reducible refine r_tup ?_
  | with_reducible refine r_lst ?_
  | with_reducible refine r_c ?_
  | with_reducible refine r_lc ?_
  | with_reducible refine r_chain ?_
  | with_reducible refine r_iT ?_
  | with_reducible refine r_iL ?_
  | with_reducible refine r_iR1 ?_
  | with_reducible refine r_iR2 ?_
  | with_reducible refine r_iR3 ?_
  | with_reducible refine r_asgG ?_
  | with_reducible refine r_gSub ?_
  | with_reducible refine r_for ?_
  | with_reducible refine r_smeth ?_
  | with_reducible refine r_par ?_
  | with_reducible refine r_parK ?_
  | with_reducible refine r_gCons ?_
  | with_reducible refine r_gNil ?_
  | with_reducible refine r_gName ?_
  | with_reducible refine r_intI ?_
  | with_reducible refine r_intB ?_
  | with_reducible refine r_absI ?_
  | with_reducible refine r_k ?_
  | with_reducible refine r_kV ?_
  | ((with_reducible show tVar _ _ _ _); refine r_var3 ?_ (by rfl))
  | with_reducible refine r_I0 ?_
  | with_reducible refine r_U ?_
  | with_reducible refine r_eqI ?_
  | with_reducible refine r_neI ?_
  | dsimp only)))
/-! ### divided -/
def Bu2 (p q : Addr) (H H' : Hp) : Prop := ∀ b o, b ≠ p → b ≠ q → H b = some o → H' b = some o
theorem Bu2.refl (p q : Addr) (H : Hp) : Bu2 p q H H := fun _ _ _ _ h => h
theorem Bu2.trans {p q : Addr} {H H1 H2 : Hp} (a : Bu2 p q H H1) (b : Bu2 p q H1 H2) : Bu2 p q H H2 := fun c o n m h => b c o n m (a c o n m h)
theorem Bu2.of {p q : Addr} {H H' : Hp} (e : Ex H H') : Bu2 p q H H' := fun b o _ _ h => e b o h
theorem Bu2.l {p q : Addr} {H : Hp} {o : HO} : Bu2 p q H (upd H p o) := fun b u n _ h => by rw [upd_ne n]; exact h
theorem Bu2.r {p q : Addr} {H : Hp} {o : HO} : Bu2 p q H (upd H q o) := fun b u _ n h => by rw [upd_ne n]; exact h
theorem Bu2.of1 {p q : Addr} {H H' : Hp} (e : Bu p H H') : Bu2 p q H H' := fun b o n _ h => e b o n h
/-- it divides -/
def Quo (ns ms Qs : List Int) : Prop := Qs ≠ [] ∧ Qs.length + ms.length = ns.length + 1 ∧ ∀ x, GM.ev ns x = GM.ev Qs x * GM.ev ms x
theorem okN.ne {ns : List Int} (h : okN ns) : ns ≠ [] := fun z => by have := h.1; simp [z] at this
theorem okN.nz {ns : List Int} (h : okN ns) (z : ∀ x, GM.ev ns x = 0) : False := by
  have e : ns = GM.zr ns.length := GM.ext_ev' (by simp [GM.zr_len]) fun x => by rw [z x, GM.ev_zr]
  have p := h.2.2
  rw [e] at p
  cases hn : ns.length with
  | zero => exact h.ne (List.length_eq_zero_iff.mp hn)
  | succ n => rw [hn, GM.zr, List.replicate_succ] at p; simp at p
theorem Quo.eq {ns ms Qs : List Int} (h : Quo ns ms Qs) (h2 : okN ms) : ns = GM.mulH Qs ms := GM.ext_ev' (by rw [GM.mulH_len h2.ne]; have := h.2.1; have := h2.1; omega) fun x => by rw [GM.ev_mulH h2.ne, h.2.2 x]
theorem Quo.ok {ns ms Qs : List Int} (h : Quo ns ms Qs) (h1 : okN ns) (h2 : okN ms) : okN Qs := by
  have e := h.eq h2
  obtain ⟨a1, a2, a3⟩ := h1
  obtain ⟨b1, b2, b3⟩ := h2
  obtain ⟨c1, c2, _⟩ := h
  cases Qs with
  | nil => exact absurd rfl c1
  | cons q Qs =>
    cases ms with
    | nil => simp at b1
    | cons m ms =>
      refine ⟨by simp, by simp only [List.length_cons] at *; omega, ?_⟩
      rw [e, GM.mulH_head] at a3
      simp only [List.headD_cons] at b3 ⊢
      rcases Int.lt_or_le 0 q with c | c
      · exact c
      · have := Int.mul_nonneg (show 0 ≤ -q by omega) (Int.le_of_lt b3)
        rw [Int.neg_mul] at this
        omega
def spDivided (K : PySem.W.Frag) : Sp := sp2 fun v w H Q E => (No K "Poly" H v ∧ Raised K "BadPoly" "part" (.str "poly") H E) ∨
  ∃ a ns, v = .ref a ∧ Pl K H a ns ∧ ((No K "Poly" H w ∧ Raised K "BadPoly" "part" (.str "by") H E) ∨
  ∃ b ms, w = .ref b ∧ Pl K H b ms ∧ (∀ c ∈ ns, Z 1000 c) ∧ (∀ c ∈ ms, Z 200 c) ∧ (∀ Qs, Quo ns ms Qs → (∀ Qs', Quo ns ms Qs' → Qs = Qs') → ∀ p H', H p = none → Ex H H' → Pl K H' p Qs → Q (.ref p) H') ∧
    ((¬ ∃ Qs, Quo ns ms Qs) → Raised K "Misfit" "part" (.str "rest") H E))
structure DivI (ns ms : List Int) (i : Nat) (R F : List Int) : Prop where
  lr : R.length = ns.length
  lf : F.length = i
  sound : ∀ x, GM.ev R x + GM.ev F x * x ^ (ns.length + 1 - ms.length - i) * GM.ev ms x = GM.ev ns x
  exact_ : ∀ Qs, Quo ns ms Qs → R = GM.zr i ++ GM.mulH (Qs.drop i) ms ∧ F = Qs.take i
  size : ∀ c ∈ R, Z (1000 + 201 * i) c
theorem DivI.zero {ns ms : List Int} (h2 : okN ms) (z : ∀ c ∈ ns, Z 1000 c) : DivI ns ms 0 ns [] :=
  ⟨rfl, rfl, fun x => by simp [GM.ev], fun Qs q => ⟨by rw [List.drop_zero]; exact q.eq h2, rfl⟩, z⟩
theorem DivI.step {ns ms R F : List Int} {i : Nat} {m r : Int} (h2 : okN ms) (z2 : ∀ c ∈ ms, Z 200 c) (hm : ms.head? = some m) (hi : i < ns.length + 1 - ms.length) (h : DivI ns ms i R F) (hr : R.getD i 0 = r) : DivI ns ms (i + 1) (GM.addR R i (-(r / m)) ms) (F ++ [r / m]) := by
  have l2 := h2.1
  have fit : i + ms.length ≤ R.length := by rw [h.lr]; omega
  have zr1 : Z (1000 + 201 * i) r := by
    rw [← hr]
    have : i < R.length := by omega
    rw [show R.getD i 0 = R[i] by simp [this]]
    exact h.size _ (List.getElem_mem this)
  have zs : Z (1000 + 201 * i) (r / m) := Nat.lt_of_le_of_lt (Int.natAbs_ediv_le_natAbs r m) zr1
  refine ⟨by rw [GM.addR_len fit, h.lr], by rw [List.length_append, h.lf]; rfl, fun x => ?_, fun Qs q => ?_, fun c hc => ?_⟩
  · rw [GM.ev_addR fit, GM.ev_snoc, h.lr, ← h.sound x, show ns.length - i - ms.length = ns.length + 1 - ms.length - (i + 1) by omega, show ns.length + 1 - ms.length - i = (ns.length + 1 - ms.length - (i + 1)) + 1 by omega, Int.pow_succ]
    grind
  · obtain ⟨e1, e2⟩ := h.exact_ Qs q
    cases ms with
    | nil => simp at l2
    | cons m' ms =>
      cases hm
      have iq : i < Qs.length := by have := q.2.1; simp only [List.length_cons] at *; omega
      have g := GM.div_get (b := m) (bs := ms) iq
      rw [← e1] at g
      have er : r = Qs.getD i 0 * m := by rw [← hr, List.getD_eq_getElem?_getD, g]; rfl
      have hm0 : m ≠ 0 := by have := h2.2.2; simp only [List.headD_cons] at this; omega
      have es : r / m = Qs.getD i 0 := by rw [er, Int.mul_ediv_cancel _ hm0]
      rw [es]
      refine ⟨?_, ?_⟩
      · rw [e1]
        exact GM.div_step iq
      · rw [e2, List.take_add_one]
        simp [iq]
  · obtain ⟨k, hk, e⟩ := List.getElem_of_mem hc
    have hk' : k < R.length := by rw [GM.addR_len fit] at hk; exact hk
    have g := GM.addR_get fit (-(r / m)) hk'
    rw [List.getElem?_eq_getElem hk, e] at g
    rw [Option.some.inj g]
    have zk : Z (1000 + 201 * i) (R.getD k 0) := by
      rw [show R.getD k 0 = R[k] by simp [hk']]
      exact h.size _ (List.getElem_mem hk')
    split
    · have zm : Z 200 (ms.getD (k - i) 0) := by
        have : k - i < ms.length := by omega
        rw [show ms.getD (k - i) 0 = ms[k - i] by simp [this]]
        exact z2 _ (List.getElem_mem this)
      have zn : Z (1000 + 201 * i) (-(r / m)) := by unfold Z; rw [Int.natAbs_neg]; exact zs
      exact ((zk.mono (by omega)).add (zn.mul zm)).mono (by omega)
    · rw [Int.add_zero]
      exact zk.mono (by omega)
theorem get_ints {l : List Int} {j : Nat} (h : j < l.length) : (l.map V.int)[j]? = some (.int (l.getD j 0)) := by
  rw [List.getElem?_map, List.getElem?_eq_getElem h, List.getD_eq_getElem?_getD, List.getElem?_eq_getElem h]
  rfl
theorem any_zero {R : List Int} (h : R.any (· != 0) = false) : R = GM.zr R.length := by
  refine List.ext_getElem (by simp [GM.zr_len]) fun k h1 h2 => ?_
  have := List.any_eq_false.mp h R[k] (List.getElem_mem h1)
  simp at this
  rw [this]
  simp [GM.zr]
theorem any_zr (n : Nat) : (GM.zr n).any (· != 0) = false := by
  rw [List.any_eq_false]
  intro x hx
  simp [(List.mem_replicate.mp hx).2]
theorem r_app {H : Hp} {Q : VK} {l : Addr} {xs : List V} {y : V} (h : H l = some (.lst xs)) (hl : xs.length < 50000) (q : Q .non (upd H l (.lst (xs ++ [y])))) : rAppend (.ref l) [y] H Q := ⟨l, xs, y, rfl, rfl, h, sz_lt (by omega), q⟩
theorem ok_divided {P : Program} {w : World} {K : PySem.W.Frag} {mg : Str → Option Value} {base : Heap} (T : Txt K mg) : ∃ fd, FnOk P w K mg base (L2.CX P w) 5 (He.ga K "divided") fd ["poly", "by"] (spDivided K) ∧ Binds K fd ["poly", "by"] [] ∧ KBn K fd ["poly", "by"] 0 ["by", "poly"] (pm [1, 0]) (pm [1, 0]) := by
  obtain ⟨fd, F⟩ := T.d_divided
  obtain ⟨fd_Poly_init, F_Poly_init, B_Poly_init, kb_Poly_init_0⟩ := ok_Poly_init (P := P) (w := w) (base := base) T
  obtain ⟨fd_Misfit_init, F_Misfit_init, B_Misfit_init⟩ := ok_Misfit_init (P := P) (w := w) (base := base) T
  obtain ⟨fd_need_poly, F_need_poly, B_need_poly⟩ := ok_need_poly (P := P) (w := w) (base := base) T
  refine ⟨fd, F.ok sc_divided sp2_len (fun cdv A outer s H vs Q E hr h => ?_), F.bindsN fun _ _ _ _ _ _ us hl => match us, hl with | [_, _], _ => rfl, kb_of F 0 ["by", "poly"] [1, 0] (fun _ _ _ _ _ _ us ws h1 h2 => match us, ws, h1, h2 with | [], [_, _], _, _ => rfl)⟩
  have hr_Poly_init : Room 4 _ := hr.mono (by decide)
  have hr_Misfit_init : Room 2 _ := hr.mono (by decide)
  have hr_need_poly : Room 3 _ := hr.mono (by decide)
  obtain ⟨v, w', rfl, hh⟩ := sp2_is h
  refine ⟨_, (pss_cons (ps_expr (pe_call F_need_poly hr_need_poly (by rfl) T.g_need_poly T.k_need_poly B_need_poly .nil (passes_call (takes_of rfl rfl rfl rfl) (fun _ _ _ _ h => h)) (pa_cons (pv 0) (pa_cons pe_str pa_nil))))
      (pss_cons (ps_expr (pe_call F_need_poly hr_need_poly (by rfl) T.g_need_poly T.k_need_poly B_need_poly .nil (passes_call (takes_of rfl rfl rfl rfl) (fun _ _ _ _ h => h)) (pa_cons (pv 1) (pa_cons pe_str pa_nil))))
      (pss_cons (ps_set (i := 2) sc_divided.nd rfl (Or.inl rfl) (pe_callTy call_list_of (by rfl) T.b_list (by decide +kernel) (pa_cons (kx_fld rfl (pv 0) rfl) pa_nil)))
      (pss_cons (ps_set (i := 3) sc_divided.nd rfl (Or.inl rfl) (pe_lst pa_nil))
      (pss_cons (ps_for (passes_of rfl) rfl (pi_range1 (by rfl) T.b_range (pa_cons (pe_op op_add (pe_op op_sub (kx_fld rfl (pv 0) rfl) (kx_fld rfl (pv 1) rfl)) pe_int) pa_nil)) (pg_name (i := 4) sc_divided.nd rfl (Or.inl rfl)) (pss_cons (ps_set (i := 5) sc_divided.nd rfl (Or.inl rfl) (pe_op op_fdivW (pe_ix (kx_ixl rfl) (pv 2) (pv 4) (fun _ _ => rfl)) (pe_ix (kx_ixt rfl) (kx_fld rfl (pv 1) rfl) pe_int (fun _ _ => rfl))))
      (pss_cons (ps_expr (pe_bm PySem.F.plainAttrs_list PySem.F.slot_list_append PySem.F.type_list_append mt_append (pv 3) (pa_cons (pv 5) pa_nil)))
      (pss_one (ps_for (passes_of rfl) rfl (pi_enumT (by rfl) T.b_enumerate (pa_cons (kx_fld rfl (pv 1) rfl) pa_nil)) (pg_tup rfl (pgs_cons (pg_name (i := 6) sc_divided.nd rfl (Or.inl rfl)) (pgs_cons (pg_name (i := 7) sc_divided.nd rfl (Or.inl rfl)) pgs_nil))) (pss_one (ps_augS (pv 2) (pe_op op_add (pv 4) (pv 6)) pget_list (pe_op op_mulW (pv 5) (pv 7)) ip_sub set_list)))))))
      (pss_cons (ps_if (pt_val (pe_callB (cr_anyI rfl rfl) (by rfl) T.b_any (by decide +kernel) (pa_cons (pv 2) pa_nil))) (pss_one (ps_raise rfl (takes_of rfl rfl rfl rfl) (pmk_oex T.e_Misfit.o T.e_Misfit.i T.e_Misfit.t F_Misfit_init hr_Misfit_init B_Misfit_init .nil passL rfl T.g_Misfit (pa_cons pe_str pa_nil)))) pss_nil)
      (pss_one (ps_ret (pe_make T.mk_Poly F_Poly_init hr_Poly_init (by rfl) T.g_Poly B_Poly_init .nil (passes_call (takes_of rfl rfl rfl rfl) (fun _ _ _ _ h => h)) (pa_cons (pv 3) pa_nil)))))))))), ?_⟩
  walk_at "rd"
  rcases hh with ⟨no, k⟩ | ⟨a, ns, rfl, ha, hh⟩
  · exact ⟨_, rfl, .inr ⟨no, k⟩⟩
  obtain ⟨dx, fs, hi⟩ := ha.inst
  refine ⟨_, rfl, .inl ⟨⟨_, _, _, rfl, hi⟩, ?_⟩⟩
  walk_at "rd"
  rcases hh with ⟨no, k⟩ | ⟨b, ms, rfl, hb, z1, z2, k, kr⟩
  · exact ⟨_, rfl, .inr ⟨no, k⟩⟩
  obtain ⟨dx2, fs2, hi2⟩ := hb.inst
  refine ⟨_, rfl, .inl ⟨⟨_, _, _, rfl, hi2⟩, ?_⟩⟩
  walk_at "rd"
  refine r_fn T ha fun t1 ht1 => ?_
  walk_at "rd"
  refine r_list (.inr (SqT.of ht1)) fun p H1 hp e1 h1 => ?_
  walk_at "rd"
  refine r_newL (Nat.zero_le _) fun q H2 hq e2 h2 => ?_
  walk_at "rd"
  have ha2 := (ha.ex e1).ex e2
  have hb2 := (hb.ex e1).ex e2
  have hp2 := e2 _ _ h1
  have pq : p ≠ q := by rintro rfl; rw [h1] at hq; cases hq
  have ok1 := ha.ok
  have ok2 := hb.ok
  refine r_fd T ha2 ?_
  walk_at "rd"
  refine r_fd T hb2 ?_
  walk_at "rd"
  have a64 : ns.length ≤ 64 := ok1.2.1
  have b64 : ms.length ≤ 64 := ok2.2.1
  have b1 : 1 ≤ ms.length := ok2.1
  refine ⟨_, rfl, by omega, by omega, ?_⟩
  rw [show ((ns.length : Int) - 1 - ((ms.length : Int) - 1) + 1).toNat = ns.length + 1 - ms.length by omega]
  obtain ⟨m0, hm0⟩ : ∃ m, ms.head? = some m := by cases ms with | nil => simp at b1 | cons m r => exact ⟨m, rfl⟩
  have mpos : 0 < m0 := by have := ok2.2.2; rw [List.headD_eq_head?_getD, hm0] at this; exact this
  have mZ : Z 200 m0 := z2 _ (List.mem_of_head? hm0)
  have keep : ∀ {H' : Hp}, Bu2 p q H2 H' → Pl K H' b ms := fun {H'} bu => by
    obtain ⟨c1, c2, c3, dx, t, c4, c5⟩ := hb2
    have n1 : ∀ {c : Addr} {o : HO}, H2 c = some o → (∀ l, o ≠ .lst l) → c ≠ p ∧ c ≠ q := fun {c o} hc ho => ⟨by rintro rfl; rw [hp2] at hc; exact ho _ (Option.some.inj hc).symm, by rintro rfl; rw [h2] at hc; exact ho _ (Option.some.inj hc).symm⟩
    have f1 := n1 c4 (fun _ z => by cases z)
    have f2 := n1 c5 (fun _ z => by cases z)
    exact ⟨c1, c2, c3, dx, t, bu _ _ f1.1 f1.2 c4, bu _ _ f2.1 f2.2 c5⟩
  refine for_of (walk_range (lo := 0) (n := ns.length + 1 - ms.length)) (fun i σ H' => Bu2 p q H2 H' ∧ ∃ R F, H' p = some (.lst (R.map V.int)) ∧ H' q = some (.lst (F.map V.int)) ∧ DivI ns ms i R F ∧ ∃ s1 s2 s3 s4, σ = [some (.ref a), some (.ref b), some (.ref p), some (.ref q), s1, s2, s3, s4])
    ⟨Bu2.refl _ _ _, ns, [], hp2, h2, DivI.zero ok2 z1, none, none, none, none, rfl⟩ (fun _ _ _ _ _ => trivial) ?_ ?_
  · rintro i x σ H3 H4 hi ⟨b3, R, F, hR, hF, dv, s1, s2, s3, s4, rfl⟩ ⟨rfl, rfl⟩
    have iR : i < R.length := by rw [dv.lr]; omega
    have hb3 := keep b3
    walk_at "rd"
    refine r_ixL hR (v := .int (R.getD i 0)) ?_ ?_
    · rw [Int.zero_add]
      refine atI_nat ?_
      rw [List.getElem?_map]
      simp [iR]
    walk_at "rd"
    refine r_fn T hb3 fun t2 ht2 => ?_
    walk_at "rd"
    refine r_ixT ht2 (v := .int m0) ?_ ?_
    · refine atI_nat (j := 0) ?_
      rw [List.getElem?_map, ← List.head?_eq_getElem?, hm0]
      rfl
    walk_at "rd"
    refine r_I ⟨mpos, Nat.lt_trans (lg_lt mZ (by decide)) (by decide)⟩ ?_
    walk_at "rd"
    refine ⟨_, rfl, .inl ⟨rfl, _, SqL.of hF⟩, ?_⟩
    walk_at "rd"
    refine r_app hF (by rw [List.length_map, dv.lf]; omega) ?_
    walk_at "rd"
    have b4 : Bu2 p q H2 (upd H4 q (.lst (F.map V.int ++ [.int (R.getD i 0 / m0)]))) := b3.trans Bu2.r
    have hR4 : upd H4 q (.lst (F.map V.int ++ [.int (R.getD i 0 / m0)])) p = some (.lst (R.map V.int)) := by rw [upd_ne pq]; exact hR
    have hF4 : upd H4 q (.lst (F.map V.int ++ [.int (R.getD i 0 / m0)])) q = some (.lst ((F ++ [R.getD i 0 / m0]).map V.int)) := by rw [upd_same, List.map_append]; rfl
    generalize upd H4 q (.lst (F.map V.int ++ [.int (R.getD i 0 / m0)])) = H5 at b4 hR4 hF4 ⊢
    refine r_fn T (keep b4) fun t3 ht3 => ?_
    walk_at "rd"
    refine ⟨t3, _, rfl, SqT.of ht3, ?_⟩
    have n3 : t3 ≠ p := by rintro rfl; rw [hR4] at ht3; cases ht3
    have fit : i + ms.length ≤ R.length := by rw [dv.lr]; omega
    have zs : Z 20000 (R.getD i 0 / m0) := by
      refine Nat.lt_of_le_of_lt (Int.natAbs_ediv_le_natAbs _ _) ?_
      have : Z (1000 + 201 * i) (R.getD i 0) := by
        rw [show R.getD i 0 = R[i] by simp [iR]]
        exact dv.size _ (List.getElem_mem iR)
      exact this.mono (by omega)
    refine for_enT (ns := ms) (fun j σ H' => Bu p H5 H' ∧ H' p = some (.lst ((GM.addR R i (-(R.getD i 0 / m0)) (ms.take j)).map V.int)) ∧ ∃ s3 s4, σ = [some (.ref a), some (.ref b), some (.ref p), some (.ref q), some (.int (0 + (i : Nat))), some (.int (R.getD i 0 / m0)), s3, s4])
      ⟨Bu.refl _ _, by rw [List.take_zero, GM.addR_nil _ _ _ (by omega)]; exact hR4, s3, s4, rfl⟩ (fun j σ H' _ p' => p'.1 _ _ n3 ht3) ?_ ?_
    · rintro j its σ H6 H7 hj ⟨b6, hF6, s3', s4', rfl⟩ e7
      have jl : j < ms.length := (List.getElem?_eq_some_iff.mp hj).1
      have hF7 := e7 _ _ hF6
      have fit2 : i + (ms.take j).length ≤ R.length := by simp only [List.length_take]; omega
      have len5 : (GM.addR R i (-(R.getD i 0 / m0)) (ms.take j)).length = R.length := GM.addR_len fit2 _
      have ij : i + j < (GM.addR R i (-(R.getD i 0 / m0)) (ms.take j)).length := by rw [len5]; omega
      walk_at "rd"
      refine ⟨p, _, i + j, .int ((GM.addR R i (-(R.getD i 0 / m0)) (ms.take j)).getD (i + j) 0), rfl, by rw [Int.zero_add]; rfl, SqL.of hF7, ?_, ?_⟩
      · exact get_ints ij
      walk_at "rd"
      refine r_I (mulOk zs (z2 its (List.mem_of_getElem? hj)) (by decide) (by decide) (by decide)) ?_
      refine ⟨_, _, rfl, rfl, ?_⟩
      refine r_setL (n := i + j) hF7 (by rw [List.length_map, Int.zero_add]; exact ixN_nat ij) ?_
      refine ⟨(b6.trans (Bu.of e7)).trans Bu.upd, ?_, some (.int (j : Nat)), some (.int its), rfl⟩
      rw [upd_same, set_ints]
      have g : ms.getD j 0 = its := by rw [List.getD_eq_getElem?_getD, hj]; rfl
      rw [GM.addR_step fit jl _ _ (by rw [g, Int.neg_mul, ← Int.sub_eq_add_neg])]
    · rintro σ H6 ⟨b6, hF6, s3', s4', rfl⟩
      rw [List.take_length] at hF6
      have hq6 := b6 _ _ (Ne.symm pq) hF4
      exact ⟨b4.trans (Bu2.of1 b6), _, _, hF6, hq6, dv.step ok2 z2 hm0 hi rfl, _, _, _, _, rfl⟩
  · rintro σ H3 ⟨b3, R, F, hR, hF, dv, s1, s2, s3, s4, rfl⟩
    walk_at "rd"
    refine ⟨p, R, rfl, .inl (SqL.of hR), ?_⟩
    have e3 : Ex H H3 := fun c o h => b3 c o (by rintro rfl; rw [hp] at h; cases h) (by rintro rfl; rw [e1.free hq] at h; cases h) (e2 _ _ (e1 _ _ h))
    walk_at "rd"
    cases ha0 : R.any (· != 0) with
    | true =>
      refine ite_t rfl (r_err rfl fun d H' e hd => kr ?_ d H' (e3.trans e) hd)
      rintro ⟨Qs, hQ⟩
      obtain ⟨e4, e5⟩ := dv.exact_ Qs hQ
      have lq : Qs.length = ns.length + 1 - ms.length := by have := hQ.2.1; omega
      rw [e4, ← lq, List.drop_length, GM.mulH, GM.zr_append, any_zr] at ha0
      cases ha0
    | false =>
      refine ite_f rfl ?_
      have e4 := any_zero ha0
      have hev : ∀ x, GM.ev ns x = GM.ev F x * GM.ev ms x := fun x => by
        have := dv.sound x
        rw [e4, GM.ev_zr, Nat.sub_self, Int.pow_zero] at this
        rw [← this]
        grind
      have hQ : Quo ns ms F := by
        have fne : F ≠ [] := fun z => ok1.nz fun x => by rw [hev x, z]; simp [GM.ev]
        have := dv.lf
        have : 0 < F.length := List.length_pos_iff.mpr fne
        exact ⟨fne, by omega, hev⟩
      walk_at "rd"
      exact r_Poly ⟨q, rfl, .inl hF⟩ (hQ.ok ok1 ok2) fun r H4 hr e4 hp4 => k F hQ (fun Qs q => by rw [(dv.exact_ Qs q).2, List.take_of_length_le (by have := q.2.1; omega)]) r H4 (e3.free hr) (e3.trans e4) hp4

end K04
namespace K04
open PySem PySem.Spec PyProof.Rows L2 GS TL
local macro_rules | `(tactic| walk_at "rd") => `(tactic| (repeat (first
  | with_reducible refine r_next ?_
  | with_reducible refine r_seq ?_
  | with_reducible refine r_ret ?_
  | with_reducible refine r_ifS ?_
  | with_reducible refine r_asg ?_
  | with_reducible refine r_drop ?_
  | with_reducible refine r_op ?_
  | with_reducible refine r_un ?_
  | with_reducible refine r_cbInt ?_
  | with_reducible refine r_cbAbs ?_
  | with_reducible refine r_cbLen ?_
  | with_reducible refine r_cbList ?_
  | with_reducible refine r_cbTup ?_
  | with_reducible refine r_iEnT ?_
  | with_reducible refine r_iEnL ?_
  | with_reducible refine r_zipA ?_
  | with_reducible refine r_augS ?_
  | with_reducible refine r_cb ?_
  | with_reducible refine r_call ?_
  | with_reducible refine r_make ?_
  | with_reducible refine r_callN0 ?_
  | with_reducible refine r_makeK0 ?_
  | with_reducible refine r_makeS ?_
  | with_reducible refine r_callS ?_
  | with_reducible refine r_cons ?_
  | with_reducible refine r_nil ?_
  | with_reducible refine r_test ?_
  | with_reducible refine r_B ?_
  | with_reducible refine r_and ?_
  | with_reducible refine r_or ?_
  | with_reducible refine r_not ?_
  | with_reducible refine r_andV ?_
  | with_reducible refine r_orV ?_
  | with_reducible refine r_notV ?_
  | with_reducible refine r_if ?_
  | with_reducible refine r_tup ?_
  | with_reducible refine r_lst ?_
  | with_reducible refine r_c ?_
  | with_reducible refine r_lc ?_
  | with_reducible refine r_chain ?_
  | with_reducible refine r_iT ?_
  | with_reducible refine r_iL ?_
  | with_reducible refine r_iR1 ?_
  | with_reducible refine r_iR2 ?_
  | with_reducible refine r_iR3 ?_
  | with_reducible refine r_asgG ?_
  | with_reducible refine r_gSub ?_
  | with_reducible refine r_for ?_
  | with_reducible refine r_smeth ?_
  | with_reducible refine r_par ?_
  | with_reducible refine r_parK ?_
  | with_reducible refine r_gCons ?_
  | with_reducible refine r_gNil ?_
  | with_reducible refine r_gName ?_
  | with_reducible refine r_intI ?_
  | with_reducible refine r_intB ?_
  | with_reducible refine r_absI ?_
  | with_reducible refine r_k ?_
  | with_reducible refine r_kV ?_
  | ((with_reducible show tVar _ _ _ _); refine r_var3 ?_ (by rfl))
  | with_reducible refine r_I0 ?_
  | with_reducible refine r_U ?_
  | with_reducible refine r_eqI ?_
  | with_reducible refine r_neI ?_
  | dsimp only)))
local macro_rules | `(tactic| walk_at "rx") => `(tactic| (repeat (first
  | with_reducible refine r_next ?_
  | with_reducible refine r_ret ?_
  | with_reducible refine r_ifS ?_
  | with_reducible refine r_asg ?_
  | with_reducible refine r_drop ?_
  | with_reducible refine r_op ?_
  | with_reducible refine r_un ?_
  | with_reducible refine r_cbInt ?_
  | with_reducible refine r_cbAbs ?_
  | with_reducible refine r_cbLen ?_
  | with_reducible refine r_cbList ?_
  | with_reducible refine r_cbTup ?_
  | with_reducible refine r_iEnT ?_
  | with_reducible refine r_iEnL ?_
  | with_reducible refine r_zipA ?_
  | with_reducible refine r_augS ?_
  | with_reducible refine r_cb ?_
  | with_reducible refine r_call ?_
  | with_reducible refine r_make ?_
  | with_reducible refine r_callN0 ?_
  | with_reducible refine r_makeK0 ?_
  | with_reducible refine r_makeS ?_
  | with_reducible refine r_callS ?_
  | with_reducible refine r_cons ?_
  | with_reducible refine r_nil ?_
  | with_reducible refine r_test ?_
  | with_reducible refine r_B ?_
  | with_reducible refine r_and ?_
  | with_reducible refine r_or ?_
  | with_reducible refine r_not ?_
  | with_reducible refine r_andV ?_
  | with_reducible refine r_orV ?_
  | with_reducible refine r_notV ?_
  | with_reducible refine r_if ?_
  | with_reducible refine r_tup ?_
  | with_reducible refine r_lst ?_
  | with_reducible refine r_c ?_
  | with_reducible refine r_lc ?_
  | with_reducible refine r_chain ?_
  | with_reducible refine r_iT ?_
  | with_reducible refine r_iL ?_
  | with_reducible refine r_iR1 ?_
  | with_reducible refine r_iR2 ?_
  | with_reducible refine r_iR3 ?_
  | with_reducible refine r_asgG ?_
  | with_reducible refine r_gSub ?_
  | with_reducible refine r_for ?_
  | with_reducible refine r_smeth ?_
  | with_reducible refine r_par ?_
  | with_reducible refine r_parK ?_
  | with_reducible refine r_gCons ?_
  | with_reducible refine r_gNil ?_
  | with_reducible refine r_gName ?_
  | with_reducible refine r_intI ?_
  | with_reducible refine r_intB ?_
  | with_reducible refine r_absI ?_
  | with_reducible refine r_k ?_
  | with_reducible refine r_kV ?_
  | ((with_reducible show tVar _ _ _ _); refine r_var3 ?_ (by rfl))
  | with_reducible refine r_I0 ?_
  | with_reducible refine r_U ?_
  | with_reducible refine r_eqI ?_
  | with_reducible refine r_neI ?_
  | dsimp only)))
/-! ### shifts -/
theorem r_ipA {i j : Int} {H : Hp} {Q : VK} (q : Q (.int (i + j)) H) : ipI (fun i j => i + j) (.int i) (.int j) H Q := ⟨i, j, rfl, rfl, q⟩
def cW (c : Nat → GM.P2) (n : Nat) : List Int := (List.range (n + 1)).map fun k => (c k).1
def cP (c : Nat → GM.P2) (n : Nat) : List Int := (List.range (n + 1)).map fun k => (c k).2
theorem range_set {m j : Nat} {f : Nat → Int} {v : Int} : ((List.range m).map f).set j v = (List.range m).map fun k => if k = j then v else f k := by
  refine List.ext_getElem (by simp) fun k h1 h2 => ?_
  simp at h1
  rw [List.getElem_set]
  by_cases c : j = k
  · simp [c]
  · simp [c, Ne.symm c]
theorem range_congr {m : Nat} {f g : Nat → Int} (h : ∀ k < m, f k = g k) : (List.range m).map f = (List.range m).map g := List.map_congr_left fun k hk => h k (List.mem_range.mp hk)
theorem cW_get {c : Nat → GM.P2} {n k : Nat} (h : k ≤ n) : ((cW c n).map V.int)[k]? = some (.int (c k).1) := by
  rw [get_ints (by simp [cW]; omega), cW]
  simp [show k < n + 1 by omega]
theorem cP_get {c : Nat → GM.P2} {n k : Nat} (h : k ≤ n) : ((cP c n).map V.int)[k]? = some (.int (c k).2) := by
  rw [get_ints (by simp [cP]; omega), cP]
  simp [show k < n + 1 by omega]
def upto (u : Int) (t : GM.P2) (c : Nat → GM.P2) (e : Nat) : Nat → GM.P2 := fun k => if k ≤ e then GM.sc u t c k else c k
theorem upto_zero (u : Int) (t : GM.P2) (c : Nat → GM.P2) : upto u t c 0 = c := by
  funext k
  unfold upto
  split
  · rw [show k = 0 by omega]; rfl
  · rfl
theorem upto_succ {u : Int} {t : GM.P2} {c : Nat → GM.P2} {i k : Nat} : upto u t c (i + 1) k = if k = i + 1 then GM.sc u t c (i + 1) else upto u t c i k := by
  unfold upto
  by_cases h : k = i + 1
  · rw [if_pos (by omega), if_pos h, h]
  · by_cases h2 : k ≤ i
    · rw [if_pos (by omega), if_neg h, if_pos h2]
    · rw [if_neg (by omega), if_neg h, if_neg h2]
def zS (S : Nat) (c : Nat → GM.P2) (n : Nat) : Prop := ∀ k ≤ n, Z S (c k).1 ∧ Z S (c k).2
def spShA (K : PySem.W.Frag) : Sp := sp4 fun v1 v2 v3 v4 H Q _ => ∃ p q b w pt u c n e S, v1 = .ref p ∧ v2 = .ref q ∧ p ≠ q ∧ v3 = .ref b ∧ Bd K H b w pt u ∧ v4 = .int ((e : Nat) : Int) ∧ e ≤ n ∧ n ≤ 12 ∧ 1 ≤ S ∧ S ≤ 40000 ∧ Z 70 w ∧ Z 70 pt ∧ Z 70 u ∧
  H p = some (.lst ((cW c n).map V.int)) ∧ H q = some (.lst ((cP c n).map V.int)) ∧ zS S c n ∧ ∀ H', Bu2 p q H H' → H' p = some (.lst ((cW (upto u (w, pt) c e) n).map V.int)) → H' q = some (.lst ((cP (upto u (w, pt) c e) n).map V.int)) → zS (S + 2520) (upto u (w, pt) c e) n → Q .non H'
theorem Bd.bu2 {K : PySem.W.Frag} {H H' : Hp} {p q b : Addr} {w pt u : Int} {xs ys : List V} (h : Bd K H b w pt u) (e : Bu2 p q H H') (hp : H p = some (.lst xs)) (hq : H q = some (.lst ys)) : Bd K H' b w pt u := by
  obtain ⟨h0, dx, h⟩ := h
  exact ⟨h0, dx, e _ _ (by rintro rfl; rw [hp] at h; cases h) (by rintro rfl; rw [hq] at h; cases h) h⟩
theorem ok_shift_ahead {P : Program} {w : World} {K : PySem.W.Frag} {mg : Str → Option Value} {base : Heap} (T : Txt K mg) : ∃ fd, FnOk P w K mg base (L2.CX P w) 1 (He.ga K "shift_ahead") fd ["wholes", "parts", "bound", "end"] (spShA K) ∧ Binds K fd ["wholes", "parts", "bound", "end"] [] := by
  obtain ⟨fd, F⟩ := T.d_shift_ahead
  refine ⟨fd, F.ok sc_shift_ahead sp4_len (fun cdv A outer s H vs Q E hr h => ?_), F.bindsN fun _ _ _ _ _ _ us hl => match us, hl with | [_, _, _, _], _ => rfl⟩
  obtain ⟨v1, v2, v3, v4, rfl, p, q, b, w1, pt, u, c, n, e, S, rfl, rfl, pq, rfl, hb, rfl, he, hn, hS1, hS, zw, zp, zu, hp, hq, hz, k⟩ := sp4_is h
  refine ⟨_, (pss_one (ps_for (passes_of rfl) rfl (pi_range2 (by rfl) T.b_range (pa_cons pe_int (pa_cons (pe_op op_add (pv 3) pe_int) pa_nil))) (pg_name (i := 4) sc_shift_ahead.nd rfl (Or.inl rfl)) (pss_cons (ps_par (i := 5) (j := 6) (by rfl) sc_shift_ahead.nd rfl rfl (by decide) rfl rfl (pa_cons (pe_ix (kx_ixl rfl) (pv 0) (pe_op op_sub (pv 4) pe_int) (fun _ _ => rfl)) (pa_cons (pe_ix (kx_ixl rfl) (pv 1) (pe_op op_sub (pv 4) pe_int) (fun _ _ => rfl)) pa_nil)) (by rfl))
      (pss_cons (ps_augS (pv 0) (pv 4) pget_list (pe_op op_add (pe_op op_mulW (pv 5) (kx_fld rfl (pv 2) rfl)) (pe_op op_mulW (pe_op op_mulW (pv 6) (kx_fld rfl (pv 2) rfl)) (kx_fld rfl (pv 2) rfl))) ip_add set_list)
      (pss_one (ps_augS (pv 1) (pv 4) pget_list (pe_op op_add (pe_op op_mulW (pv 5) (kx_fld rfl (pv 2) rfl)) (pe_op op_mulW (pv 6) (kx_fld rfl (pv 2) rfl))) ip_add set_list)))))), ?_⟩
  walk_at "rd"
  refine ⟨_, _, rfl, by omega, ?_⟩
  rw [show ((e : Int) + 1 - 1).toNat = e by omega]
  refine for_of (walk_range (lo := 1) (n := e)) (fun i σ H' => Bu2 p q H H' ∧ H' p = some (.lst ((cW (upto u (w1, pt) c i) n).map V.int)) ∧ H' q = some (.lst ((cP (upto u (w1, pt) c i) n).map V.int)) ∧ zS (S + 210 * i) (upto u (w1, pt) c i) n ∧ ∃ s1 s2 s3, σ = [some (.ref p), some (.ref q), some (.ref b), some (.int (e : Nat)), s1, s2, s3])
    ⟨Bu2.refl _ _ _, by rw [upto_zero]; exact hp, by rw [upto_zero]; exact hq, by rw [upto_zero]; exact hz, none, none, none, rfl⟩ (fun _ _ _ _ _ => trivial) ?_ ?_
  · rintro i x σ H1 H2 hi ⟨b1, hp1, hq1, hz1, s1, s2, s3, rfl⟩ ⟨rfl, rfl⟩
    have hb1 := hb.bu2 b1 hp hq
    obtain ⟨za, zb⟩ := hz1 i (by omega)
    have ei : upto u (w1, pt) c i i = GM.sc u (w1, pt) c i := if_pos (Nat.le_refl _)
    rw [ei] at za zb
    walk_at "rd"
    refine r_ixL hp1 (v := .int (GM.sc u (w1, pt) c i).1) (by rw [show (1 : Int) + (i : Nat) - 1 = ((i : Nat) : Int) by omega]; refine atI_nat ?_; rw [cW_get (by omega), ei]) ?_
    walk_at "rd"
    refine r_ixL hq1 (v := .int (GM.sc u (w1, pt) c i).2) (by rw [show (1 : Int) + (i : Nat) - 1 = ((i : Nat) : Int) by omega]; refine atI_nat ?_; rw [cP_get (by omega), ei]) ?_
    walk_at "rd"
    have eat : (1 : Int) + (i : Nat) = ((i + 1 : Nat) : Int) := by omega
    refine ⟨p, _, i + 1, _, rfl, congrArg V.int eat, SqL.of hp1, cW_get (by omega), ?_⟩
    walk_at "rd"
    refine r_bw T hb1 ?_
    refine r_I (mulOk za zw (by omega) (by decide) (by omega)) ?_
    walk_at "rd"
    refine r_bp T hb1 ?_
    refine r_I (mulOk zb zp (by omega) (by decide) (by omega)) ?_
    refine r_bu T hb1 ?_
    refine r_I (mulOk (zb.mul zp) zu (by omega) (by decide) (by omega)) ?_
    walk_at "rd"
    refine r_ipA ?_
    refine r_setL (n := i + 1) hp1 (by rw [eat]; exact ixN_nat (by simp [cW]; omega)) ?_
    have ec : upto u (w1, pt) c i (i + 1) = c (i + 1) := if_neg (by omega)
    have ew : (GM.sc u (w1, pt) c (i + 1)).1 = (c (i + 1)).1 + ((GM.sc u (w1, pt) c i).1 * w1 + (GM.sc u (w1, pt) c i).2 * pt * u) := by
      show (c (i + 1)).1 + (w1 * (GM.sc u (w1, pt) c i).1 + pt * (GM.sc u (w1, pt) c i).2 * u) = _
      grind
    have ep : (GM.sc u (w1, pt) c (i + 1)).2 = (c (i + 1)).2 + ((GM.sc u (w1, pt) c i).1 * pt + (GM.sc u (w1, pt) c i).2 * w1) := by
      show (c (i + 1)).2 + (w1 * (GM.sc u (w1, pt) c i).2 + pt * (GM.sc u (w1, pt) c i).1) = _
      grind
    rw [ec, ← ew, set_ints, show (cW (upto u (w1, pt) c i) n).set (i + 1) (GM.sc u (w1, pt) c (i + 1)).1 = cW (upto u (w1, pt) c (i + 1)) n by
      rw [cW, range_set]
      exact range_congr fun k _ => by rw [upto_succ]; split <;> rfl]
    have b2 : Bu2 p q H (upd H2 p (.lst ((cW (upto u (w1, pt) c (i + 1)) n).map V.int))) := b1.trans Bu2.l
    have hp2 : upd H2 p (.lst ((cW (upto u (w1, pt) c (i + 1)) n).map V.int)) p = some (.lst ((cW (upto u (w1, pt) c (i + 1)) n).map V.int)) := upd_same
    have hq2 : upd H2 p (.lst ((cW (upto u (w1, pt) c (i + 1)) n).map V.int)) q = some (.lst ((cP (upto u (w1, pt) c i) n).map V.int)) := by rw [upd_ne (Ne.symm pq)]; exact hq1
    generalize upd H2 p (.lst ((cW (upto u (w1, pt) c (i + 1)) n).map V.int)) = H3 at b2 hp2 hq2 ⊢
    have hb2 := hb.bu2 b2 hp hq
    walk_at "rd"
    refine ⟨q, _, i + 1, _, rfl, congrArg V.int eat, SqL.of hq2, cP_get (by omega), ?_⟩
    walk_at "rd"
    refine r_bp T hb2 ?_
    refine r_I (mulOk za zp (by omega) (by decide) (by omega)) ?_
    walk_at "rd"
    refine r_bw T hb2 ?_
    refine r_I (mulOk zb zw (by omega) (by decide) (by omega)) ?_
    walk_at "rd"
    refine r_ipA ?_
    refine r_setL (n := i + 1) hq2 (by rw [eat]; exact ixN_nat (by simp [cP]; omega)) ?_
    rw [ec, ← ep, set_ints, show (cP (upto u (w1, pt) c i) n).set (i + 1) (GM.sc u (w1, pt) c (i + 1)).2 = cP (upto u (w1, pt) c (i + 1)) n by
      rw [cP, range_set]
      exact range_congr fun k _ => by rw [upto_succ]; split <;> rfl]
    refine ⟨b2.trans Bu2.r, by rw [upd_ne pq]; exact hp2, upd_same, fun k hk => ?_, _, _, _, rfl⟩
    rw [upto_succ]
    split
    · obtain ⟨z1, z2⟩ := hz1 (i + 1) (by omega)
      rw [ec] at z1 z2
      rw [ew, ep]
      exact ⟨((z1.mono (by omega)).add ((((za.mul zw).mono (by omega)).add ((zb.mul zp).mul zu)).mono (Nat.le_refl _))).mono (by omega), ((z2.mono (by omega)).add ((((za.mul zp).mono (by omega)).add ((zb.mul zw).mono (by omega : _ ≤ S + 210 * i + 140))).mono (Nat.le_refl _))).mono (by omega)⟩
    · obtain ⟨z1, z2⟩ := hz1 k hk
      exact ⟨z1.mono (by omega), z2.mono (by omega)⟩
  · rintro σ H1 ⟨b1, hp1, hq1, hz1, s1, s2, s3, rfl⟩
    exact k H1 b1 hp1 hq1 fun k hk => ⟨(hz1 k hk).1.mono (by omega), (hz1 k hk).2.mono (by omega)⟩
/-- the numbers of a shifted poly -/
def ShB (K : PySem.W.Frag) (H : Hp) (t : Addr) (C : Nat → GM.P2) (m : Nat) (u : Int) : Prop := ∃ ys, H t = some (.tup ys) ∧ ys.length = m ∧ ∀ k, k < m → ∃ a, ys[k]? = some (.ref a) ∧ Bd K H a (C k).1 (C k).2 u
theorem ShB.ex {K : PySem.W.Frag} {H H' : Hp} {t : Addr} {C : Nat → GM.P2} {m : Nat} {u : Int} (h : ShB K H t C m u) (e : Ex H H') : ShB K H' t C m u :=
  let ⟨ys, h1, h2, h3⟩ := h; ⟨ys, e _ _ h1, h2, fun k hk => let ⟨a, h4, h5⟩ := h3 k hk; ⟨a, h4, h5.ex e⟩⟩
def spShifted (K : PySem.W.Frag) : Sp := sp2 fun v w H Q E => (No K "Poly" H v ∧ Raised K "BadPoly" "part" (.str "poly") H E) ∨
  ∃ a ns, v = .ref a ∧ Pl K H a ns ∧ ((No K "Bound" H w ∧ Raised K "BadBound" "part" (.str "bound") H E) ∨
  ∃ b w1 pt u, w = .ref b ∧ Bd K H b w1 pt u ∧ Z 70 w1 ∧ Z 70 pt ∧ Z 70 u ∧ ns.length ≤ 13 ∧ (∀ c ∈ ns, Z 200 c) ∧
    ∀ C t H', Ex H H' → ShB K H' t C ns.length u → (∀ y, GM.eR u (GM.ra (y, 0) (w1, pt)) ns = GM.En y C ns.length) → zS 40000 C (ns.length - 1) → Q (.ref t) H')
theorem Bd.inst {K : PySem.W.Frag} {H : Hp} {a : Addr} {w p u : Int} (h : Bd K H a w p u) : ∃ dx fs, H a = some (.ins (He.ga K "Bound") dx fs) := let ⟨_, dx, h⟩ := h; ⟨dx, _, h⟩
theorem ok_shifted {P : Program} {w : World} {K : PySem.W.Frag} {mg : Str → Option Value} {base : Heap} (T : Txt K mg) : ∃ fd, FnOk P w K mg base (L2.CX P w) 6 (He.ga K "shifted") fd ["poly", "bound"] (spShifted K) ∧ Binds K fd ["poly", "bound"] [] ∧ KBn K fd ["poly", "bound"] 0 ["bound", "poly"] (pm [1, 0]) (pm [1, 0]) := by
  obtain ⟨fd, F⟩ := T.d_shifted
  obtain ⟨fd_Bound_init, F_Bound_init, B_Bound_init⟩ := ok_Bound_init (P := P) (w := w) (base := base) T
  obtain ⟨fd_shift_ahead, F_shift_ahead, B_shift_ahead⟩ := ok_shift_ahead (P := P) (w := w) (base := base) T
  obtain ⟨fd_need_bound, F_need_bound, B_need_bound⟩ := ok_need_bound (P := P) (w := w) (base := base) T
  obtain ⟨fd_need_poly, F_need_poly, B_need_poly⟩ := ok_need_poly (P := P) (w := w) (base := base) T
  refine ⟨fd, F.ok sc_shifted sp2_len (fun cdv A outer s H vs Q E hr h => ?_), F.bindsN fun _ _ _ _ _ _ us hl => match us, hl with | [_, _], _ => rfl, kb_of F 0 ["bound", "poly"] [1, 0] (fun _ _ _ _ _ _ us ws h1 h2 => match us, ws, h1, h2 with | [], [_, _], _, _ => rfl)⟩
  have hr_Bound_init : Room 5 _ := hr.mono (by decide)
  have hr_shift_ahead : Room 1 _ := hr.mono (by decide)
  have hr_need_bound : Room 3 _ := hr.mono (by decide)
  have hr_need_poly : Room 3 _ := hr.mono (by decide)
  obtain ⟨v, w', rfl, hh⟩ := sp2_is h
  refine ⟨_, (pss_cons (ps_expr (pe_call F_need_poly hr_need_poly (by rfl) T.g_need_poly T.k_need_poly B_need_poly .nil (passes_call (takes_of rfl rfl rfl rfl) (fun _ _ _ _ h => h)) (pa_cons (pv 0) (pa_cons pe_str pa_nil))))
      (pss_cons (ps_expr (pe_call F_need_bound hr_need_bound (by rfl) T.g_need_bound T.k_need_bound B_need_bound .nil (passes_call (takes_of rfl rfl rfl rfl) (fun _ _ _ _ h => h)) (pa_cons (pv 1) (pa_cons pe_str pa_nil))))
      (pss_cons (ps_set (i := 2) sc_shifted.nd rfl (Or.inl rfl) (pe_callTy call_list_of (by rfl) T.b_list (by decide +kernel) (pa_cons (kx_fld rfl (pv 0) rfl) pa_nil)))
      (pss_cons (ps_set (i := 3) sc_shifted.nd rfl (Or.inl rfl) (pe_op op_rep (pe_lst (pa_cons pe_int pa_nil)) (pe_callB (kx_lens rfl) (by rfl) T.b_len PySem.boot_len (pa_cons (pv 2) pa_nil))))
      (pss_cons (ps_for (passes_of rfl) rfl (pi_range3 (by rfl) T.b_range (pa_cons (kx_fld rfl (pv 0) rfl) (pa_cons pe_int (pa_cons (pe_un un_neg pe_int) pa_nil)))) (pg_name (i := 4) sc_shifted.nd rfl (Or.inl rfl)) (pss_one (ps_expr (pe_call F_shift_ahead hr_shift_ahead (by rfl) T.g_shift_ahead T.k_shift_ahead B_shift_ahead .nil passL (pa_cons (pv 2) (pa_cons (pv 3) (pa_cons (pv 1) (pa_cons (pv 4) pa_nil))))))))
      (pss_one (ps_ret (pe_callTy call_tuple_of (by rfl) T.b_tuple (by decide +kernel) (pa_cons (pe_lc (own := [("whole", 5), ("part", 6)]) (g := gTup K 2 (gCons (gName 5) (gCons (gName 6) (gNil)))) (tt := tYes)  rfl sc_shifted.nd (RZ.pi_zipA (by rfl) T.b_zip (pa_cons (pv 2) (pa_cons (pv 3) pa_nil))) (blkOk_by (own := [("whole", 5), ("part", 6)]) (N := ["poly", "bound", "wholes", "parts", "end", "whole", "part"]) (sc := defScope s_shifted) (by decide +kernel)) (fun _ _ _ _ _ => (pg_tup rfl (pgs_cons (pg_name (i := 5) sc_shifted.nd rfl (Or.inl rfl)) (pgs_cons (pg_name (i := 6) sc_shifted.nd rfl (Or.inl rfl)) pgs_nil)))) (fun _ _ _ _ _ => pts_nil) (fun _ _ _ _ _ => (pe_make T.mk_Bound F_Bound_init hr_Bound_init (by rfl) T.g_Bound B_Bound_init .nil passL (pa_cons (pv 5) (pa_cons (pv 6) (pa_cons (kx_fld rfl (pv 1) rfl) pa_nil)))))) pa_nil))))))))), ?_⟩
  walk_at "rd"
  rcases hh with ⟨no, k⟩ | ⟨a, ns, rfl, ha, hh⟩
  · exact ⟨_, rfl, .inr ⟨no, k⟩⟩
  obtain ⟨dx, fs, hi⟩ := ha.inst
  refine ⟨_, rfl, .inl ⟨⟨_, _, _, rfl, hi⟩, ?_⟩⟩
  walk_at "rd"
  rcases hh with ⟨no, k⟩ | ⟨b, w1, pt, u, rfl, hb, zw, zp, zu, l13, hz, k⟩
  · exact ⟨_, rfl, .inr ⟨no, k⟩⟩
  obtain ⟨dx2, fs2, hi2⟩ := hb.inst
  refine ⟨_, rfl, .inl ⟨⟨_, _, _, rfl, hi2⟩, ?_⟩⟩
  walk_at "rd"
  refine r_fn T ha fun t1 ht1 => ?_
  walk_at "rd"
  refine r_list (.inr (SqT.of ht1)) fun p H1 hp e1 h1 => ?_
  walk_at "rd"
  refine r_newL (sz_le (by simp)) fun q0 H2 hq0 e2 h2 => ?_
  walk_at "rd"
  refine ⟨p, _, rfl, .inl (SqL.of (e2 _ _ h1)), ?_⟩
  rw [List.length_map]
  refine r_zeros (m := ns.length) h2 rfl (by omega) fun q H3 hq e3 h3 => ?_
  walk_at "rd"
  have ha3 := ((ha.ex e1).ex e2).ex e3
  have hb3 := ((hb.ex e1).ex e2).ex e3
  have hp3 := e3 _ _ (e2 _ _ h1)
  have pq : p ≠ q := by rintro rfl; rw [e2 _ _ h1] at hq; cases hq
  have n1 : 1 ≤ ns.length := ha.1
  refine r_fd T ha3 ?_
  walk_at "rd"
  refine ⟨_, _, _, ns.length - 1, rfl, ?_, ?_⟩
  · have := RgC.neg (i := (ns.length : Int) - 1) (j := 0) (by omega) (by omega) (by omega) (by omega)
    rw [show ((ns.length : Int) - 1 - 0).toNat = ns.length - 1 by omega] at this
    exact this
  have eW : ns = cW (fun k => (ns.getD k 0, 0)) (ns.length - 1) := by
    refine List.ext_getElem (by simp [cW]; omega) fun k h1 h2 => ?_
    simp [cW, h1]
  have eP : GM.zr ns.length = cP (fun k => (ns.getD k 0, 0)) (ns.length - 1) := by
    refine List.ext_getElem (by simp [cP, GM.zr_len]; omega) fun k h1 h2 => ?_
    simp [cP, GM.zr]
  refine for_of (walk_rangeC (lo := (ns.length : Int) - 1) (c := -1) (n := ns.length - 1)) (fun i σ H' => Bu2 p q H3 H' ∧ ∃ c, H' p = some (.lst ((cW c (ns.length - 1)).map V.int)) ∧ H' q = some (.lst ((cP c (ns.length - 1)).map V.int)) ∧ zS (200 + 2520 * i) c (ns.length - 1) ∧
      GM.Shd u (w1, pt) (ns.length - 1) (fun y => GM.eR u (GM.ra (y, 0) (w1, pt)) ns) (ns.length - 1 - i) c ∧ ∃ s1, σ = [some (.ref a), some (.ref b), some (.ref p), some (.ref q), s1, none, none])
    ⟨Bu2.refl _ _ _, _, by rw [← eW]; exact hp3, by rw [← eP]; exact h3, fun k hk => ⟨?_, ?_⟩, GM.Shd.first u (w1, pt) (by omega), none, rfl⟩ (fun _ _ _ _ _ => trivial) ?_ ?_
  · have : k < ns.length := by omega
    show Z _ (ns.getD k 0)
    rw [show ns.getD k 0 = ns[k] by simp [this]]
    exact hz _ (List.getElem_mem this)
  · show (0 : Int).natAbs < 2 ^ _
    exact Nat.pow_pos (by decide)
  · rintro i x σ H4 H5 hi ⟨b4, c, hp4, hq4, hz4, hs4, s1, rfl⟩ ⟨rfl, rfl⟩
    have hb4 := hb3.bu2 b4 hp3 h3
    walk_at "rd"
    refine ⟨p, q, b, w1, pt, u, c, ns.length - 1, ns.length - 1 - i, 200 + 2520 * i, rfl, rfl, pq, rfl, hb4, congrArg V.int (by omega), by omega, by omega, by omega, by omega, zw, zp, zu, hp4, hq4, hz4, fun H6 b6 hp6 hq6 hz6 => ?_⟩
    refine ⟨b4.trans b6, _, hp6, hq6, fun k hk => ⟨(hz6 k hk).1.mono (by omega), (hz6 k hk).2.mono (by omega)⟩, ?_, _, rfl⟩
    have := GM.Shd.step (u := u) (t := (w1, pt)) (n := ns.length - 1) (e := ns.length - 1 - (i + 1)) (P := fun y => GM.eR u (GM.ra (y, 0) (w1, pt)) ns) (c := c) (by omega) (by rw [show ns.length - 1 - (i + 1) + 1 = ns.length - 1 - i by omega]; exact hs4)
    rw [show ns.length - 1 - (i + 1) + 1 = ns.length - 1 - i by omega] at this
    exact this
  · rintro σ H4 ⟨b4, c, hp4, hq4, hz4, hs4, s1, rfl⟩
    rw [Nat.sub_self] at hs4
    have hb4 := hb3.bu2 b4 hp3 h3
    have e4 : Ex H H4 := fun d o h => b4 d o (by rintro rfl; rw [hp] at h; cases h) (by rintro rfl; rw [(e1.trans e2).free hq] at h; cases h) (e3 _ _ (e2 _ _ (e1 _ _ h)))
    walk_at "rd"
    refine ⟨p, q, _, _, rfl, .inl ⟨SqL.of hp4, SqL.of hq4, ?_⟩⟩
    have lw : (cW c (ns.length - 1)).length = ns.length := by simp [cW]; omega
    have lp : (cP c (ns.length - 1)).length = ns.length := by simp [cP]; omega
    refine r_lcP (n := ns.length) (walk_zip (xs := (cW c (ns.length - 1)).map V.int) (ys := (cP c (ns.length - 1)).map V.int) (by simp [lw, lp])) (fun D i ys H' => ys.length = i ∧ ∀ k, k < i → ∃ a, ys[k]? = some (.ref a) ∧ a ≠ D ∧ Bd K H' a (c k).1 (c k).2 u) (by omega) (fun H' e => ⟨e.sql (SqL.of hp4), e.sql (SqL.of hq4)⟩) (fun _ _ _ => ⟨rfl, fun k hk => absurd hk (by omega)⟩) ?_ ?_ ?_
    · rintro D i ys H5 H6 ⟨l, g⟩ bu
      exact ⟨l, fun k hk => let ⟨a, h1, h2, h3, dx, h4⟩ := g k hk; ⟨a, h1, h2, h3, dx, bu _ _ h2 h4⟩⟩
    · rintro D i x ys H5 H6 hi hD e5 hd ⟨l, g⟩ ⟨T', x1, x2, rfl, hT, rfl, g1, g2⟩ N hN
      have g1' := (cW_get (c := c) (n := ns.length - 1) (k := i) (by omega)).symm.trans g1
      have g2' := (cP_get (c := c) (n := ns.length - 1) (k := i) (by omega)).symm.trans g2
      cases g1'
      cases g2'
      refine r_gTup upd_same rfl (r_gCons (r_gName (r_gCons (r_gName (r_gNil ⟨rfl, ?_⟩)))))
      have eT := Ex.new (o := .tup [.int (c i).1, .int (c i).2]) hT
      have hb5 := (hb4.ex e5).ex eT
      walk_at "rd"
      refine r_bu T hb5 ?_
      walk_at "rd"
      refine r_Bound hb.1 fun r H7 hr e7 hbr => hN _ H7 (eT.trans e7) ⟨by rw [List.length_append, l]; rfl, fun k hk => ?_⟩
      by_cases ck : k < i
      · obtain ⟨a', h1, h2, h3⟩ := g k ck
        exact ⟨a', by rw [List.getElem?_append_left (by omega)]; exact h1, h2, (h3.ex eT).ex e7⟩
      · obtain rfl : k = i := by omega
        refine ⟨r, by rw [List.getElem?_append_right (by omega), l, Nat.sub_self]; rfl, ?_, hbr⟩
        rintro rfl
        rw [eT _ _ hd] at hr
        cases hr
    · rintro D ys H5 hD e5 hl l ⟨_, g⟩
      refine r_tupL (SqL.of hl) fun t H6 ht e6 h6 => ?_
      have hn : ns.length - 1 + 1 = ns.length := by omega
      refine k c t H6 ((e4.trans e5).trans e6) ⟨ys, h6, l, fun k hk => let ⟨a, h1, _, h3⟩ := g k hk; ⟨a, h1, h3.ex e6⟩⟩ (fun y => by have := hs4.last y; rw [hn] at this; exact this) fun k hk => ⟨(hz4 k hk).1.mono (by omega), (hz4 k hk).2.mono (by omega)⟩

end K04
namespace K04
open PySem PySem.Spec PyProof.Rows L2 GS TL
local macro_rules | `(tactic| walk_at "rd") => `(tactic| (repeat (first
  | with_reducible refine r_next ?_
  | with_reducible refine r_seq ?_
  | with_reducible refine r_ret ?_
  | with_reducible refine r_ifS ?_
  | with_reducible refine r_asg ?_
  | with_reducible refine r_drop ?_
  | with_reducible refine r_op ?_
  | with_reducible refine r_un ?_
  | with_reducible refine r_cbInt ?_
  | with_reducible refine r_cbAbs ?_
  | with_reducible refine r_cbLen ?_
  | with_reducible refine r_cbList ?_
  | with_reducible refine r_cbTup ?_
  | with_reducible refine r_iEnT ?_
  | with_reducible refine r_iEnL ?_
  | with_reducible refine r_zipA ?_
  | with_reducible refine r_augS ?_
  | with_reducible refine r_cb ?_
  | with_reducible refine r_call ?_
  | with_reducible refine r_make ?_
  | with_reducible refine r_callN0 ?_
  | with_reducible refine r_makeK0 ?_
  | with_reducible refine r_makeS ?_
  | with_reducible refine r_callS ?_
  | with_reducible refine r_cons ?_
  | with_reducible refine r_nil ?_
  | with_reducible refine r_test ?_
  | with_reducible refine r_B ?_
  | with_reducible refine r_and ?_
  | with_reducible refine r_or ?_
  | with_reducible refine r_not ?_
  | with_reducible refine r_andV ?_
  | with_reducible refine r_orV ?_
  | with_reducible refine r_notV ?_
  | with_reducible refine r_if ?_
  | with_reducible refine r_tup ?_
  | with_reducible refine r_lst ?_
  | with_reducible refine r_c ?_
  | with_reducible refine r_lc ?_
  | with_reducible refine r_chain ?_
  | with_reducible refine r_iT ?_
  | with_reducible refine r_iL ?_
  | with_reducible refine r_iR1 ?_
  | with_reducible refine r_iR2 ?_
  | with_reducible refine r_iR3 ?_
  | with_reducible refine r_asgG ?_
  | with_reducible refine r_gSub ?_
  | with_reducible refine r_for ?_
  | with_reducible refine r_smeth ?_
  | with_reducible refine r_par ?_
  | with_reducible refine r_parK ?_
  | with_reducible refine r_gCons ?_
  | with_reducible refine r_gNil ?_
  | with_reducible refine r_gName ?_
  | with_reducible refine r_intI ?_
  | with_reducible refine r_intB ?_
  | with_reducible refine r_absI ?_
  | with_reducible refine r_k ?_
  | with_reducible refine r_kV ?_
  | ((with_reducible show tVar _ _ _ _); refine r_var3 ?_ (by rfl))
  | with_reducible refine r_I0 ?_
  | with_reducible refine r_U ?_
  | with_reducible refine r_eqI ?_
  | with_reducible refine r_neI ?_
  | dsimp only)))
local macro_rules | `(tactic| walk_at "rx") => `(tactic| (repeat (first
  | with_reducible refine r_next ?_
  | with_reducible refine r_ret ?_
  | with_reducible refine r_ifS ?_
  | with_reducible refine r_asg ?_
  | with_reducible refine r_drop ?_
  | with_reducible refine r_op ?_
  | with_reducible refine r_un ?_
  | with_reducible refine r_cbInt ?_
  | with_reducible refine r_cbAbs ?_
  | with_reducible refine r_cbLen ?_
  | with_reducible refine r_cbList ?_
  | with_reducible refine r_cbTup ?_
  | with_reducible refine r_iEnT ?_
  | with_reducible refine r_iEnL ?_
  | with_reducible refine r_zipA ?_
  | with_reducible refine r_augS ?_
  | with_reducible refine r_cb ?_
  | with_reducible refine r_call ?_
  | with_reducible refine r_make ?_
  | with_reducible refine r_callN0 ?_
  | with_reducible refine r_makeK0 ?_
  | with_reducible refine r_makeS ?_
  | with_reducible refine r_callS ?_
  | with_reducible refine r_cons ?_
  | with_reducible refine r_nil ?_
  | with_reducible refine r_test ?_
  | with_reducible refine r_B ?_
  | with_reducible refine r_and ?_
  | with_reducible refine r_or ?_
  | with_reducible refine r_not ?_
  | with_reducible refine r_andV ?_
  | with_reducible refine r_orV ?_
  | with_reducible refine r_notV ?_
  | with_reducible refine r_if ?_
  | with_reducible refine r_tup ?_
  | with_reducible refine r_lst ?_
  | with_reducible refine r_c ?_
  | with_reducible refine r_lc ?_
  | with_reducible refine r_chain ?_
  | with_reducible refine r_iT ?_
  | with_reducible refine r_iL ?_
  | with_reducible refine r_iR1 ?_
  | with_reducible refine r_iR2 ?_
  | with_reducible refine r_iR3 ?_
  | with_reducible refine r_asgG ?_
  | with_reducible refine r_gSub ?_
  | with_reducible refine r_for ?_
  | with_reducible refine r_smeth ?_
  | with_reducible refine r_par ?_
  | with_reducible refine r_parK ?_
  | with_reducible refine r_gCons ?_
  | with_reducible refine r_gNil ?_
  | with_reducible refine r_gName ?_
  | with_reducible refine r_intI ?_
  | with_reducible refine r_intB ?_
  | with_reducible refine r_absI ?_
  | with_reducible refine r_k ?_
  | with_reducible refine r_kV ?_
  | ((with_reducible show tVar _ _ _ _); refine r_var3 ?_ (by rfl))
  | with_reducible refine r_I0 ?_
  | with_reducible refine r_U ?_
  | with_reducible refine r_eqI ?_
  | with_reducible refine r_neI ?_
  | dsimp only)))
/-! ### texts -/
def spIntText (K : PySem.W.Frag) : Sp := sp1 fun v H Q _ => ∃ i, v = .int i ∧ i.natAbs < 10 ^ 60 ∧ ∀ H', Ex H H' → Q (.str (nS i)) H'
theorem ok_integer_text {P : Program} {w : World} {K : PySem.W.Frag} {mg : Str → Option Value} {base : Heap} (T : Txt K mg) : ∃ fd, FnOk P w K mg base (L2.CX P w) 1 (He.ga K "integer_text") fd ["number"] (spIntText K) ∧ Binds K fd ["number"] [] := by
  obtain ⟨fd, F⟩ := T.d_integer_text
  refine ⟨fd, F.ok sc_integer_text sp1_len (fun cdv A outer s H vs Q E hr h => ?_), F.bindsN fun _ _ _ _ _ _ us hl => match us, hl with | [_], _ => rfl⟩
  obtain ⟨v, rfl, i, rfl, hi, k⟩ := sp1_is h
  refine ⟨_, (pss_cons (ps_set (i := 1) sc_integer_text.nd rfl (Or.inl rfl) (pe_op op_powW pe_int pe_int))
      (pss_cons (ps_set (i := 2) sc_integer_text.nd rfl (Or.inl rfl) (pe_callB call_abs (by rfl) T.b_abs (by decide +kernel) (pa_cons (pv 0) pa_nil)))
      (pss_cons (ps_set (i := 3) sc_integer_text.nd rfl (Or.inl rfl) (pe_lst pa_nil))
      (pss_cons (ps_while (passes_of rfl) (pt_cmpR op_ge (pv 2) (pv 1) (nomark _)) (pss_cons (ps_set (i := 3) sc_integer_text.nd rfl (Or.inl rfl) (pe_op op_cat (pe_lst (pa_cons (pe_bm PySem.F.plainAttrs_str PySem.F.slot_str_zfill PySem.F.type_str_zfill mt_zfill (pe_callTy call_str_int (by rfl) T.b_str (by decide +kernel) (pa_cons (pe_op op_mod (pv 2) (pv 1)) pa_nil)) (pa_cons pe_int pa_nil)) pa_nil)) (pv 3)))
      (pss_one (ps_set (i := 2) sc_integer_text.nd rfl (Or.inl rfl) (pe_op op_fdivW (pv 2) (pv 1))))))
      (pss_cons (ps_set (i := 4) sc_integer_text.nd rfl (Or.inl rfl) (pe_ifExp (pt_cmpR op_lt (pv 0) pe_int (nomark _)) pe_str pe_str))
      (pss_one (ps_ret (pe_op op_add_str (pe_op op_add_str (pv 4) (pe_callTy call_str_int (by rfl) T.b_str (by decide +kernel) (pa_cons (pv 2) pa_nil))) (pe_join pe_str (pv 3)))))))))), ?_⟩
  walk_at "rd"
  refine r_I (show CPowW 10 64 from cpow_of (k := 64) (n := 4) (by decide) (by decide)) ?_
  walk_at "rd"
  refine r_newL (Nat.zero_le _) fun p H1 hp e1' h1 => ?_
  walk_at "rd"
  refine ⟨fun _ σ' H' => σ' = _ ∧ H' = H1, ⟨0, rfl, rfl⟩, fun m σ' H' hz => ?_⟩
  obtain ⟨z1, z2⟩ := hz
  rw [z1, z2]
  walk_at "rd"
  refine ite_f (by
    refine decide_eq_false ?_
    have : (10 : Int) ^ (64 : Int).toNat = 10 ^ 64 := rfl
    rw [this]
    have : ((10 : Nat) ^ 60 : Nat) < 10 ^ 64 := by decide
    split <;> omega) ?_
  walk_at "rd"
  refine r_pickS (i := Str.ofString "-") (j := Str.ofString "") (fun Q q => q) (fun Q q => q) ?_
  walk_at "rd"
  refine ⟨_, rfl, ?_, ?_⟩
  · have : (if i < 0 then -i else i).natAbs = i.natAbs := by split <;> omega
    rw [this]
    have h2 : i.natAbs < 2 ^ 1000 := Nat.lt_of_lt_of_le hi (by decide)
    by_cases z : i.natAbs = 0
    · rw [z]; decide +kernel
    · exact Nat.lt_of_lt_of_le ((Nat.log2_lt z).mpr h2) (by decide)
  have ea : ((if i < 0 then -i else i) : Int) = (i.natAbs : Int) := by split <;> omega
  have hz := nS_len (i := (i.natAbs : Int)) (k := 60) (by decide) (by simpa using hi)
  rw [ea]
  refine ⟨_, _, rfl, rfl, ?_, ?_⟩
  · have h5 : (nS (i.natAbs : Int)).length ≤ 61 := hz
    refine sz_le ?_
    have h6 : (if i < 0 then Str.ofString "-" else Str.ofString "").length ≤ 1 := by split <;> decide
    show _ + (nS (i.natAbs : Int)).length ≤ _
    omega
  walk_at "rd"
  refine ⟨⟨_, rfl⟩, _, rfl, ?_⟩
  refine ⟨_, p, [], rfl, rfl, .inl (SqL.of h1), by decide, ?_⟩
  refine ⟨_, _, rfl, rfl, ?_, ?_⟩
  · refine sz_le ?_
    have h6 : (if i < 0 then Str.ofString "-" else Str.ofString "").length ≤ 1 := by split <;> decide
    have e1 : (Txt.join (Str.ofString "") []).length = 0 := by decide
    rw [e1]
    show ((if i < 0 then Str.ofString "-" else Str.ofString "") ++ nS (i.natAbs : Int)).length + 0 ≤ _
    rw [len_tl, tl_append, List.length_append, ← len_tl, ← len_tl]
    omega
  · have e1 : ((if i < 0 then Str.ofString "-" else Str.ofString "") ++ Str.ofString (toString (i.natAbs : Int))) ++ Txt.join (Str.ofString "") [] = nS i := by
      refine str_ext ?_
      rw [tl_append, show tl (Txt.join (Str.ofString "") []) = [] from rfl, List.append_nil, nS_abs i]
      rfl
    rw [e1]
    exact k H1 e1'
/-- a text, whichever -/
def spStr (K : PySem.W.Frag) : Sp := sp1 fun v H Q _ => ∃ a ns, v = .ref a ∧ Pl K H a ns ∧ (∀ c ∈ ns, c.natAbs < 10 ^ 60) ∧ ∀ z H', Ex H H' → Q (.str z) H'
theorem sum_le {l : List Str} {m : Nat} (h : ∀ z ∈ l, z.length ≤ m) : (l.map Str.length).sum ≤ l.length * m := by
  induction l with
  | nil => simp
  | cons z l ih =>
    have a := h z (by simp)
    have b := ih fun z m => h z (by simp [m])
    rw [List.map_cons, List.sum_cons, List.length_cons, Nat.add_mul]
    omega
theorem ok_Poly_str {P : Program} {w : World} {K : PySem.W.Frag} {mg : Str → Option Value} {base : Heap} (T : Txt K mg) : ∃ fd, FnOk P w K mg base (L2.CX P w) 2 (He.ma K (He.ga K "Poly") "__str__") fd ["self"] (spStr K) ∧ Binds K fd ["self"] [] := by
  obtain ⟨fd, F⟩ := T.d_Poly_str
  obtain ⟨fd_integer_text, F_integer_text, B_integer_text⟩ := ok_integer_text (P := P) (w := w) (base := base) T
  refine ⟨fd, F.ok sc_Poly_str sp1_len (fun cdv A outer s H vs Q E hr h => ?_), F.bindsN fun _ _ _ _ _ _ us hl => match us, hl with | [_], _ => rfl⟩
  have hr_integer_text : Room 1 _ := hr.mono (by decide)
  obtain ⟨v, rfl, a, ns, rfl, ha, hz, k⟩ := sp1_is h
  refine ⟨_, (pss_one (ps_ret (pe_join pe_str (pe_lc (own := [("number", 1)]) (g := gName 1) (tt := tYes)  rfl sc_Poly_str.nd (pi_tup (kx_fld rfl (pv 0) rfl)) (blkOk_by (own := [("number", 1)]) (N := ["self", "number"]) (sc := defScope s_Poly_str) (by decide +kernel)) (fun _ _ _ _ _ => (pg_name (i := 1) sc_Poly_str.nd rfl (Or.inl rfl))) (fun _ _ _ _ _ => pts_nil) (fun _ _ _ _ _ => (pe_call F_integer_text hr_integer_text (by rfl) T.g_integer_text T.k_integer_text B_integer_text .nil passL (pa_cons (pv 1) pa_nil))))))), ?_⟩
  walk_at "rd"
  refine ⟨⟨_, rfl⟩, ?_⟩
  walk_at "rd"
  refine r_fn T ha fun t ht => ?_
  refine ⟨t, rfl, ⟨_, SqT.of ht⟩, ?_⟩
  have l64 : ns.length ≤ 64 := ha.2.1
  refine r_lcM (n := ns.length) (k := 1) (by simpa using walk_tup (xs := ns.map V.int)) (fun j => .str (nS (ns.getD j 0))) (by omega) (fun H' e => e.sqt (SqT.of ht)) (fun _ => rfl) ?_ ?_
  · rintro j y H0 H' hj e0 ⟨rfl, hy⟩
    obtain ⟨n, hn, rfl⟩ := int_at hy
    refine ⟨Ex.refl _, fun H3 e3 R r => ?_⟩
    rw [show ns.getD j 0 = n by rw [List.getD_eq_getElem?_getD, hn]; rfl] at r
    exact ⟨_, rfl, n, rfl, hz n (List.mem_of_getElem? hn), fun H4 e4 => r H4 e4⟩
  · intro D H2 hD e2 hl
    refine ⟨_, D, (List.range ns.length).map fun j => nS (ns.getD j 0), rfl, rfl, .inl (SqL.of (by rw [hl, List.map_map]; rfl)), ?_, k _ H2 e2⟩
    have a := sum_le (l := (List.range ns.length).map fun j => nS (ns.getD j 0)) (m := 61) fun z hm => by
      obtain ⟨j, hj, rfl⟩ := List.mem_map.mp hm
      have hj := List.mem_range.mp hj
      refine nS_len (k := 60) (by decide) (hz _ ?_)
      rw [show ns.getD j 0 = ns[j] by simp [hj]]
      exact List.getElem_mem hj
    have : (Str.ofString " ").length = 1 := rfl
    rw [List.length_map, List.length_range] at a
    rw [List.length_map, List.length_range, this]
    have a' : ((List.map (fun x => x.length) (List.map (fun j => nS (ns.getD j 0)) (List.range ns.length))).sum) ≤ ns.length * 61 := a
    omega
/-! ### the bag -/
def spBag (K : PySem.W.Frag) : Sp := sp1 fun v H Q _ => ∃ (L : Addr) (xs : List Int), v = .ref L ∧ SqL K H L (xs.map V.int) ∧ (∀ x ∈ xs, Z 2000000 x) ∧ ∀ b H', Ex H H' → H b = none → Bag H' b 0 → Q (.ref b) H'
theorem cut_map (xs : List Int) (n : Nat) : cutV (xs.map V.int) none (some (n : Int)) = (xs.take n).map V.int := by
  unfold cutV
  rw [HT.sIx_none, HT.sIx_nat, List.drop_zero, List.length_map, Nat.sub_zero, List.map_take]
  by_cases c : n ≤ xs.length
  · rw [Nat.min_eq_left c]
  · rw [Nat.min_eq_right (by omega), List.take_of_length_le (by simp), List.take_of_length_le (by simp; omega)]
theorem range_map (xs : List Int) : ((List.range xs.length).map fun j => V.int (xs.getD j 0)) = xs.map V.int := by
  refine List.ext_getElem (by simp) fun i h1 h2 => ?_
  simp at h1
  simp [h1]
theorem ok__law_bag {P : Program} {w : World} {K : PySem.W.Frag} {mg : Str → Option Value} {base : Heap} (T : Txt K mg) : ∃ fd, FnOk P w K mg base (L2.CX P w) 1 (He.ga K "_law_bag") fd ["script"] (spBag K) ∧ Binds K fd ["script"] [] := by
  obtain ⟨fd, F⟩ := T.d__law_bag
  refine ⟨fd, F.ok sc__law_bag sp1_len (fun cdv A outer s H vs Q E hr h => ?_), F.bindsN fun _ _ _ _ _ _ us hl => match us, hl with | [_], _ => rfl⟩
  obtain ⟨v, rfl, L, xs, rfl, hL, hz, k⟩ := sp1_is h
  refine ⟨_, (pss_one (ps_ret (pe_lst (pa_cons (pe_lc (own := [("cell", 1)]) (g := gName 1) (tt := tYes)  rfl sc__law_bag.nd (pi_list (pe_slice sl_list (pv 0) po_none (po_some pe_int))) (blkOk_by (own := [("cell", 1)]) (N := ["script", "cell"]) (sc := defScope s__law_bag) (by decide +kernel)) (fun _ _ _ _ _ => (pg_name (i := 1) sc__law_bag.nd rfl (Or.inl rfl))) (fun _ _ _ _ _ => pts_nil) (fun _ _ _ _ _ => (pe_callTy call_int1 (by rfl) T.b_int (by decide +kernel) (pa_cons (pv 1) pa_nil)))) (pa_cons pe_int (pa_cons pe_int pa_nil)))))), ?_⟩
  walk_at "rd"
  refine ⟨V.ref L, rfl, 60, rfl, L, _, rfl, hL, fun p hp => ⟨p, rfl, ⟨_, SqL.of upd_same⟩, ?_⟩⟩
  rw [show (60 : Int) = ((60 : Nat) : Int) from rfl, cut_map]
  have hn : (xs.take 60).length ≤ 60 := by rw [List.length_take]; omega
  have e0 : Ex H (upd H p (.lst ((xs.take 60).map V.int))) := Ex.new hp
  have h0 : (upd H p (.lst ((xs.take 60).map V.int))) p = some (.lst ((xs.take 60).map V.int)) := upd_same
  generalize upd H p (.lst ((xs.take 60).map V.int)) = H0 at e0 h0 ⊢
  generalize hy : xs.take 60 = ys at hn h0
  refine r_lcM (n := ys.length) (k := 1) (by simpa using walk_list (xs := ys.map V.int)) (fun j => .int (ys.getD j 0)) (by omega) (fun H' e => SqL.of (e _ _ h0)) (fun _ => rfl) ?_ ?_
  · rintro j y H1 H' hj e1 ⟨rfl, hy⟩
    refine ⟨Ex.refl _, fun H3 e3 R r => ?_⟩
    have : y = .int (ys.getD j 0) := by
      have := hy
      rw [List.getElem?_map] at this
      rw [List.getD_eq_getElem?_getD]
      cases q : ys[j]? with
      | none => rw [q] at this; cases this
      | some a => rw [q] at this; exact (Option.some.inj this).symm
    subst this
    walk_at "rd"
    exact r H3 (Ex.refl _)
  · intro q H2 hq e2 hl
    rw [range_map] at hl
    walk_at "rd"
    refine r_newL (sz_le (by simp)) fun b H3 hb e3 h3 => ?_
    have hbH : H b = none := (e0.trans e2).free hb
    refine k b H3 ((e0.trans e2).trans e3) hbH ⟨q, ys, 0, 0, h3, e3 _ _ hl, ?_, Int.le_refl _, Int.le_refl _, Int.le_refl _, hn, fun x hx => hz x ?_⟩
    · exact ne_of_none hl hb
    · rw [← hy] at hx
      exact List.mem_of_mem_take hx
theorem Z.of {n : Nat} {i j : Int} (h0 : 0 ≤ i) (h : i ≤ j) (hj : Z n j) : Z n i := by
  unfold Z at *
  omega
theorem Z.small {i : Int} (h : i.natAbs < 10000000000) : Z 34 i := Nat.lt_trans h (by decide)
theorem pow1018 : (10 : Int) ^ (18 : Int).toNat = 1000000000000000000 := rfl
theorem p10 (k : Nat) (h : k ≤ 100000) : CPowW 10 (k : Int) := cpow_of (n := 4) (k := k) (by decide) (by omega)
theorem ok__law_draw {P : Program} {w : World} {K : PySem.W.Frag} {mg : Str → Option Value} {base : Heap} (T : Txt K mg) : ∃ fd, FnOk P w K mg base (L2.CX P w) 1 (He.ga K "_law_draw") fd ["bag", "many"] (spDrawG) ∧ Binds K fd ["bag", "many"] [] := by
  obtain ⟨fd, F⟩ := T.d__law_draw
  refine ⟨fd, F.ok sc__law_draw sp2_len (fun cdv A outer s H vs Q E hr h => ?_), F.bindsN fun _ _ _ _ _ _ us hl => match us, hl with | [_, _], _ => rfl⟩
  obtain ⟨b0, m0, rfl, b, m, n, rfl, rfl, m1, mz, hn, hbag, k⟩ := sp2_is h
  refine ⟨_, (pss_cons (ps_if (pt_cmpR op_gt (pe_ix (kx_ixl rfl) (pv 0) pe_int (fun _ _ => rfl)) pe_int (nomark _)) (pss_cons (ps_set (i := 2) sc__law_draw.nd rfl (Or.inl rfl) (pe_ix (kx_ixl rfl) (pv 0) pe_int (fun _ _ => rfl)))
      (pss_cons (ps_asg (pe_op op_fdivW (pe_callTy call_int1 (by rfl) T.b_int (by decide +kernel) (pa_cons (pv 2) pa_nil)) (pv 1)) (pg_sub (pv 0) pe_int set_list))
      (pss_one (ps_ret (pe_op op_mod (pe_callTy call_int1 (by rfl) T.b_int (by decide +kernel) (pa_cons (pv 2) pa_nil)) (pv 1)))))) pss_nil)
      (pss_cons (ps_set (i := 3) sc__law_draw.nd rfl (Or.inl rfl) (pe_ix (kx_ixl rfl) (pv 0) pe_int (fun _ _ => rfl)))
      (pss_cons (ps_asg (pe_op op_add (pv 3) pe_int) (pg_sub (pv 0) pe_int set_list))
      (pss_cons (ps_set (i := 4) sc__law_draw.nd rfl (Or.inl rfl) (pe_op op_add (pe_op op_mulB pe_int (pv 3)) pe_int))
      (pss_cons (ps_if (pt_cmpR (op_neD hr.units) (pe_ix (kx_ixl rfl) (pv 0) pe_int (fun _ _ => rfl)) (pe_lst pa_nil) (nomark _)) (pss_one (ps_set (i := 4) sc__law_draw.nd rfl (Or.inl rfl) (pe_ix (kx_ixl rfl) (pe_ix (kx_ixl rfl) (pv 0) pe_int (fun _ _ => rfl)) (pe_op op_mod (pe_callTy call_int1 (by rfl) T.b_int (by decide +kernel) (pa_cons (pv 3) pa_nil)) (pe_callB (kx_lens rfl) (by rfl) T.b_len PySem.boot_len (pa_cons (pe_ix (kx_ixl rfl) (pv 0) pe_int (fun _ _ => rfl)) pa_nil))) (fun _ _ => rfl)))) pss_nil)
      (pss_cons (ps_if (PW.pt (pw_and (pt_cmpR op_lt (pv 3) (pe_callB (kx_lens rfl) (by rfl) T.b_len PySem.boot_len (pa_cons (pe_ix (kx_ixl rfl) (pv 0) pe_int (fun _ _ => rfl)) pa_nil)) (nomark _)) (pw_and1 (pt_cmpR op_ge (pe_callB call_abs (by rfl) T.b_abs (by decide +kernel) (pa_cons (pv 4) pa_nil)) (pe_op op_powW pe_int pe_int) (nomark _))))) (pss_cons (ps_set (i := 2) sc__law_draw.nd rfl (Or.inl rfl) (pe_op op_add (pe_op op_mulB pe_int (pe_op op_sub (pe_callB call_abs (by rfl) T.b_abs (by decide +kernel) (pa_cons (pv 4) pa_nil)) (pe_op op_powW pe_int pe_int))) (pe_callTy call_int1 (by rfl) T.b_int (by decide +kernel) (pa_cons (pe_cmpR op_lt (pv 4) pe_int (nomark _)) pa_nil))))
      (pss_cons (ps_asg (pe_op op_fdivW (pe_callTy call_int1 (by rfl) T.b_int (by decide +kernel) (pa_cons (pv 2) pa_nil)) (pv 1)) (pg_sub (pv 0) pe_int set_list))
      (pss_one (ps_ret (pe_op op_mod (pe_callTy call_int1 (by rfl) T.b_int (by decide +kernel) (pa_cons (pv 2) pa_nil)) (pv 1)))))) pss_nil)
      (pss_cons (ps_set (i := 5) sc__law_draw.nd rfl (Or.inl rfl) (pe_op op_mod (pe_callTy call_int1 (by rfl) T.b_int (by decide +kernel) (pa_cons (pe_op op_powW (pe_op op_add (pe_op op_add (pe_op op_mod (pe_callTy call_int1 (by rfl) T.b_int (by decide +kernel) (pa_cons (pv 4) pa_nil)) pe_int) (pe_op op_mulB pe_int (pv 3))) pe_int) pe_int) pa_nil)) pe_int))
      (pss_cons (ps_set (i := 5) sc__law_draw.nd rfl (Or.inl rfl) (pe_op op_mod (pe_callTy call_int1 (by rfl) T.b_int (by decide +kernel) (pa_cons (pe_op op_powW (pe_op op_add (pe_op op_add (pe_op op_mulB (pv 5) (pe_op op_add (pe_op op_mulB pe_int (pv 3)) pe_int)) (pe_op op_mulB (pe_op op_mulB pe_int (pv 3)) (pv 3))) pe_int) pe_int) pa_nil)) pe_int))
      (pss_one (ps_ret (pe_op op_mod (pe_callTy call_int1 (by rfl) T.b_int (by decide +kernel) (pa_cons (pe_op op_fdivW (pv 5) pe_int) pa_nil)) (pv 1)))))))))))), ?_⟩
  obtain ⟨L, xs, a, l, hb, hL, hne, ha, han, hl, hx, hz⟩ := hbag.is
  have cd : ∀ i : Int, CDivW i m := fun i => wide_div m1 mz (by decide) (by decide)
  have fin : ∀ (H' : Hp) (x y r : Int), Bu b H H' → H' b = some (.lst [.ref L, .int y, .int x]) → 0 ≤ y → y ≤ n + 1 → 0 ≤ x → 0 ≤ r → r < m → Q (.int r) H' := fun H' x y r hbu hat y0 y1 x0 r0 r1 =>
    k r H' r0 r1 ⟨hbu, fun L' _ _ h => by rw [hb] at h; cases h; exact ⟨_, _, hat⟩⟩ ⟨L, xs, y, x, hat, hbu _ _ hne hL, hne, y0, y1, x0, hx, hz⟩
  have mn : ∀ i : Int, 0 ≤ i % m := fun i => Int.emod_nonneg _ (by omega)
  have ml : ∀ i : Int, i % m < m := fun i => Int.emod_lt_of_pos _ m1
  have dn : ∀ i : Int, 0 ≤ i → 0 ≤ i / m := fun i hi => Int.ediv_nonneg hi (by omega)
  walk_at "rd"
  refine r_ixL hb (v := .int l) rfl ?_
  walk_at "rd"
  by_cases c : 0 < l
  · refine ite_t (decide_eq_true c) ?_
    walk_at "rd"
    refine r_ixL hb (v := .int l) rfl ?_
    walk_at "rd"
    refine r_I (cd l) ?_
    walk_at "rd"
    refine r_setL hb (n := 2) rfl ?_
    walk_at "rd"
    refine r_I m1 ?_
    exact fin _ (l / m) a _ Bu.upd upd_same ha (by omega) (dn l hl) (mn l) (ml l)
  · refine ite_f (decide_eq_false c) ?_
    walk_at "rd"
    refine r_ixL hb (v := .int a) rfl ?_
    walk_at "rd"
    refine r_setL hb (n := 1) rfl ?_
    have za : Z 34 a := Z.small (by omega)
    have hL1 : ∀ o, (upd H b o) L = some (.lst (xs.map V.int)) := fun o => by rw [upd_ne hne]; exact hL
    have hB1 : Bu b H (upd H b (.lst ([V.ref L, .int a, .int l].set 1 (.int (a + 1))))) := Bu.upd
    have hb1 : (upd H b (.lst ([V.ref L, .int a, .int l].set 1 (.int (a + 1))))) b = some (.lst [.ref L, .int (a + 1), .int l]) := upd_same
    have hL1 := hB1 _ _ hne hL
    generalize upd H b _ = H1 at hB1 hb1 hL1 ⊢
    walk_at "rd"
    refine r_I (mulB_of (a := 34) (b := 34) (by decide) za (by decide) (by decide) (by decide)) ?_
    walk_at "rx"
    have z0 : Z 60 (62017 * a + 3359) := by
      unfold Z
      have : (2 : Nat) ^ 60 = 1152921504606846976 := rfl
      omega
    refine r_seqJ (fun σ' H' => ∃ cell, Z 2000000 cell ∧ Ex H1 H' ∧ σ' = [some (.ref b), some (.int m), none, some (.int a), some (.int cell), none]) (fun N hN => ?_) ?_
    · walk_at "rd"
      refine r_ixL hb1 (v := .ref L) rfl ?_
      walk_at "rd"
      refine r_newL (sz_le (by simp)) fun q H2 hq e2 h2 => ?_
      refine r_neInts (xs := xs) (ys := []) (e2 _ _ hL1) h2 ?_
      walk_at "rd"
      by_cases cx : xs = []
      · refine ite_f (by simp [cx]) ?_
        exact hN _ _ ⟨_, z0.mono (by decide), e2, rfl⟩
      · refine ite_t (by simp [cx]) ?_
        walk_at "rd"
        refine r_ixL (e2 _ _ hb1) (v := .ref L) rfl ?_
        walk_at "rd"
        refine r_ixL (e2 _ _ hb1) (v := .ref L) rfl ?_
        walk_at "rd"
        refine r_lenL (e2 _ _ hL1) ?_
        have hpos : 0 < xs.length := List.length_pos_iff.mpr cx
        rw [List.length_map]
        refine r_I (by omega) ?_
        obtain ⟨j, hj⟩ : ∃ j : Nat, a % (xs.length : Int) = (j : Int) := ⟨(a % (xs.length : Int)).toNat, by have := Int.emod_nonneg a (show (xs.length : Int) ≠ 0 by omega); omega⟩
        have hjl : j < xs.length := by have := Int.emod_lt_of_pos a (show (0 : Int) < xs.length by omega); omega
        rw [hj]
        refine r_ixL (e2 _ _ hL1) (v := .int xs[j]) (atI_nat (by rw [List.getElem?_map]; simp [hjl])) ?_
        walk_at "rd"
        exact hN _ _ ⟨xs[j], hz _ (List.getElem_mem hjl), e2, rfl⟩
    · rintro σ' H2 ⟨cell, zc, e2, rfl⟩
      have hb2 := e2 _ _ hb1
      have hL2 := e2 _ _ hL1
      have hB2 : Bu b H H2 := hB1.trans (Bu.of e2)
      refine r_seqJ (fun σ' H' => H' = H2 ∧ σ' = [some (.ref b), some (.int m), none, some (.int a), some (.int cell), none]) (fun N hN => ?_) ?_
      · walk_at "rd"
        refine r_ixL hb2 (v := .ref L) rfl ?_
        walk_at "rd"
        refine r_lenL hL2 ?_
        walk_at "rd"
        refine ite_b (fun _ => ?_) fun _ => ?_
        · walk_at "rd"
          refine r_pow (p10 18 (by decide)) pow1018 ?_
          walk_at "rd"
          refine ite_b (fun c2 => ?_) fun _ => ?_
          · have c3 : (1000000000000000000 : Int) ≤ (if cell < 0 then -cell else cell) := of_decide_eq_true c2
            have zd : Z 2000001 ((if cell < 0 then -cell else cell) - 1000000000000000000) := by
              refine Z.sub ?_ (Z.mono (n := 64) (by unfold Z; decide) (by decide))
              unfold Z at *
              split <;> omega
            walk_at "rd"
            refine r_pow (p10 18 (by decide)) pow1018 ?_
            walk_at "rd"
            refine r_I (mulB_of (i := 2) (a := 2) (by decide) zd (by decide) (by decide) (by decide)) ?_
            walk_at "rd"
            have hl2 : 0 ≤ 2 * ((if cell < 0 then -cell else cell) - 1000000000000000000) + (if decide (cell < 0) = true then 1 else 0) := by split <;> omega
            generalize 2 * ((if cell < 0 then -cell else cell) - 1000000000000000000) + (if decide (cell < 0) = true then 1 else 0) = t at hl2 ⊢
            refine r_I (cd t) ?_
            walk_at "rd"
            refine r_setL hb2 (n := 2) rfl ?_
            walk_at "rd"
            refine r_I m1 ?_
            exact fin _ (t / m) (a + 1) _ (hB2.trans Bu.upd) upd_same (by omega) (by omega) (dn t hl2) (mn t) (ml t)
          · exact hN _ _ ⟨rfl, rfl⟩
        · exact hN _ _ ⟨rfl, rfl⟩
      · rintro σ' H3 ⟨rfl, rfl⟩
        have pm : ∀ (i M : Int), 0 < M → M < 2147483648 → Z 34 (i % M) := fun i M h1 h2 => Z.small (by have := Int.emod_nonneg i (show M ≠ 0 by omega); have := Int.emod_lt_of_pos i h1; omega)
        walk_at "rd"
        refine r_I (by decide) ?_
        walk_at "rd"
        refine r_I (mulB_of (a := 34) (b := 34) (by decide) za (by decide) (by decide) (by decide)) ?_
        walk_at "rd"
        have z1 : Z 70 (cell % 2147483489 + 70123 * a + 3359) := by
          have := pm cell 2147483489 (by decide) (by decide)
          unfold Z at *
          have e1 : (2 : Nat) ^ 70 = 1180591620717411303424 := rfl
          have e2 : (2 : Nat) ^ 34 = 17179869184 := rfl
          omega
        refine r_I (cpow_of (n := 70) (k := 5) z1 (by decide)) ?_
        walk_at "rd"
        refine r_I (by decide) ?_
        walk_at "rd"
        refine r_I (mulB_of (a := 34) (b := 34) (by decide) za (by decide) (by decide) (by decide)) ?_
        walk_at "rd"
        generalize hx1 : (cell % 2147483489 + 70123 * a + 3359) ^ ((5 : Nat) : Int).toNat % 2147483423 = x1
        have zx1 : Z 34 x1 := by rw [← hx1]; exact pm _ _ (by decide) (by decide)
        have z2 : Z 40 (2 * a + 2791) := by
          unfold Z
          have e1 : (2 : Nat) ^ 40 = 1099511627776 := rfl
          omega
        refine r_I (mulB_of zx1 z2 (by decide) (by decide) (by decide)) ?_
        walk_at "rd"
        refine r_I (mulB_of (a := 34) (b := 34) (by decide) za (by decide) (by decide) (by decide)) ?_
        walk_at "rd"
        have z3 : Z 60 (62017 * a) := by
          unfold Z
          have : (2 : Nat) ^ 60 = 1152921504606846976 := rfl
          omega
        refine r_I (mulB_of z3 za (by decide) (by decide) (by decide)) ?_
        walk_at "rd"
        have z4 : Z 120 (x1 * (2 * a + 2791) + 62017 * a * a + 70123) := by
          refine (((zx1.mul z2).mono (m := 100) (by decide)).add ((z3.mul za).mono (m := 100) (by decide))).mono (m := 110) (by decide) |>.add (Z.mono (n := 34) (by unfold Z; decide) (by decide)) |>.mono (by decide)
        refine r_I (cpow_of (n := 120) (k := 3) z4 (by decide)) ?_
        walk_at "rd"
        refine r_I (by decide) ?_
        walk_at "rd"
        refine r_I (wide_div (b := 10) (by decide) (by decide) (by decide) (by decide)) ?_
        walk_at "rd"
        refine r_I m1 ?_
        exact fin _ l (a + 1) _ hB2 hb2 (by omega) (by omega) hl (mn _) (ml _)
/-! ### what is drawn -/
def spPick : Sp := sp2 fun b l H Q _ => ∃ (p : Addr) (n : Int) (L : Addr) (xs : List V), b = .ref p ∧ l = .ref L ∧ H L = some (.lst xs) ∧ L ≠ p ∧ xs ≠ [] ∧ xs.length ≤ 1000 ∧ n ≤ 100000 ∧ Bag H p n ∧ ∀ v H', v ∈ xs → Bg p H H' → Bag H' p (n + 1) → Q v H'
theorem ok__law_pick {P : Program} {w : World} {K : PySem.W.Frag} {mg : Str → Option Value} {base : Heap} (T : Txt K mg) : ∃ fd, FnOk P w K mg base (L2.CX P w) 2 (He.ga K "_law_pick") fd ["bag", "some"] (spPick) ∧ Binds K fd ["bag", "some"] [] := by
  obtain ⟨fd, F⟩ := T.d__law_pick
  obtain ⟨fd__law_draw, F__law_draw, B__law_draw⟩ := ok__law_draw (P := P) (w := w) (base := base) T
  refine ⟨fd, F.ok sc__law_pick sp2_len (fun cdv A outer s H vs Q E hr h => ?_), F.bindsN fun _ _ _ _ _ _ us hl => match us, hl with | [_, _], _ => rfl⟩
  have hr__law_draw : Room 1 _ := hr.mono (by decide)
  obtain ⟨b0, l0, rfl, p, n, L, xs, rfl, rfl, hL, hne, hx, hl, hn, hb, k⟩ := sp2_is h
  refine ⟨_, (pss_one (ps_ret (pe_ix (kx_ixl rfl) (pv 1) (pe_call F__law_draw hr__law_draw (by rfl) T.g__law_draw T.k__law_draw B__law_draw .nil passL (pa_cons (pv 0) (pa_cons (pe_callB (kx_lens rfl) (by rfl) T.b_len PySem.boot_len (pa_cons (pv 1) pa_nil)) pa_nil))) (fun _ _ => rfl)))), ?_⟩
  walk_at "rd"
  refine r_lenL hL ?_
  walk_at "rd"
  have h0 : 0 < xs.length := List.length_pos_iff.mpr hx
  refine r_DrawG hb hn (by omega) (Z.mono (n := 34) (Z.small (by omega)) (by decide)) fun r H' r0 r1 bu hb' => ?_
  walk_at "rd"
  have hj : r.toNat < xs.length := by omega
  have er : r = (r.toNat : Int) := by omega
  rw [er]
  refine r_ixL (bu.at_ hne hL) (v := xs[r.toNat]) (atI_nat (by simp [hj])) ?_
  exact k _ H' (List.getElem_mem hj) bu hb'
def spGreat : Sp := sp1 fun b H Q _ => ∃ (p : Addr) (n : Int), b = .ref p ∧ n ≤ 90000 ∧ Bag H p n ∧ ∀ r H', 0 ≤ r → r < 100000000000000000000 → Bg p H H' → Bag H' p (n + 3) → Q (.int r) H'
theorem p107 : (10 : Int) ^ (7 : Int).toNat = 10000000 := rfl
theorem p106 : (10 : Int) ^ (6 : Int).toNat = 1000000 := rfl
theorem p105 : (10 : Int) ^ (5 : Int).toNat = 100000 := rfl
theorem ok__law_great {P : Program} {w : World} {K : PySem.W.Frag} {mg : Str → Option Value} {base : Heap} (T : Txt K mg) : ∃ fd, FnOk P w K mg base (L2.CX P w) 2 (He.ga K "_law_great") fd ["bag"] (spGreat) ∧ Binds K fd ["bag"] [] := by
  obtain ⟨fd, F⟩ := T.d__law_great
  obtain ⟨fd__law_draw, F__law_draw, B__law_draw⟩ := ok__law_draw (P := P) (w := w) (base := base) T
  refine ⟨fd, F.ok sc__law_great sp1_len (fun cdv A outer s H vs Q E hr h => ?_), F.bindsN fun _ _ _ _ _ _ us hl => match us, hl with | [_], _ => rfl⟩
  have hr__law_draw : Room 1 _ := hr.mono (by decide)
  obtain ⟨b0, rfl, p, n, rfl, hn, hb, k⟩ := sp1_is h
  refine ⟨_, (pss_one (ps_ret (pe_op op_add (pe_op op_mulW (pe_op op_add (pe_op op_mulW (pe_call F__law_draw hr__law_draw (by rfl) T.g__law_draw T.k__law_draw B__law_draw .nil passL (pa_cons (pv 0) (pa_cons (pe_op op_powW pe_int pe_int) pa_nil))) (pe_op op_powW pe_int pe_int)) (pe_call F__law_draw hr__law_draw (by rfl) T.g__law_draw T.k__law_draw B__law_draw .nil passL (pa_cons (pv 0) (pa_cons (pe_op op_powW pe_int pe_int) pa_nil)))) (pe_op op_powW pe_int pe_int)) (pe_call F__law_draw hr__law_draw (by rfl) T.g__law_draw T.k__law_draw B__law_draw .nil passL (pa_cons (pv 0) (pa_cons (pe_op op_powW pe_int pe_int) pa_nil)))))), ?_⟩
  walk_at "rd"
  refine r_pow (p10 7 (by decide)) p107 ?_
  walk_at "rd"
  refine r_DrawG hb (by omega) (by decide) (Z.mono (n := 34) (Z.small (by decide)) (by decide)) fun r1 H1 a1 b1 u1 hb1 => ?_
  walk_at "rd"
  refine r_pow (p10 7 (by decide)) p107 ?_
  refine r_I (mulOk (Z.small (i := r1) (by omega)) (Z.small (i := 10000000) (by decide)) (by decide) (by decide) (by decide)) ?_
  walk_at "rd"
  refine r_pow (p10 7 (by decide)) p107 ?_
  walk_at "rd"
  refine r_DrawG hb1 (by omega) (by decide) (Z.mono (n := 34) (Z.small (by decide)) (by decide)) fun r2 H2 a2 b2 u2 hb2 => ?_
  walk_at "rd"
  refine r_pow (p10 6 (by decide)) p106 ?_
  have z1 : Z 100 (r1 * 10000000 + r2) := by
    unfold Z
    have : (2 : Nat) ^ 100 = 1267650600228229401496703205376 := rfl
    omega
  refine r_I (mulOk z1 (Z.small (i := 1000000) (by decide)) (by decide) (by decide) (by decide)) ?_
  walk_at "rd"
  refine r_pow (p10 6 (by decide)) p106 ?_
  walk_at "rd"
  refine r_DrawG hb2 (by omega) (by decide) (Z.mono (n := 34) (Z.small (by decide)) (by decide)) fun r3 H3 a3 b3 u3 hb3 => ?_
  walk_at "rd"
  refine k _ H3 (by omega) (by omega) ((u1.trans u2).trans u3) ?_
  rw [show n + 3 = n + 1 + 1 + 1 by omega]
  exact hb3

end K04
namespace K04
open PySem PySem.Spec PyProof.Rows L2 GS TL
local macro_rules | `(tactic| walk_at "rd") => `(tactic| (repeat (first
  | with_reducible refine r_next ?_
  | with_reducible refine r_seq ?_
  | with_reducible refine r_ret ?_
  | with_reducible refine r_ifS ?_
  | with_reducible refine r_asg ?_
  | with_reducible refine r_drop ?_
  | with_reducible refine r_op ?_
  | with_reducible refine r_un ?_
  | with_reducible refine r_cbInt ?_
  | with_reducible refine r_cbAbs ?_
  | with_reducible refine r_cbLen ?_
  | with_reducible refine r_cbList ?_
  | with_reducible refine r_cbTup ?_
  | with_reducible refine r_iEnT ?_
  | with_reducible refine r_iEnL ?_
  | with_reducible refine r_zipA ?_
  | with_reducible refine r_augS ?_
  | with_reducible refine r_cb ?_
  | with_reducible refine r_call ?_
  | with_reducible refine r_make ?_
  | with_reducible refine r_callN0 ?_
  | with_reducible refine r_makeK0 ?_
  | with_reducible refine r_makeS ?_
  | with_reducible refine r_callS ?_
  | with_reducible refine r_cons ?_
  | with_reducible refine r_nil ?_
  | with_reducible refine r_test ?_
  | with_reducible refine r_B ?_
  | with_reducible refine r_and ?_
  | with_reducible refine r_or ?_
  | with_reducible refine r_not ?_
  | with_reducible refine r_andV ?_
  | with_reducible refine r_orV ?_
  | with_reducible refine r_notV ?_
  | with_reducible refine r_if ?_
  | with_reducible refine r_tup ?_
  | with_reducible refine r_lst ?_
  | with_reducible refine r_c ?_
  | with_reducible refine r_lc ?_
  | with_reducible refine r_chain ?_
  | with_reducible refine r_iT ?_
  | with_reducible refine r_iL ?_
  | with_reducible refine r_iR1 ?_
  | with_reducible refine r_iR2 ?_
  | with_reducible refine r_iR3 ?_
  | with_reducible refine r_asgG ?_
  | with_reducible refine r_gSub ?_
  | with_reducible refine r_for ?_
  | with_reducible refine r_smeth ?_
  | with_reducible refine r_par ?_
  | with_reducible refine r_parK ?_
  | with_reducible refine r_gCons ?_
  | with_reducible refine r_gNil ?_
  | with_reducible refine r_gName ?_
  | with_reducible refine r_intI ?_
  | with_reducible refine r_intB ?_
  | with_reducible refine r_absI ?_
  | with_reducible refine r_k ?_
  | with_reducible refine r_kV ?_
  | ((with_reducible show tVar _ _ _ _); refine r_var3 ?_ (by rfl))
  | with_reducible refine r_I0 ?_
  | with_reducible refine r_U ?_
  | with_reducible refine r_eqI ?_
  | with_reducible refine r_neI ?_
  | dsimp only)))
local macro_rules | `(tactic| walk_at "rx") => `(tactic| (repeat (first
  | with_reducible refine r_next ?_
  | with_reducible refine r_ret ?_
  | with_reducible refine r_ifS ?_
  | with_reducible refine r_asg ?_
  | with_reducible refine r_drop ?_
  | with_reducible refine r_op ?_
  | with_reducible refine r_un ?_
  | with_reducible refine r_cbInt ?_
  | with_reducible refine r_cbAbs ?_
  | with_reducible refine r_cbLen ?_
  | with_reducible refine r_cbList ?_
  | with_reducible refine r_cbTup ?_
  | with_reducible refine r_iEnT ?_
  | with_reducible refine r_iEnL ?_
  | with_reducible refine r_zipA ?_
  | with_reducible refine r_augS ?_
  | with_reducible refine r_cb ?_
  | with_reducible refine r_call ?_
  | with_reducible refine r_make ?_
  | with_reducible refine r_callN0 ?_
  | with_reducible refine r_makeK0 ?_
  | with_reducible refine r_makeS ?_
  | with_reducible refine r_callS ?_
  | with_reducible refine r_cons ?_
  | with_reducible refine r_nil ?_
  | with_reducible refine r_test ?_
  | with_reducible refine r_B ?_
  | with_reducible refine r_and ?_
  | with_reducible refine r_or ?_
  | with_reducible refine r_not ?_
  | with_reducible refine r_andV ?_
  | with_reducible refine r_orV ?_
  | with_reducible refine r_notV ?_
  | with_reducible refine r_if ?_
  | with_reducible refine r_tup ?_
  | with_reducible refine r_lst ?_
  | with_reducible refine r_c ?_
  | with_reducible refine r_lc ?_
  | with_reducible refine r_chain ?_
  | with_reducible refine r_iT ?_
  | with_reducible refine r_iL ?_
  | with_reducible refine r_iR1 ?_
  | with_reducible refine r_iR2 ?_
  | with_reducible refine r_iR3 ?_
  | with_reducible refine r_asgG ?_
  | with_reducible refine r_gSub ?_
  | with_reducible refine r_for ?_
  | with_reducible refine r_smeth ?_
  | with_reducible refine r_par ?_
  | with_reducible refine r_parK ?_
  | with_reducible refine r_gCons ?_
  | with_reducible refine r_gNil ?_
  | with_reducible refine r_gName ?_
  | with_reducible refine r_intI ?_
  | with_reducible refine r_intB ?_
  | with_reducible refine r_absI ?_
  | with_reducible refine r_k ?_
  | with_reducible refine r_kV ?_
  | ((with_reducible show tVar _ _ _ _); refine r_var3 ?_ (by rfl))
  | with_reducible refine r_I0 ?_
  | with_reducible refine r_U ?_
  | with_reducible refine r_eqI ?_
  | with_reducible refine r_neI ?_
  | dsimp only)))
/-! ### numbers that are drawn -/
def c20 (i : Int) : Prop := i.natAbs < 100000000000000000000
theorem c20.z {i : Int} (h : c20 i) : Z 67 i := Nat.lt_trans h (by decide)
theorem Bg.bag {p a : Addr} {H : Hp} {n : Int} {o : HO} (hb : Bag H p n) (h : H a = some o) (ho : ∀ L x y, o ≠ .lst [.ref L, .int x, .int y]) : a ≠ p := hb.ne h ho
theorem r_Great {H : Hp} {Q : VK} {E : XK} {p : Addr} {n : Int} (hb : Bag H p n) (hn : n ≤ 90000) (k : ∀ r H', 0 ≤ r → r < 100000000000000000000 → Bg p H H' → Bag H' p (n + 3) → Q (.int r) H') : spGreat ([.ref p] ++ []) H Q E := ⟨p, n, rfl, hn, hb, k⟩
def spNumber : Sp := sp2 fun b w H Q _ => ∃ (p : Addr) (n way : Int), b = .ref p ∧ w = .int way ∧ n ≤ 80000 ∧ Bag H p n ∧ ∀ r H', c20 r → Bg p H H' → Bag H' p (n + 5) → Q (.int r) H'
theorem zsm {i : Int} (h : i.natAbs < 10000000000) : Z 1000 i := Z.mono (n := 34) (Z.small h) (by decide)
theorem ok__law_number {P : Program} {w : World} {K : PySem.W.Frag} {mg : Str → Option Value} {base : Heap} (T : Txt K mg) : ∃ fd, FnOk P w K mg base (L2.CX P w) 3 (He.ga K "_law_number") fd ["bag", "way"] (spNumber) ∧ Binds K fd ["bag", "way"] [] := by
  obtain ⟨fd, F⟩ := T.d__law_number
  obtain ⟨fd__law_draw, F__law_draw, B__law_draw⟩ := ok__law_draw (P := P) (w := w) (base := base) T
  obtain ⟨fd__law_great, F__law_great, B__law_great⟩ := ok__law_great (P := P) (w := w) (base := base) T
  refine ⟨fd, F.ok sc__law_number sp2_len (fun cdv A outer s H vs Q E hr h => ?_), F.bindsN fun _ _ _ _ _ _ us hl => match us, hl with | [_, _], _ => rfl⟩
  have hr__law_draw : Room 1 _ := hr.mono (by decide)
  have hr__law_great : Room 2 _ := hr.mono (by decide)
  obtain ⟨b0, w0, rfl, p, n, way, rfl, rfl, hn, hb, k⟩ := sp2_is h
  refine ⟨_, (pss_cons (ps_if (PW.pt (pw_and (pt_cmpR op_eq (pv 1) pe_int (nomark _)) (pw_and1 (pt_cmpR op_gt (pe_call F__law_draw hr__law_draw (by rfl) T.g__law_draw T.k__law_draw B__law_draw .nil passL (pa_cons (pv 0) (pa_cons pe_int pa_nil))) pe_int (nomark _))))) (pss_one (ps_ret pe_int)) pss_nil)
      (pss_cons (ps_set (i := 2) sc__law_number.nd rfl (Or.inl rfl) (pe_ifExp (pt_cmpR op_eq (pv 1) pe_int (nomark _)) (pe_call F__law_great hr__law_great (by rfl) T.g__law_great T.k__law_great B__law_great .nil passL (pa_cons (pv 0) pa_nil)) (pe_call F__law_draw hr__law_draw (by rfl) T.g__law_draw T.k__law_draw B__law_draw .nil passL (pa_cons (pv 0) (pa_cons pe_int pa_nil)))))
      (pss_one (ps_ret (pe_op op_sub (pv 2) (pe_op op_mulW (pe_op op_mulW pe_int (pv 2)) (pe_call F__law_draw hr__law_draw (by rfl) T.g__law_draw T.k__law_draw B__law_draw .nil passL (pa_cons (pv 0) (pa_cons pe_int pa_nil))))))))), ?_⟩
  refine r_seqJ (fun σ' H' => σ' = [some (.ref p), some (.int way), none] ∧ Bg p H H' ∧ Bag H' p (n + 1)) (fun N hN => ?_) ?_
  · walk_at "rd"
    by_cases c : way = 1
    · refine ite_t (decide_eq_true c) ?_
      walk_at "rd"
      refine r_DrawG hb (by omega) (by decide) (zsm (by decide)) fun r H1 r0 r1 g1 hb1 => ?_
      walk_at "rd"
      by_cases c2 : 0 < r
      · refine ite_t (decide_eq_true c2) ?_
        walk_at "rd"
        exact k 0 H1 (by show Int.natAbs 0 < _; decide) g1 (hb1.le (by omega))
      · refine ite_f (decide_eq_false c2) ?_
        walk_at "rd"
        exact hN _ _ ⟨rfl, g1, hb1⟩
    · refine ite_f (decide_eq_false c) ?_
      walk_at "rd"
      exact ite_f rfl (hN _ _ ⟨rfl, Bg.refl _ _, hb.le (by omega)⟩)
  · rintro σ' H1 ⟨rfl, g1, hb1⟩
    refine r_seqJ (fun σ' H' => ∃ s, σ' = [some (.ref p), some (.int way), some (.int s)] ∧ 0 ≤ s ∧ s < 100000000000000000000 ∧ Bg p H H' ∧ Bag H' p (n + 4)) (fun N hN => ?_) ?_
    · walk_at "rd"
      by_cases c : way = 2
      · refine ite_t (decide_eq_true c) ?_
        walk_at "rd"
        refine r_Great hb1 (by omega) fun r H2 r0 r1 g2 hb2 => ?_
        walk_at "rd"
        exact hN _ _ ⟨r, rfl, r0, r1, g1.trans g2, hb2.le (by omega)⟩
      · refine ite_f (decide_eq_false c) ?_
        walk_at "rd"
        refine r_DrawG hb1 (by omega) (by decide) (zsm (by decide)) fun r H2 r0 r1 g2 hb2 => ?_
        walk_at "rd"
        exact hN _ _ ⟨r, rfl, r0, by omega, g1.trans g2, hb2.le (by omega)⟩
    · rintro σ' H2 ⟨s, rfl, s0, s1, g2, hb2⟩
      walk_at "rd"
      have zs : Z 67 s := Nat.lt_trans (show s.natAbs < 100000000000000000000 by omega) (by decide)
      refine r_I (mulOk (Z.small (i := 2) (by decide)) zs (by decide) (by decide) (by decide)) ?_
      walk_at "rd"
      refine r_DrawG hb2 (by omega) (by decide) (zsm (by decide)) fun r H3 r0 r1 g3 hb3 => ?_
      walk_at "rd"
      refine r_I (mulOk ((Z.small (i := 2) (by decide)).mul zs) (Z.small (i := r) (by omega)) (by decide) (by decide) (by decide)) ?_
      walk_at "rd"
      refine k _ H3 ?_ (g2.trans g3) (hb3.le (by omega))
      rcases (show r = 0 ∨ r = 1 by omega) with rfl | rfl
      · rw [Int.mul_zero]
        show Int.natAbs _ < _
        omega
      · rw [Int.mul_one]
        show Int.natAbs _ < _
        omega
theorem r_Number {H : Hp} {Q : VK} {E : XK} {p : Addr} {n way : Int} (hb : Bag H p n) (hn : n ≤ 80000) (k : ∀ r H', c20 r → Bg p H H' → Bag H' p (n + 5) → Q (.int r) H') : spNumber ([.ref p, .int way] ++ []) H Q E := ⟨p, n, way, rfl, rfl, hn, hb, k⟩
/-- numbers of a poly -/
def dN (ns : List Int) (d : Nat) : Prop := ns.length = d + 1 ∧ 0 < ns.headD 0 ∧ ∀ c ∈ ns, c.natAbs ≤ 100000000000000000000
theorem dN.z {ns : List Int} {d : Nat} (h : dN ns d) : ∀ c ∈ ns, Z 67 c := fun c m => Nat.lt_of_le_of_lt (h.2.2 c m) (by decide)
def spNumbers : Sp := sp3 fun b d w H Q _ => ∃ (p : Addr) (n way : Int) (d' : Nat), b = .ref p ∧ d = .int (d' : Nat) ∧ w = .int way ∧ d' ≤ 40 ∧ n ≤ 70000 ∧ Bag H p n ∧ ∀ ns L H', dN ns d' → H L = none → H' L = some (.lst (ns.map V.int)) → Bg p H H' → Bag H' p (n + 4 + 5 * d') → Q (.ref L) H'
theorem ok__law_numbers {P : Program} {w : World} {K : PySem.W.Frag} {mg : Str → Option Value} {base : Heap} (T : Txt K mg) : ∃ fd, FnOk P w K mg base (L2.CX P w) 4 (He.ga K "_law_numbers") fd ["bag", "degree", "way"] (spNumbers) ∧ Binds K fd ["bag", "degree", "way"] [] := by
  obtain ⟨fd, F⟩ := T.d__law_numbers
  obtain ⟨fd__law_number, F__law_number, B__law_number⟩ := ok__law_number (P := P) (w := w) (base := base) T
  obtain ⟨fd__law_draw, F__law_draw, B__law_draw⟩ := ok__law_draw (P := P) (w := w) (base := base) T
  obtain ⟨fd__law_great, F__law_great, B__law_great⟩ := ok__law_great (P := P) (w := w) (base := base) T
  refine ⟨fd, F.ok sc__law_numbers sp3_len (fun cdv A outer s H vs Q E hr h => ?_), F.bindsN fun _ _ _ _ _ _ us hl => match us, hl with | [_, _, _], _ => rfl⟩
  have hr__law_number : Room 3 _ := hr.mono (by decide)
  have hr__law_draw : Room 1 _ := hr.mono (by decide)
  have hr__law_great : Room 2 _ := hr.mono (by decide)
  obtain ⟨b0, d0, w0, rfl, p, n, way, d, rfl, rfl, rfl, hd, hn, hb, k⟩ := sp3_is h
  refine ⟨_, (pss_cons (ps_set (i := 3) sc__law_numbers.nd rfl (Or.inl rfl) (pe_ifExp (pt_cmpR op_eq (pe_call F__law_draw hr__law_draw (by rfl) T.g__law_draw T.k__law_draw B__law_draw .nil passL (pa_cons (pv 0) (pa_cons pe_int pa_nil))) pe_int (nomark _)) pe_int (pe_op op_add pe_int (pe_ifExp (pt_cmpR op_eq (pv 2) pe_int (nomark _)) (pe_call F__law_great hr__law_great (by rfl) T.g__law_great T.k__law_great B__law_great .nil passL (pa_cons (pv 0) pa_nil)) (pe_call F__law_draw hr__law_draw (by rfl) T.g__law_draw T.k__law_draw B__law_draw .nil passL (pa_cons (pv 0) (pa_cons pe_int pa_nil)))))))
      (pss_one (ps_ret (pe_op op_cat (pe_lst (pa_cons (pv 3) pa_nil)) (pe_lc (own := [("power", 4)]) (g := gName 4) (tt := tYes)  rfl sc__law_numbers.nd (pi_range1 (by rfl) T.b_range (pa_cons (pv 1) pa_nil)) (blkOk_by (own := [("power", 4)]) (N := ["bag", "degree", "way", "first", "power"]) (sc := defScope s__law_numbers) (by decide +kernel)) (fun _ _ _ _ _ => (pg_name (i := 4) sc__law_numbers.nd rfl (Or.inl rfl))) (fun _ _ _ _ _ => pts_nil) (fun _ _ _ _ _ => (pe_call F__law_number hr__law_number (by rfl) T.g__law_number T.k__law_number B__law_number .nil passL (pa_cons (pv 0) (pa_cons (pv 2) pa_nil))))))))), ?_⟩
  refine r_seqJ (fun σ' H' => ∃ s, σ' = [some (.ref p), some (.int (d : Nat)), some (.int way), some (.int s), none] ∧ 1 ≤ s ∧ s ≤ 100000000000000000000 ∧ Bg p H H' ∧ Bag H' p (n + 4)) (fun N hN => ?_) ?_
  · walk_at "rd"
    refine r_DrawG hb (by omega) (by decide) (zsm (by decide)) fun r H1 r0 r1 g1 hb1 => ?_
    walk_at "rd"
    by_cases c : r = 0
    · refine ite_t (decide_eq_true c) ?_
      walk_at "rd"
      exact hN _ _ ⟨1, rfl, by decide, by decide, g1, hb1.le (by omega)⟩
    · refine ite_f (decide_eq_false c) ?_
      walk_at "rd"
      by_cases c2 : way = 2
      · refine ite_t (decide_eq_true c2) ?_
        walk_at "rd"
        refine r_Great hb1 (by omega) fun r2 H2 a0 a1 g2 hb2 => ?_
        walk_at "rd"
        exact hN _ _ ⟨_, rfl, by omega, by omega, g1.trans g2, hb2.le (by omega)⟩
      · refine ite_f (decide_eq_false c2) ?_
        walk_at "rd"
        refine r_DrawG hb1 (by omega) (by decide) (zsm (by decide)) fun r2 H2 a0 a1 g2 hb2 => ?_
        walk_at "rd"
        exact hN _ _ ⟨_, rfl, by omega, by omega, g1.trans g2, hb2.le (by omega)⟩
  · rintro σ' H1 ⟨s, rfl, s0, s1, g1, hb1⟩
    walk_at "rd"
    refine r_newL (sz_le (by simp)) fun A H2 hA e2 h2 => ?_
    walk_at "rd"
    have hb2 := hb1.ex e2
    have nA : A ≠ p := hb2.ne h2 (fun _ _ _ z => by cases z)
    refine ⟨_, rfl, by omega, by omega, ?_⟩
    rw [Int.toNat_natCast]
    refine r_lcG (n := d) (walk_range (lo := 0) (n := d)) (fun D i ys H' => ∃ zs : List Int, ys = zs.map V.int ∧ (∀ z ∈ zs, c20 z) ∧ Bg p H2 H' ∧ Bag H' p (n + 4 + 5 * (i : Nat))) (by omega) (fun _ _ _ _ _ => trivial) (fun D hD => ⟨[], rfl, (fun _ z => by cases z), (Bg.refl p H2).updD hb2 hD, (hb2.le (by omega)).updD hb2 (Bg.refl p H2) hD⟩) ?_ ?_ ?_
    · rintro D i ys H' o hD ⟨zs, e, hz, g, hb'⟩
      exact ⟨zs, e, hz, g.updD hb2 hD, hb'.updD hb2 g hD⟩
    · rintro D i x ys H' H3 hi hD hl li ⟨zs, rfl, hz, g, hb'⟩ ⟨rfl, rfl⟩ N hN
      refine r_gName ⟨rfl, ?_⟩
      walk_at "rd"
      have nD : D ≠ p := by rintro rfl; have := hb2.is; obtain ⟨L, xs, a, l, h1, _⟩ := this; rw [hD] at h1; cases h1
      refine r_Number hb' (by omega) fun r H4 hr g4 hb4 => hN _ H4 (g4.at_ nD hl) ⟨zs ++ [r], by simp, fun z hm => ?_, g.trans g4, hb4.le (by omega)⟩
      rcases List.mem_append.mp hm with hm | hm
      · exact hz z hm
      · rw [List.mem_singleton.mp hm]; exact hr
    · rintro D ys H' hD hl l ⟨zs, rfl, hz, g, hb'⟩
      have hA' := g.at_ nA h2
      refine ⟨A, D, _, _, rfl, rfl, hA', hl, sz_le (by simp at l ⊢; omega), fun q hq => ?_⟩
      have eq : (V.int s :: zs.map V.int) = (s :: zs).map V.int := rfl
      refine k (s :: zs) q _ ⟨by simp at l ⊢; omega, by show 0 < s; omega, fun c hc => ?_⟩ ?_ ?_ ((g1.trans (Bg.of e2)).trans (g.trans (Bg.of (Ex.new hq)))) ((hb'.le (by omega)).ex (Ex.new hq))
      · rcases List.mem_cons.mp hc with rfl | hc
        · omega
        · exact Nat.le_of_lt (hz c hc)
      · have f : ∀ {H0 H'' : Hp}, Bg p H0 H'' → H'' q = none → q ≠ p → H0 q = none := fun {H0 H''} g h n => by
          cases e : H0 q with
          | none => rfl
          | some o => rw [g.at_ n e] at h; cases h
        have nq : q ≠ p := by rintro rfl; obtain ⟨L, xs, a, l, h1, _⟩ := hb'.is; rw [hq] at h1; cases h1
        exact f ((g1.trans (Bg.of e2)).trans g) hq nq
      · rw [upd_same, ← eq]
        rfl
/-! ### products by one great integer -/
theorem r_whileI {tt : TT} {tb : TS} {D : Ends} {σ : L2.St} {H : Hp} (W : Nat → L2.St → Hp → Prop) (m0 : Nat) (h0 : W m0 σ H) (h : ∀ m σ H, W m σ H → tt σ H fun b H1 => if b = true then ∃ N : L2.St → Hp → Prop, (∀ σ' H', N σ' H' → ∃ m', m' < m ∧ W m' σ' H') ∧ tb { D with nx := N, ct := N, bk := D.nx } σ H1 else D.nx σ H1) : tWhile tt tb D σ H := ⟨W, ⟨m0, h0⟩, h⟩
theorem hor_z {B S : Nat} {i : Int} (hi : Z B i) : ∀ (l : List Int), (∀ c ∈ l, Z S c) → Z (S + 1 + (B + 1) * l.length) (GM.hor i 0 l) := by
  intro l
  induction hn : l.length generalizing l with
  | zero =>
    intro _
    rw [List.length_eq_zero_iff.mp hn]
    show (0 : Int).natAbs < 2 ^ _
    exact Nat.pow_pos (by decide)
  | succ n ih =>
    intro h
    rcases List.eq_nil_or_concat l with rfl | ⟨as, a, rfl⟩
    · cases hn
    simp only [List.concat_eq_append] at *
    have z := ih as (by simpa using hn) (fun c m => h c (by simp [m]))
    have e : GM.hor i 0 (as ++ [a]) = GM.hor i 0 as * i + a := by simp [GM.hor]
    rw [e]
    have e2 : (B + 1) * (n + 1) = (B + 1) * n + B + 1 := by rw [Nat.mul_add]; omega
    rw [e2]
    exact ((z.mul hi).add ((h a (by simp)).mono (by omega))).mono (by omega)
theorem abs_nat (j : Int) : (if j < 0 then -j else j) = (j.natAbs : Int) := by split <;> omega
/-- the list of absolute values, for max -/
def absL (l : List Int) : List Int := l.map fun c => (c.natAbs : Int)
def spProd (K : PySem.W.Frag) : Sp := sp2 fun v w H Q _ => ∃ (a b : Addr) (ns ms : List Int), v = .ref a ∧ w = .ref b ∧ H a = some (.lst (ns.map V.int)) ∧ H b = some (.lst (ms.map V.int)) ∧ ns ≠ [] ∧ ms ≠ [] ∧ ns.length ≤ 40 ∧ ms.length ≤ 40 ∧ (∀ c ∈ ns, Z 67 c) ∧ (∀ c ∈ ms, Z 67 c) ∧
  ∀ p H', H p = none → Ex H H' → H' p = some (.lst ((GM.mulH ns ms).map V.int)) → Q (.ref p) H'
theorem r_maxAbs {K : PySem.W.Frag} {H : Hp} {Q : VK} {a : Addr} {ns : List Int} (h : H a = some (.lst ((absL ns).map V.int))) (ne : ns ≠ []) (hz : ∀ c ∈ ns, Z 67 c) (q : ∀ m : Nat, Z 67 (m : Int) → (∀ c ∈ ns, c.natAbs ≤ m) → Q (.int (m : Int)) H) : rMax K [.ref a] H Q := by
  refine ⟨a, absL ns, rfl, SqL.of h, by simp [absL]; exact List.length_pos_iff.mpr ne, fun m hm hx => ?_⟩
  obtain ⟨c, hc, rfl⟩ := List.mem_map.mp hm
  refine q c.natAbs ?_ fun d hd => ?_
  · have := hz c hc
    unfold Z at *
    omega
  · have := hx (d.natAbs : Int) (List.mem_map.mpr ⟨d, hd, rfl⟩)
    omega
theorem ok__law_product {P : Program} {w : World} {K : PySem.W.Frag} {mg : Str → Option Value} {base : Heap} (T : Txt K mg) : ∃ fd, FnOk P w K mg base (L2.CX P w) 1 (He.ga K "_law_product") fd ["one", "other"] (spProd K) ∧ Binds K fd ["one", "other"] [] := by
  obtain ⟨fd, F⟩ := T.d__law_product
  refine ⟨fd, F.ok sc__law_product sp2_len (fun cdv A outer s H vs Q E hr h => ?_), F.bindsN fun _ _ _ _ _ _ us hl => match us, hl with | [_, _], _ => rfl⟩
  obtain ⟨v, w', rfl, a, b, ns, ms, rfl, rfl, ha, hb, ne1, ne2, l1, l2, z1, z2', k⟩ := sp2_is h
  refine ⟨_, (pss_cons (ps_set (i := 2) sc__law_product.nd rfl (Or.inl rfl) (pe_op op_mulW (pe_op op_mulW (pe_callB (kx_lens rfl) (by rfl) T.b_len PySem.boot_len (pa_cons (pv 0) pa_nil)) (pe_callB (cr_max rfl) (by rfl) T.b_max (by decide +kernel) (pa_cons (pe_lc (own := [("number", 3)]) (g := gName 3) (tt := tYes)  rfl sc__law_product.nd (pi_list (pv 0)) (blkOk_by (own := [("number", 3)]) (N := ["one", "other", "most", "number", "base", "mine", "its", "left", "found", "power", "digit"]) (sc := defScope s__law_product) (by decide +kernel)) (fun _ _ _ _ _ => (pg_name (i := 3) sc__law_product.nd rfl (Or.inl rfl))) (fun _ _ _ _ _ => pts_nil) (fun _ _ _ _ _ => (pe_callB call_abs (by rfl) T.b_abs (by decide +kernel) (pa_cons (pv 3) pa_nil)))) pa_nil))) (pe_callB (cr_max rfl) (by rfl) T.b_max (by decide +kernel) (pa_cons (pe_lc (own := [("number", 3)]) (g := gName 3) (tt := tYes)  rfl sc__law_product.nd (pi_list (pv 1)) (blkOk_by (own := [("number", 3)]) (N := ["one", "other", "most", "number", "base", "mine", "its", "left", "found", "power", "digit"]) (sc := defScope s__law_product) (by decide +kernel)) (fun _ _ _ _ _ => (pg_name (i := 3) sc__law_product.nd rfl (Or.inl rfl))) (fun _ _ _ _ _ => pts_nil) (fun _ _ _ _ _ => (pe_callB call_abs (by rfl) T.b_abs (by decide +kernel) (pa_cons (pv 3) pa_nil)))) pa_nil))))
      (pss_cons (ps_set (i := 4) sc__law_product.nd rfl (Or.inl rfl) pe_int)
      (pss_cons (ps_while (passes_of rfl) (pt_cmpR op_le (pv 4) (pe_op op_mulW pe_int (pv 2)) (nomark _)) (pss_one (ps_set (i := 4) sc__law_product.nd rfl (Or.inl rfl) (pe_op op_mulW (pv 4) pe_int))))
      (pss_cons (ps_asg (pe_tup (pa_cons pe_int (pa_cons pe_int pa_nil))) (pg_tup rfl (pgs_cons (pg_name (i := 5) sc__law_product.nd rfl (Or.inl rfl)) (pgs_cons (pg_name (i := 6) sc__law_product.nd rfl (Or.inl rfl)) pgs_nil))))
      (pss_cons (ps_for (passes_of rfl) rfl (pi_list (pv 0)) (pg_name (i := 3) sc__law_product.nd rfl (Or.inl rfl)) (pss_one (ps_set (i := 5) sc__law_product.nd rfl (Or.inl rfl) (pe_op op_add (pe_op op_mulW (pv 5) (pv 4)) (pv 3)))))
      (pss_cons (ps_for (passes_of rfl) rfl (pi_list (pv 1)) (pg_name (i := 3) sc__law_product.nd rfl (Or.inl rfl)) (pss_one (ps_set (i := 6) sc__law_product.nd rfl (Or.inl rfl) (pe_op op_add (pe_op op_mulW (pv 6) (pv 4)) (pv 3)))))
      (pss_cons (ps_par (i := 7) (j := 8) (by rfl) sc__law_product.nd rfl rfl (by decide) rfl rfl (pa_cons (pe_op op_mulW (pv 5) (pv 6)) (pa_cons (pe_lst pa_nil) pa_nil)) (by rfl))
      (pss_cons (ps_for (passes_of rfl) rfl (pi_range1 (by rfl) T.b_range (pa_cons (pe_op op_sub (pe_op op_add (pe_callB (kx_lens rfl) (by rfl) T.b_len PySem.boot_len (pa_cons (pv 0) pa_nil)) (pe_callB (kx_lens rfl) (by rfl) T.b_len PySem.boot_len (pa_cons (pv 1) pa_nil))) pe_int) pa_nil)) (pg_name (i := 9) sc__law_product.nd rfl (Or.inl rfl)) (pss_cons (ps_set (i := 10) sc__law_product.nd rfl (Or.inl rfl) (pe_op op_mod (pe_callTy call_int1 (by rfl) T.b_int (by decide +kernel) (pa_cons (pv 7) pa_nil)) (pv 4)))
      (pss_cons (ps_if (pt_cmpR op_gt (pe_op op_mulW pe_int (pv 10)) (pv 4) (nomark _)) (pss_one (ps_set (i := 10) sc__law_product.nd rfl (Or.inl rfl) (pe_op op_sub (pv 10) (pv 4)))) pss_nil)
      (pss_cons (ps_expr (pe_bm PySem.F.plainAttrs_list PySem.F.slot_list_append PySem.F.type_list_append mt_append (pv 8) (pa_cons (pv 10) pa_nil)))
      (pss_one (ps_set (i := 7) sc__law_product.nd rfl (Or.inl rfl) (pe_op op_fdivW (pe_op op_sub (pv 7) (pv 10)) (pv 4))))))))
      (pss_one (ps_ret (pe_revL (pv 8)))))))))))), ?_⟩
  have absC : ∀ {Q' : VK} {H1 : Hp} {c : Addr} {l : List Int} {σ : L2.St}, H1 c = some (.lst (l.map V.int)) → l.length ≤ 40 → (∀ x, wipe ((wipe σ [3]).set 3 (some x)) [3] = wipe σ [3]) → (∀ x, (wipe σ [3]).set 3 (some x) = (wipe σ [3]).set 3 (some x) ∧ ((wipe σ [3]).set 3 (some x))[3]? = some (some x)) →
      (∀ D H', H1 D = none → Ex H1 H' → H' D = some (.lst ((absL l).map V.int)) → Q' (.ref D) H') → lcB (Itl K c) (gName 3) tYes (tCB (fun xs H Q => ∃ i, xs = [V.int i] ∧ Q (V.int (if i < 0 then -i else i)) H) (tCons (tVar 3) tNil)) [3] σ Q' H1 := by
    intro Q' H1 c l σ hc hl hw hx q'
    refine r_lcZ (walk_list (xs := l.map V.int)) (absL l) (by simp [absL]) (by simp; omega) (fun H' e => e.sql (SqL.of hc)) ?_ q'
    rintro i x H2 H3 hi e2 ⟨rfl, g1⟩ N hN
    obtain ⟨n1, hn1, rfl⟩ := int_at g1
    refine r_gName ⟨hw _, ?_⟩
    refine ⟨V.int n1, (hx _).2, n1, rfl, ?_⟩
    rw [abs_nat]
    have e : (absL l).getD i 0 = (n1.natAbs : Int) := by rw [List.getD_eq_getElem?_getD, absL, List.getElem?_map, hn1]; rfl
    rw [← e]
    exact hN _ (Ex.refl _)
  walk_at "rd"
  refine r_lenL ha ?_
  walk_at "rd"
  refine ⟨a, rfl, ⟨_, SqL.of ha⟩, ?_⟩
  refine absC ha l1 (fun _ => rfl) (fun _ => ⟨rfl, rfl⟩) fun D1 H1 hD1 e1 h1 => ?_
  walk_at "rd"
  refine r_maxAbs h1 ne1 z1 fun A zA hA => ?_
  have lz : Z 10 ((ns.map V.int).length : Int) := by unfold Z; rw [List.length_map]; omega
  refine r_I (mulOk lz zA (by decide) (by decide) (by decide)) ?_
  walk_at "rd"
  refine ⟨b, rfl, ⟨_, SqL.of (e1 _ _ hb)⟩, ?_⟩
  refine absC (e1 _ _ hb) l2 (fun _ => rfl) (fun _ => ⟨rfl, rfl⟩) fun D2 H2 hD2 e2 h2 => ?_
  walk_at "rd"
  refine r_maxAbs h2 ne2 z2' fun B zB hB => ?_
  refine r_I (mulOk (lz.mul zA) zB (by decide) (by decide) (by decide)) ?_
  walk_at "rd"
  generalize hmost : ((ns.map V.int).length : Int) * (A : Int) * (B : Int) = most
  have mlen : (ns.map V.int).length = ns.length := List.length_map ..
  have zm : Z 150 most := by rw [← hmost]; exact ((lz.mul zA).mul zB).mono (by decide)
  have m0 : 0 ≤ most := by rw [← hmost]; exact Int.mul_nonneg (Int.mul_nonneg (by omega) (by omega)) (by omega)
  have z10 : Z 4 (10 : Int) := by unfold Z; decide
  refine r_whileI (fun m σ H' => H' = H2 ∧ ∃ base : Int, σ = [some (.ref a), some (.ref b), some (.int most), none, some (.int base), none, none, none, none, none, none] ∧ 10 ≤ base ∧ Z 160 base ∧ m = (2 * most + 1 - base).toNat) _ ⟨rfl, 10, rfl, by omega, z10.mono (by decide), rfl⟩ ?_
  rintro m σ H' ⟨rfl, base, rfl, b10, zb, rfl⟩
  walk_at "rd"
  have z2 : Z 2 (2 : Int) := by unfold Z; decide
  refine r_I (mulOk z2 zm (by decide) (by decide) (by decide)) ?_
  walk_at "rd"
  by_cases c : base ≤ 2 * most
  · refine ite_t (decide_eq_true c) ?_
    refine ⟨_, fun σ' H' z => z, ?_⟩
    walk_at "rd"
    refine r_I (mulOk zb z10 (by decide) (by decide) (by decide)) ?_
    refine ⟨(2 * most + 1 - base * 10).toNat, by omega, rfl, base * 10, rfl, by omega, ?_, rfl⟩
    have z3 : Z 155 (2 * most) := (z2.mul zm).mono (by decide)
    have z4 : Z 155 base := by unfold Z at *; omega
    exact (z4.mul z10).mono (by decide)
  refine ite_f (decide_eq_false c) ?_
  have b0 : 0 < base := by omega
  have ha2 := (e1.trans e2) _ _ ha
  have hb2 := (e1.trans e2) _ _ hb
  walk_at "rd"
  refine r_newT (sz_le (by simp)) fun T1 H3 hT1 e3 h3 => ?_
  refine r_gTup h3 rfl (r_gCons (r_gName (r_gCons (r_gName (r_gNil ?_)))))
  have ha3 := e3 _ _ ha2
  have hb3 := e3 _ _ hb2
  have run : ∀ {i : Nat} {l : List Int} {n : Int}, l[i]? = some n → GM.hor base 0 (l.take (i + 1)) = GM.hor base 0 (l.take i) * base + n := fun {i l n} h => foldl_take _ _ _ h
  walk_at "rd"
  refine ⟨a, rfl, ⟨_, SqL.of ha3⟩, ?_⟩
  refine for_lI (ns := ns) (fun i σ H' => H' = H3 ∧ ∃ s3, σ = [some (.ref a), some (.ref b), some (.int most), s3, some (.int base), some (.int (GM.hor base 0 (ns.take i))), some (.int 0), none, none, none, none]) ⟨rfl, none, rfl⟩ (fun i σ H' _ p => by rw [p.1]; exact ha3) ?_ ?_
  · rintro i n σ H4 hi ⟨rfl, s3, rfl⟩
    walk_at "rd"
    have zz := hor_z zb (ns.take i) (fun c m => z1 c (List.mem_of_mem_take m))
    refine r_I (mulOk (zz.mono (show _ ≤ 10000 by simp only [List.length_take]; omega)) zb (by decide) (by decide) (by decide)) ?_
    walk_at "rd"
    exact ⟨rfl, some (.int n), by rw [run hi]; rfl⟩
  rintro σ H4 ⟨rfl, s3, rfl⟩
  rw [List.take_length]
  walk_at "rd"
  refine ⟨b, rfl, ⟨_, SqL.of hb3⟩, ?_⟩
  refine for_lI (ns := ms) (fun i σ H' => H' = H4 ∧ ∃ s3, σ = [some (.ref a), some (.ref b), some (.int most), s3, some (.int base), some (.int (GM.hor base 0 ns)), some (.int (GM.hor base 0 (ms.take i))), none, none, none, none]) ⟨rfl, s3, rfl⟩ (fun i σ H' _ p => by rw [p.1]; exact hb3) ?_ ?_
  · rintro i n σ H5 hi ⟨rfl, s3', rfl⟩
    walk_at "rd"
    have zz := hor_z zb (ms.take i) (fun c m => z2' c (List.mem_of_mem_take m))
    refine r_I (mulOk (zz.mono (show _ ≤ 10000 by simp only [List.length_take]; omega)) zb (by decide) (by decide) (by decide)) ?_
    walk_at "rd"
    exact ⟨rfl, some (.int n), by rw [run hi]; rfl⟩
  rintro σ H5 ⟨rfl, s3', rfl⟩
  rw [List.take_length]
  walk_at "rd"
  have zz1 := (hor_z zb ns z1).mono (show _ ≤ 10000 by omega)
  have zz2 := (hor_z zb ms z2').mono (show _ ≤ 10000 by omega)
  refine r_I (mulOk zz1 zz2 (by decide) (by decide) (by decide)) ?_
  walk_at "rd"
  refine r_newL (Nat.zero_le _) fun F H6 hF e6 h6 => ?_
  have ev1 : GM.hor base 0 ns * GM.hor base 0 ms = GM.ev (GM.mulH ns ms) base := by
    have g1 := GM.hor_ev base ns 0
    have g2 := GM.hor_ev base ms 0
    rw [Int.zero_mul, Int.zero_add] at g1 g2
    rw [GM.ev_mulH ne2, g1, g2]
  have ha6 := e6 _ _ ha3
  have hb6 := e6 _ _ hb3
  walk_at "rd"
  rw [ev1]
  refine r_lenL ha6 ?_
  walk_at "rd"
  refine r_lenL hb6 ?_
  walk_at "rd"
  have p1 : 0 < ns.length := List.length_pos_iff.mpr ne1
  have p2 : 0 < ms.length := List.length_pos_iff.mpr ne2
  have ml2 : (ms.map V.int).length = ms.length := List.length_map ..
  refine ⟨_, rfl, by omega, by omega, ?_⟩
  rw [show (((ns.map V.int).length : Int) + ((ms.map V.int).length : Int) - 1).toNat = ns.length + ms.length - 1 by omega]
  have ml := GM.mulH_len ne2 ns
  have dg : GM.digs base (ns.length + ms.length - 1) (GM.ev (GM.mulH ns ms) base) = (GM.mulH ns ms).reverse := by
    refine GM.digs_ev (M := most) (by omega) m0 _ _ ml fun c hc => ?_
    have := GM.mulH_le hB ns hA c hc
    have e : ((ns.length * (A * B) : Nat) : Int) = most := by
      rw [← hmost, mlen]
      simp only [Int.natCast_mul]
      rw [Int.mul_assoc]
    omega
  refine for_of (walk_range (lo := 0) (n := ns.length + ms.length - 1)) (fun i σ H' => Bu F H6 H' ∧ ∃ (fs : List Int) (left : Int), H' F = some (.lst (fs.map V.int)) ∧ fs.length = i ∧ GM.digs base (ns.length + ms.length - 1) (GM.ev (GM.mulH ns ms) base) = fs ++ GM.digs base (ns.length + ms.length - 1 - i) left ∧ ∃ s9 s10, σ = [some (.ref a), some (.ref b), some (.int most), s3', some (.int base), some (.int (GM.hor base 0 ns)), some (.int (GM.hor base 0 ms)), some (.int left), some (.ref F), s9, s10])
    ⟨Bu.refl _ _, [], _, h6, rfl, rfl, none, none, rfl⟩ (fun _ _ _ _ _ => trivial) ?_ ?_
  · rintro i x σ H7 H8 hi ⟨b7, fs, left, h7, lf, hd, s9, s10, rfl⟩ ⟨rfl, rfl⟩
    rw [show ns.length + ms.length - 1 - i = (ns.length + ms.length - 1 - (i + 1)) + 1 by omega, GM.digs] at hd
    refine r_seq ?_
    walk_at "rx"
    refine r_I b0 ?_
    walk_at "rx"
    refine r_seqJ (fun σ' H' => H' = H8 ∧ σ' = [some (.ref a), some (.ref b), some (.int most), s3', some (.int base), some (.int (GM.hor base 0 ns)), some (.int (GM.hor base 0 ms)), some (.int left), some (.ref F), some (.int (0 + (i : Nat))), some (.int (GM.bal base (left % base)))]) (fun N hN => ?_) ?_
    · walk_at "rd"
      have zl : Z 160 (left % base) := by
        have h1 := Int.emod_nonneg left (show base ≠ 0 by omega)
        have h2 := Int.emod_lt_of_pos left b0
        unfold Z at *
        omega
      refine r_I (mulOk z2 zl (by decide) (by decide) (by decide)) ?_
      walk_at "rd"
      by_cases c2 : base < 2 * (left % base)
      · refine ite_t (decide_eq_true c2) ?_
        walk_at "rd"
        exact hN _ _ ⟨rfl, by rw [GM.bal, if_pos c2]; rfl⟩
      · refine ite_f (decide_eq_false c2) ?_
        walk_at "rd"
        exact hN _ _ ⟨rfl, by rw [GM.bal, if_neg c2]; rfl⟩
    · rintro σ' H9 ⟨rfl, rfl⟩
      walk_at "rd"
      refine ⟨_, rfl, .inl ⟨rfl, _, SqL.of h7⟩, ?_⟩
      walk_at "rd"
      refine r_app h7 (by rw [List.length_map]; omega) ?_
      walk_at "rd"
      refine r_I ⟨b0, Nat.lt_trans (lg_lt zb (by decide)) (by decide)⟩ ?_
      refine ⟨b7.trans Bu.upd, fs ++ [GM.bal base (left % base)], _, ?_, by rw [List.length_append, lf]; rfl, ?_, _, _, rfl⟩
      · rw [upd_same, List.map_append]; rfl
      · rw [hd, List.append_assoc]; rfl
  · rintro σ H7 ⟨b7, fs, left, h7, lf, hd, s9, s10, rfl⟩
    walk_at "rd"
    refine ⟨_, rfl, F, _, rfl, SqL.of h7, fun p hp => ?_⟩
    rw [Nat.sub_self, GM.digs, List.append_nil, dg] at hd
    have e7 : Ex H H7 := fun c o h => b7 c o (by rintro rfl; have := (((e1.trans e2).trans e3) _ _ h); rw [hF] at this; cases this) (e6 _ _ (e3 _ _ (e2 _ _ (e1 _ _ h))))
    refine k p _ (e7.free hp) (e7.trans (Ex.new hp)) ?_
    rw [upd_same, ← List.map_reverse, ← hd, List.reverse_reverse]

end K04
namespace K04
open PySem PySem.Spec PyProof.Rows L2 GS TL
local macro_rules | `(tactic| walk_at "rd") => `(tactic| (repeat (first
  | with_reducible refine r_next ?_
  | with_reducible refine r_seq ?_
  | with_reducible refine r_ret ?_
  | with_reducible refine r_ifS ?_
  | with_reducible refine r_asg ?_
  | with_reducible refine r_drop ?_
  | with_reducible refine r_op ?_
  | with_reducible refine r_un ?_
  | with_reducible refine r_cbInt ?_
  | with_reducible refine r_cbAbs ?_
  | with_reducible refine r_cbLen ?_
  | with_reducible refine r_cbList ?_
  | with_reducible refine r_cbTup ?_
  | with_reducible refine r_iEnT ?_
  | with_reducible refine r_iEnL ?_
  | with_reducible refine r_zipA ?_
  | with_reducible refine r_augS ?_
  | with_reducible refine r_cb ?_
  | with_reducible refine r_call ?_
  | with_reducible refine r_make ?_
  | with_reducible refine r_callN0 ?_
  | with_reducible refine r_makeK0 ?_
  | with_reducible refine r_makeS ?_
  | with_reducible refine r_callS ?_
  | with_reducible refine r_cons ?_
  | with_reducible refine r_nil ?_
  | with_reducible refine r_test ?_
  | with_reducible refine r_B ?_
  | with_reducible refine r_and ?_
  | with_reducible refine r_or ?_
  | with_reducible refine r_not ?_
  | with_reducible refine r_andV ?_
  | with_reducible refine r_orV ?_
  | with_reducible refine r_notV ?_
  | with_reducible refine r_if ?_
  | with_reducible refine r_tup ?_
  | with_reducible refine r_lst ?_
  | with_reducible refine r_c ?_
  | with_reducible refine r_lc ?_
  | with_reducible refine r_chain ?_
  | with_reducible refine r_iT ?_
  | with_reducible refine r_iL ?_
  | with_reducible refine r_iR1 ?_
  | with_reducible refine r_iR2 ?_
  | with_reducible refine r_iR3 ?_
  | with_reducible refine r_asgG ?_
  | with_reducible refine r_gSub ?_
  | with_reducible refine r_for ?_
  | with_reducible refine r_smeth ?_
  | with_reducible refine r_par ?_
  | with_reducible refine r_parK ?_
  | with_reducible refine r_gCons ?_
  | with_reducible refine r_gNil ?_
  | with_reducible refine r_gName ?_
  | with_reducible refine r_intI ?_
  | with_reducible refine r_intB ?_
  | with_reducible refine r_absI ?_
  | with_reducible refine r_k ?_
  | with_reducible refine r_kV ?_
  | ((with_reducible show tVar _ _ _ _); refine r_var3 ?_ (by rfl))
  | with_reducible refine r_I0 ?_
  | with_reducible refine r_U ?_
  | with_reducible refine r_eqI ?_
  | with_reducible refine r_neI ?_
  | dsimp only)))
local macro_rules | `(tactic| walk_at "rx") => `(tactic| (repeat (first
  | with_reducible refine r_next ?_
  | with_reducible refine r_ret ?_
  | with_reducible refine r_ifS ?_
  | with_reducible refine r_asg ?_
  | with_reducible refine r_drop ?_
  | with_reducible refine r_op ?_
  | with_reducible refine r_un ?_
  | with_reducible refine r_cbInt ?_
  | with_reducible refine r_cbAbs ?_
  | with_reducible refine r_cbLen ?_
  | with_reducible refine r_cbList ?_
  | with_reducible refine r_cbTup ?_
  | with_reducible refine r_iEnT ?_
  | with_reducible refine r_iEnL ?_
  | with_reducible refine r_zipA ?_
  | with_reducible refine r_augS ?_
  | with_reducible refine r_cb ?_
  | with_reducible refine r_call ?_
  | with_reducible refine r_make ?_
  | with_reducible refine r_callN0 ?_
  | with_reducible refine r_makeK0 ?_
  | with_reducible refine r_makeS ?_
  | with_reducible refine r_callS ?_
  | with_reducible refine r_cons ?_
  | with_reducible refine r_nil ?_
  | with_reducible refine r_test ?_
  | with_reducible refine r_B ?_
  | with_reducible refine r_and ?_
  | with_reducible refine r_or ?_
  | with_reducible refine r_not ?_
  | with_reducible refine r_andV ?_
  | with_reducible refine r_orV ?_
  | with_reducible refine r_notV ?_
  | with_reducible refine r_if ?_
  | with_reducible refine r_tup ?_
  | with_reducible refine r_lst ?_
  | with_reducible refine r_c ?_
  | with_reducible refine r_lc ?_
  | with_reducible refine r_chain ?_
  | with_reducible refine r_iT ?_
  | with_reducible refine r_iL ?_
  | with_reducible refine r_iR1 ?_
  | with_reducible refine r_iR2 ?_
  | with_reducible refine r_iR3 ?_
  | with_reducible refine r_asgG ?_
  | with_reducible refine r_gSub ?_
  | with_reducible refine r_for ?_
  | with_reducible refine r_smeth ?_
  | with_reducible refine r_par ?_
  | with_reducible refine r_parK ?_
  | with_reducible refine r_gCons ?_
  | with_reducible refine r_gNil ?_
  | with_reducible refine r_gName ?_
  | with_reducible refine r_intI ?_
  | with_reducible refine r_intB ?_
  | with_reducible refine r_absI ?_
  | with_reducible refine r_k ?_
  | with_reducible refine r_kV ?_
  | ((with_reducible show tVar _ _ _ _); refine r_var3 ?_ (by rfl))
  | with_reducible refine r_I0 ?_
  | with_reducible refine r_U ?_
  | with_reducible refine r_eqI ?_
  | with_reducible refine r_neI ?_
  | dsimp only)))
/-! ### is it the poly -/
theorem r_eqIntsL {K : PySem.W.Frag} {H : Hp} {Q : VK} {p q : Addr} {xs ys : List Int} (h1 : H p = some (.lst (xs.map V.int))) (h2 : H q = some (.lst (ys.map V.int))) (k : Q (.bl (decide (xs = ys))) H) : rEqD K (.ref p) (.ref q) H Q := by
  refine ⟨_, _, .lst (SqL.of h1) (dp_ints xs), .lst (SqL.of h2) (dp_ints ys), (shaped_ints xs).1, (shaped_ints ys).1, ?_⟩
  show Q (.bl (PyData.eqvAll (xs.map PyData.int) (ys.map PyData.int))) H
  rw [eqv_ints]
  exact k
theorem given_none (n : Nat) (f : Nat → V) : given n (fun _ => false) f = [] := by simp [given]
def spIs (K : PySem.W.Frag) : Sp := sp2 fun v w H Q _ => ∃ (a b : Addr) (ns ms : List Int), v = .ref a ∧ w = .ref b ∧ Pl K H a ns ∧ H b = some (.lst (ms.map V.int)) ∧ ∀ H', Ex H H' → Q (.bl (decide (ns = ms))) H'
theorem ok__law_is {P : Program} {w : World} {K : PySem.W.Frag} {mg : Str → Option Value} {base : Heap} (T : Txt K mg) : ∃ fd, FnOk P w K mg base (L2.CX P w) 1 (He.ga K "_law_is") fd ["poly", "numbers"] (spIs K) ∧ Binds K fd ["poly", "numbers"] [] := by
  obtain ⟨fd, F⟩ := T.d__law_is
  refine ⟨fd, F.ok sc__law_is sp2_len (fun cdv A outer s H vs Q E hr h => ?_), F.bindsN fun _ _ _ _ _ _ us hl => match us, hl with | [_, _], _ => rfl⟩
  obtain ⟨v, w', rfl, a, b, ns, ms, rfl, rfl, ha, hb, k⟩ := sp2_is h
  refine ⟨_, (pss_cons (ps_if (PW.pt (pw_or (pt_not (pt_val (pe_callB (cr_isi rfl) (by rfl) T.b_isinstance (by decide +kernel) (pa_cons (pv 0) (pa_cons (pe_glob (v := .ref (He.ga K "Poly")) rfl T.g_Poly rfl) pa_nil))))) (pw_or (pt_not (pt_val (pe_callB (cr_isi rfl) (by rfl) T.b_isinstance (by decide +kernel) (pa_cons (kx_fld rfl (pv 0) rfl) (pa_cons (pe_bltn (v := .ty "tuple") (by rfl) T.b_tuple (by decide +kernel) rfl) pa_nil))))) (pw_or1 (pt_cmpR (op_neD hr.units) (pe_lc (own := [("number", 2)]) (g := gName 2)  rfl sc__law_is.nd (pi_tup (kx_fld rfl (pv 0) rfl)) (blkOk_by (own := [("number", 2)]) (N := ["poly", "numbers", "number"]) (sc := defScope s__law_is) (by decide +kernel)) (fun _ _ _ _ _ => (pg_name (i := 2) sc__law_is.nd rfl (Or.inl rfl))) (fun _ _ _ _ _ => (pts_one (pt_val (pe_callB (cr_isi rfl) (by rfl) T.b_isinstance (by decide +kernel) (pa_cons (pv 2) (pa_cons (pe_bltn (v := .ty "bool") (by rfl) T.b_bool (by decide +kernel) rfl) pa_nil)))))) (fun _ _ _ _ _ => (pv 2))) (pe_lst pa_nil) (nomark _)))))) (pss_one (ps_ret pe_bl)) pss_nil)
      (pss_one (ps_ret (pe_and (pe_cmpR (op_eqD hr.units) (pe_callTy call_list_of (by rfl) T.b_list (by decide +kernel) (pa_cons (kx_fld rfl (pv 0) rfl) pa_nil)) (pe_callTy call_list_of (by rfl) T.b_list (by decide +kernel) (pa_cons (pv 1) pa_nil)) (nomark _)) (pe_one (pe_cmpR op_eq (kx_fld rfl (pv 0) rfl) (pe_op op_sub (pe_callB (kx_lens rfl) (by rfl) T.b_len PySem.boot_len (pa_cons (pv 1) pa_nil)) pe_int) (nomark _))))))), ?_⟩
  obtain ⟨dx, fs, hi⟩ := ha.inst
  have l64 : ns.length ≤ 64 := ha.2.1
  walk_at "rd"
  refine ⟨_, _, _, _, true, rfl, .own _, ty_own T (by decide) hi, T.cc_Poly.me, ?_⟩
  walk_at "rd"
  refine ite_f rfl ?_
  walk_at "rd"
  refine r_fn T ha fun t ht => ?_
  walk_at "rd"
  refine ⟨_, _, _, _, true, rfl, .ty "tuple", .base (.tup ht), kit_ty (by decide +kernel), ?_⟩
  walk_at "rd"
  refine ite_f rfl ?_
  walk_at "rd"
  refine r_fn T ha fun t2 ht2 => ?_
  refine ⟨t2, rfl, ⟨_, SqT.of ht2⟩, ?_⟩
  refine r_lcF (k := 2) (walk_tup (xs := ns.map V.int)) (fun _ => false) (fun _ => .non) (by simp; omega) (fun H' e => e.sqt (SqT.of ht2)) (fun _ => rfl) ?_ (fun _ _ _ _ c => by cases c) ?_
  · rintro j y H0 H' hj e0 ⟨rfl, hy⟩
    obtain ⟨n, hn, rfl⟩ := int_at hy
    refine ⟨Ex.refl _, fun R r => ?_⟩
    walk_at "rd"
    refine ⟨_, _, _, _, false, rfl, .ty "bool", .base (.int _), kit_ty (by decide +kernel), ?_⟩
    walk_at "rd"
    exact r _ (Ex.refl _)
  · intro D H1 hD e1 hl
    rw [given_none] at hl
    walk_at "rd"
    refine r_newL (Nat.zero_le _) fun D2 H2 hD2 e2 h2 => ?_
    refine r_neInts (xs := []) (ys := []) (e2 _ _ hl) h2 ?_
    walk_at "rd"
    refine ite_f rfl ?_
    have ha2 := (ha.ex e1).ex e2
    walk_at "rd"
    refine r_fn T ha2 fun t3 ht3 => ?_
    walk_at "rd"
    refine r_list (.inr (SqT.of ht3)) fun D3 H3 hD3 e3 h3 => ?_
    walk_at "rd"
    refine r_list (.inl (SqL.of (e3 _ _ (e2 _ _ (e1 _ _ hb))))) fun D4 H4 hD4 e4 h4 => ?_
    refine r_eqIntsL (e4 _ _ h3) h4 ?_
    have e5 := ((e1.trans e2).trans e3).trans e4
    walk_at "rd"
    by_cases c : ns = ms
    · refine ite_t (decide_eq_true c) ?_
      walk_at "rd"
      refine r_fd T (ha.ex e5) ?_
      walk_at "rd"
      refine r_lenL (e5 _ _ hb) ?_
      walk_at "rd"
      have := k H4 e5
      rw [decide_eq_true c] at this
      rw [List.length_map, ← c, decide_eq_true rfl]
      exact this
    · refine ite_f (decide_eq_false c) ?_
      have := k H4 e5
      rw [decide_eq_false c] at this
      exact this
/-! ### measure -/
def spMeasure (K : PySem.W.Frag) : Sp := sp1 fun v H Q _ => ∃ (a : Addr) (ns : List Int), v = .ref a ∧ H a = some (.lst (ns.map V.int)) ∧ Q (.int (gcdL ns)) H
theorem ok__law_measure {P : Program} {w : World} {K : PySem.W.Frag} {mg : Str → Option Value} {base : Heap} (T : Txt K mg) : ∃ fd, FnOk P w K mg base (L2.CX P w) 1 (He.ga K "_law_measure") fd ["numbers"] (spMeasure K) ∧ Binds K fd ["numbers"] [] := by
  obtain ⟨fd, F⟩ := T.d__law_measure
  refine ⟨fd, F.ok sc__law_measure sp1_len (fun cdv A outer s H vs Q E hr h => ?_), F.bindsN fun _ _ _ _ _ _ us hl => match us, hl with | [_], _ => rfl⟩
  obtain ⟨v, rfl, a, ns, rfl, ha, k⟩ := sp1_is h
  refine ⟨_, (pss_cons (ps_set (i := 1) sc__law_measure.nd rfl (Or.inl rfl) pe_int)
      (pss_cons (ps_for (passes_of rfl) rfl (pi_list (pv 0)) (pg_name (i := 2) sc__law_measure.nd rfl (Or.inl rfl)) (pss_cons (ps_set (i := 2) sc__law_measure.nd rfl (Or.inl rfl) (pe_callB call_abs (by rfl) T.b_abs (by decide +kernel) (pa_cons (pv 2) pa_nil)))
      (pss_one (ps_while (passes_of rfl) (pt_cmpR op_gt (pv 2) pe_int (nomark _)) (pss_one (ps_par (i := 1) (j := 2) (by rfl) sc__law_measure.nd rfl rfl (by decide) rfl rfl (pa_cons (pv 2) (pa_cons (pe_op op_mod (pe_callTy call_int1 (by rfl) T.b_int (by decide +kernel) (pa_cons (pv 1) pa_nil)) (pv 2)) pa_nil)) (by rfl)))))))
      (pss_one (ps_ret (pv 1))))), ?_⟩
  walk_at "rd"
  refine ⟨a, rfl, ⟨_, SqL.of ha⟩, ?_⟩
  refine for_lI (ns := ns) (fun i σ H' => H' = H ∧ ∃ s, σ = [some (.ref a), some (.int ((ns.take i).foldl (fun d v => ((Nat.gcd d.natAbs v.natAbs : Nat) : Int)) 0)), s]) ⟨rfl, none, rfl⟩ (fun i σ H' _ p => by rw [p.1]; exact ha) ?_ ?_
  · rintro i n σ H1 hi ⟨rfl, s, rfl⟩
    walk_at "rd"
    rw [abs_nat]
    walk_at "rd"
    have h0 := (gcd_fold (ns.take i) 0 (by decide)).1
    have fin : (ns.take (i + 1)).foldl (fun (d v : Int) => ((Nat.gcd d.natAbs v.natAbs : Nat) : Int)) 0 = ((Nat.gcd ((ns.take i).foldl (fun (d v : Int) => ((Nat.gcd d.natAbs v.natAbs : Nat) : Int)) 0).natAbs n.natAbs : Nat) : Int) := foldl_take _ _ _ hi
    generalize (ns.take i).foldl (fun (d v : Int) => ((Nat.gcd d.natAbs v.natAbs : Nat) : Int)) 0 = d at h0 fin ⊢
    refine r_whileI (fun m σ H' => H' = H1 ∧ ∃ x y : Nat, σ = [some (.ref a), some (.int (x : Int)), some (.int (y : Int))] ∧ Nat.gcd x y = Nat.gcd d.natAbs n.natAbs ∧ m = y) _ ⟨rfl, d.natAbs, n.natAbs, by rw [show ((d.natAbs : Nat) : Int) = d by omega]; rfl, rfl, rfl⟩ ?_
    rintro y σ H' ⟨rfl, x, _, rfl, hg, rfl⟩
    walk_at "rd"
    by_cases c : 0 < y
    · refine ite_t (decide_eq_true (by omega)) ⟨_, fun σ' H' z => z, ?_⟩
      walk_at "rd"
      refine r_I (by omega) ?_
      walk_at "rd"
      refine ⟨x % y, Nat.mod_lt _ c, rfl, y, x % y, by rw [Int.natCast_emod]; rfl, ?_, rfl⟩
      rw [← hg, Nat.gcd_comm x y, Nat.gcd_rec y x, Nat.gcd_comm]
    · refine ite_f (decide_eq_false (by omega)) ?_
      have : y = 0 := by omega
      subst this
      rw [Nat.gcd_zero_right] at hg
      exact ⟨rfl, _, by rw [fin, hg]⟩
  · rintro σ H1 ⟨rfl, s, rfl⟩
    rw [List.take_length]
    walk_at "rd"
    exact k
/-! ### what is left -/
theorem r_callS' {sp : Sp} {E : L2.St → XK} {t : TA} {σ : L2.St} {H : Hp} {Q : VK} (q : t σ H fun vs H1 => sp vs H1 Q (E σ)) : tCallS sp E t σ H Q := q
theorem exm_one {K : PySem.W.Frag} {cls c : Value} {b : Bool} (h : PySem.W.exmOne K cls c = some b) : PySem.W.exmAny K cls [c] = some b := by
  unfold PySem.W.exmAny
  rw [h]
  cases b <;> rfl
theorem r_m1 {K : PySem.W.Frag} {Wout : WX} {D : Ends} {cs : List Value} {o : Option Nat} {ts : Addr → Value → Option Addr → TS} {r : List MCl} {cls : Value} {d : Option Addr} {σ : L2.St} {H : Hp} (y : PySem.W.exmAny K cls cs = some true) (q : ∀ a, H a = none → wMCl D (cs, o, ts) a cls d σ H) : wMCls K Wout D ((cs, o, ts) :: r) cls d σ H := ⟨true, y, fun _ => q, fun z => by cases z⟩
theorem r_m0 {K : PySem.W.Frag} {Wout : WX} {D : Ends} {cs : List Value} {o : Option Nat} {ts : Addr → Value → Option Addr → TS} {r : List MCl} {cls : Value} {d : Option Addr} {σ : L2.St} {H : Hp} (n : PySem.W.exmAny K cls cs = some false) (q : wMCls K Wout D r cls d σ H) : wMCls K Wout D ((cs, o, ts) :: r) cls d σ H := ⟨false, n, fun z => (by cases z), fun _ => q⟩
theorem r_mAs {D : Ends} {cs : List Value} {i : Nat} {ts : Addr → Value → Option Addr → TS} {a : Addr} {cls : Value} {d : Option Addr} {σ : L2.St} {H : Hp} (q : ts a cls d (asEnds i D) (σ.set i (some (.ref a))) H) : wMCl D (cs, some i, ts) a cls d σ H := q
theorem r_mBare {D : Ends} {cs : List Value} {ts : Addr → Value → Option Addr → TS} {a : Addr} {cls : Value} {d : Option Addr} {σ : L2.St} {H : Hp} (q : ts a cls d D σ H) : wMCl D (cs, none, ts) a cls d σ H := q
def spLeft (K : PySem.W.Frag) : Sp := sp2 fun v w H Q _ => ∃ (a b : Addr) (ns ms : List Int), v = .ref a ∧ w = .ref b ∧ Pl K H a ns ∧ Pl K H b ms ∧ (∀ c ∈ ns, Z 1000 c) ∧ (∀ c ∈ ms, Z 200 c) ∧ (∀ Qs, Quo ns ms Qs → ∀ l H', Ex H H' → H' l = some (.lst (Qs.map V.int)) → Q (.ref l) H') ∧
  ((¬ ∃ Qs, Quo ns ms Qs) → ∀ t H', Ex H H' → H' t = some (.tup [.str "misfit", .str "rest"]) → Q (.ref t) H')
theorem ok__law_left {P : Program} {w : World} {K : PySem.W.Frag} {mg : Str → Option Value} {base : Heap} (T : Txt K mg) : ∃ fd, FnOk P w K mg base (L2.CX P w) 6 (He.ga K "_law_left") fd ["poly", "by"] (spLeft K) ∧ Binds K fd ["poly", "by"] [] := by
  obtain ⟨fd, F⟩ := T.d__law_left
  obtain ⟨fd_divided, F_divided, B_divided, kb_divided_0⟩ := ok_divided (P := P) (w := w) (base := base) T
  refine ⟨fd, F.ok sc__law_left sp2_len (fun cdv A outer s H vs Q E hr h => ?_), F.bindsN fun _ _ _ _ _ _ us hl => match us, hl with | [_, _], _ => rfl⟩
  have hr_divided : Room 5 _ := hr.mono (by decide)
  obtain ⟨v, w', rfl, a, b, ns, ms, rfl, rfl, ha, hb, z1, z2, k1, k2⟩ := sp2_is h
  refine ⟨_, (pss_cons (ps_try_m (Wout := fun _ _ _ _ => False) rfl rfl takes0 (fun W pn xe tk po => (pss_one (ps_set (i := 2) sc__law_left.nd rfl (Or.inl rfl) (pe_callS F_divided hr_divided (by rfl) T.g_divided T.k_divided B_divided (fun σ => passAt tk σ) (pa_cons (pv 0) (pa_cons (pv 1) pa_nil)))))) (MClsOk.cons (MClOk.as (i := 3) (.name ⟨rfl, by decide, Or.inl T.g_Misfit⟩) sc__law_left.nd rfl rfl (fun a oe cls d pn hz hf => (pss_one (ps_ret (pe_tup (pa_cons pe_str (pa_cons (pe_xfA rfl hz hf (pv 3)) pa_nil))))))) (MClsOk.cons (MClOk.bare (.name ⟨rfl, by decide, Or.inl T.g_SignsError⟩) (fun a oe cls d pn hz hf => (pss_one (ps_ret (pe_tup (pa_cons pe_str pa_nil)))))) MClsOk.nil)))
      (pss_one (ps_ret (pe_callTy call_list_of (by rfl) T.b_list (by decide +kernel) (pa_cons (kx_fld rfl (pv 2) rfl) pa_nil))))), ?_⟩
  walk_at "rd"
  refine .inr ⟨a, ns, rfl, ha, .inr ⟨b, ms, rfl, hb, z1, z2, fun Qs hQ _ p H1 hp e1 hp1 => ?_, fun no d H1 e1 hd => ?_⟩⟩
  · walk_at "rd"
    refine r_fn T hp1 fun t ht => ?_
    walk_at "rd"
    exact r_list (.inr (SqT.of ht)) fun l H2 hl e2 h2 => k1 Qs hQ l H2 (e1.trans e2) h2
  · refine r_m1 (exm_one (T.e_Misfit.y "Misfit" (by simp))) fun x hx => r_mAs ?_
    walk_at "rd"
    refine ⟨_, rfl, rfl, _, d, _, _, rfl, T.e_Misfit.xf, T.e_Misfit.no_ "part" (by simp), rfl, hd, rfl, ?_⟩
    walk_at "rd"
    exact r_newT (sz_le (by simp)) fun t H2 ht e2 h2 => k2 no t H2 (e1.trans e2) h2

end K04
namespace K04
open PySem PySem.Spec PyProof.Rows L2 GS TL
local macro_rules | `(tactic| walk_at "rd") => `(tactic| (repeat (first
  | with_reducible refine r_next ?_
  | with_reducible refine r_seq ?_
  | with_reducible refine r_ret ?_
  | with_reducible refine r_ifS ?_
  | with_reducible refine r_asg ?_
  | with_reducible refine r_drop ?_
  | with_reducible refine r_op ?_
  | with_reducible refine r_un ?_
  | with_reducible refine r_cbInt ?_
  | with_reducible refine r_cbAbs ?_
  | with_reducible refine r_cbLen ?_
  | with_reducible refine r_cbList ?_
  | with_reducible refine r_cbTup ?_
  | with_reducible refine r_iEnT ?_
  | with_reducible refine r_iEnL ?_
  | with_reducible refine r_zipA ?_
  | with_reducible refine r_augS ?_
  | with_reducible refine r_cb ?_
  | with_reducible refine r_call ?_
  | with_reducible refine r_make ?_
  | with_reducible refine r_callN0 ?_
  | with_reducible refine r_makeK0 ?_
  | with_reducible refine r_makeS ?_
  | with_reducible refine r_callS ?_
  | with_reducible refine r_cons ?_
  | with_reducible refine r_nil ?_
  | with_reducible refine r_test ?_
  | with_reducible refine r_B ?_
  | with_reducible refine r_and ?_
  | with_reducible refine r_or ?_
  | with_reducible refine r_not ?_
  | with_reducible refine r_andV ?_
  | with_reducible refine r_orV ?_
  | with_reducible refine r_notV ?_
  | with_reducible refine r_if ?_
  | with_reducible refine r_tup ?_
  | with_reducible refine r_lst ?_
  | with_reducible refine r_c ?_
  | with_reducible refine r_lc ?_
  | with_reducible refine r_chain ?_
  | with_reducible refine r_iT ?_
  | with_reducible refine r_iL ?_
  | with_reducible refine r_iR1 ?_
  | with_reducible refine r_iR2 ?_
  | with_reducible refine r_iR3 ?_
  | with_reducible refine r_asgG ?_
  | with_reducible refine r_gSub ?_
  | with_reducible refine r_for ?_
  | with_reducible refine r_smeth ?_
  | with_reducible refine r_par ?_
  | with_reducible refine r_parK ?_
  | with_reducible refine r_gCons ?_
  | with_reducible refine r_gNil ?_
  | with_reducible refine r_gName ?_
  | with_reducible refine r_intI ?_
  | with_reducible refine r_intB ?_
  | with_reducible refine r_absI ?_
  | with_reducible refine r_k ?_
  | with_reducible refine r_kV ?_
  | ((with_reducible show tVar _ _ _ _); refine r_var3 ?_ (by rfl))
  | with_reducible refine r_I0 ?_
  | with_reducible refine r_U ?_
  | with_reducible refine r_eqI ?_
  | with_reducible refine r_neI ?_
  | dsimp only)))
local macro_rules | `(tactic| walk_at "rx") => `(tactic| (repeat (first
  | with_reducible refine r_next ?_
  | with_reducible refine r_ret ?_
  | with_reducible refine r_ifS ?_
  | with_reducible refine r_asg ?_
  | with_reducible refine r_drop ?_
  | with_reducible refine r_op ?_
  | with_reducible refine r_un ?_
  | with_reducible refine r_cbInt ?_
  | with_reducible refine r_cbAbs ?_
  | with_reducible refine r_cbLen ?_
  | with_reducible refine r_cbList ?_
  | with_reducible refine r_cbTup ?_
  | with_reducible refine r_iEnT ?_
  | with_reducible refine r_iEnL ?_
  | with_reducible refine r_zipA ?_
  | with_reducible refine r_augS ?_
  | with_reducible refine r_cb ?_
  | with_reducible refine r_call ?_
  | with_reducible refine r_make ?_
  | with_reducible refine r_callN0 ?_
  | with_reducible refine r_makeK0 ?_
  | with_reducible refine r_makeS ?_
  | with_reducible refine r_callS ?_
  | with_reducible refine r_cons ?_
  | with_reducible refine r_nil ?_
  | with_reducible refine r_test ?_
  | with_reducible refine r_B ?_
  | with_reducible refine r_and ?_
  | with_reducible refine r_or ?_
  | with_reducible refine r_not ?_
  | with_reducible refine r_andV ?_
  | with_reducible refine r_orV ?_
  | with_reducible refine r_notV ?_
  | with_reducible refine r_if ?_
  | with_reducible refine r_tup ?_
  | with_reducible refine r_lst ?_
  | with_reducible refine r_c ?_
  | with_reducible refine r_lc ?_
  | with_reducible refine r_chain ?_
  | with_reducible refine r_iT ?_
  | with_reducible refine r_iL ?_
  | with_reducible refine r_iR1 ?_
  | with_reducible refine r_iR2 ?_
  | with_reducible refine r_iR3 ?_
  | with_reducible refine r_asgG ?_
  | with_reducible refine r_gSub ?_
  | with_reducible refine r_for ?_
  | with_reducible refine r_smeth ?_
  | with_reducible refine r_par ?_
  | with_reducible refine r_parK ?_
  | with_reducible refine r_gCons ?_
  | with_reducible refine r_gNil ?_
  | with_reducible refine r_gName ?_
  | with_reducible refine r_intI ?_
  | with_reducible refine r_intB ?_
  | with_reducible refine r_absI ?_
  | with_reducible refine r_k ?_
  | with_reducible refine r_kV ?_
  | ((with_reducible show tVar _ _ _ _); refine r_var3 ?_ (by rfl))
  | with_reducible refine r_I0 ?_
  | with_reducible refine r_U ?_
  | with_reducible refine r_eqI ?_
  | with_reducible refine r_neI ?_
  | dsimp only)))
/-! ### equal data -/
mutual
theorem Dp.ex {K : PySem.W.Frag} {H H' : Hp} (e : Ex H H') : ∀ {v : V} {d : PyData}, Dp K H v d → Dp K H' v d
  | _, _, .non => .non
  | _, _, .bl b => .bl b
  | _, _, .int i => .int i
  | _, _, .str x => .str x
  | _, _, .lst h a => .lst (e.sql h) (DpAll.ex e a)
  | _, _, .tup h a => .tup (e.sqt h) (DpAll.ex e a)
theorem DpAll.ex {K : PySem.W.Frag} {H H' : Hp} (e : Ex H H') : ∀ {vs : List V} {ds : List PyData}, DpAll K H vs ds → DpAll K H' vs ds
  | _, _, .nil => .nil
  | _, _, .cons h a => .cons (Dp.ex e h) (DpAll.ex e a)
end
theorem r_neSame {K : PySem.W.Frag} {H : Hp} {Q : VK} {x y : V} (d : PyData) (h1 : Dp K H x d) (h2 : Dp K H y d) (hs : SeqAt.shaped d = true) (he : PyData.eqv d d = true) (k : Q (.bl false) H) : rNeD K x y H Q := ⟨d, d, h1, h2, hs, hs, by rw [he]; exact k⟩
theorem r_neOf {K : PySem.W.Frag} {H : Hp} {Q : VK} {x y : V} (d e : PyData) (h1 : Dp K H x d) (h2 : Dp K H y e) (hs : SeqAt.shaped d = true) (hs2 : SeqAt.shaped e = true) (he : PyData.eqv d e = true) (k : Q (.bl false) H) : rNeD K x y H Q := ⟨d, e, h1, h2, hs, hs2, by rw [he]; exact k⟩
theorem dp_tt {K : PySem.W.Frag} {H : Hp} {t : Addr} {x y : Str} (h : H t = some (.tup [.str x, .str y])) : Dp K H (.ref t) (.tuple [.str x, .str y]) := .tup (SqT.of h) (.cons (.str _) (.cons (.str _) .nil))
/-! ### what stays while one draws -/
theorem ints_ne {ns : List Int} : ∀ L x y, HO.lst (ns.map V.int) ≠ .lst [.ref L, .int x, .int y] := fun L x y z => by
  cases ns with
  | nil => cases z
  | cons n ns => cases z
theorem bg_lst {p a : Addr} {H H' : Hp} {n : Int} {ns : List Int} (g : Bg p H H') (hb : Bag H p n) (h : H a = some (.lst (ns.map V.int))) : H' a = some (.lst (ns.map V.int)) := g.at_ (hb.ne h ints_ne) h
theorem Pl.bg {K : PySem.W.Frag} {p a : Addr} {H H' : Hp} {n : Int} {ns : List Int} (h : Pl K H a ns) (g : Bg p H H') (hb : Bag H p n) : Pl K H' a ns := by
  obtain ⟨h1, h2, h3, dx, t, h4, h5⟩ := h
  exact ⟨h1, h2, h3, dx, t, g.at_ (hb.ne h4 fun _ _ _ z => by cases z) h4, g.at_ (hb.ne h5 fun _ _ _ z => by cases z) h5⟩
theorem dN.ok {ns : List Int} {d : Nat} (h : dN ns d) (hd : d ≤ 63) : okN ns := ⟨by rw [h.1]; omega, by rw [h.1]; omega, h.2.1⟩
theorem mul_z {ns ms : List Int} {d1 d2 : Nat} (h1 : dN ns d1) (h2 : dN ms d2) (hd : d1 ≤ 40) : ∀ c ∈ GM.mulH ns ms, Z 190 c := fun c hc => by
  have := GM.mulH_le h2.2.2 ns h1.2.2 c hc
  have l := h1.1
  unfold Z
  have b : ns.length * (100000000000000000000 * 100000000000000000000) ≤ 41 * (100000000000000000000 * 100000000000000000000) := Nat.mul_le_mul_right _ (by omega)
  have : 41 * (100000000000000000000 * 100000000000000000000) < (2 : Nat) ^ 190 := by decide
  omega
/-- a poly of a list -/
theorem r_PolyL {K : PySem.W.Frag} {H : Hp} {Q : VK} {E : XK} {l : Addr} {ns : List Int} (h : H l = some (.lst (ns.map V.int))) (ok : okN ns) (q : ∀ p H', H p = none → Ex H H' → Pl K H' p ns → Q (.ref p) H') : mkK (He.ga K "Poly") (spPInit K) E Q [.ref l] H := r_Poly ⟨l, rfl, .inl h⟩ ok q
theorem r_PolyT {K : PySem.W.Frag} {H : Hp} {Q : VK} {E : XK} {l : Addr} {ns : List Int} (h : H l = some (.tup (ns.map V.int))) (ok : okN ns) (q : ∀ p H', H p = none → Ex H H' → Pl K H' p ns → Q (.ref p) H') : mkK (He.ga K "Poly") (spPInit K) E Q [.ref l] H := r_Poly ⟨l, rfl, .inr h⟩ ok q
theorem r_Times {K : PySem.W.Frag} {H : Hp} {Q : VK} {E : XK} {a b : Addr} {ns ms : List Int} (ha : Pl K H a ns) (hb : Pl K H b ms) (fit : ns.length + ms.length ≤ 65) (z1 : ∀ c ∈ ns, Z 200 c) (z2 : ∀ c ∈ ms, Z 200 c) (q : ∀ p H', H p = none → Ex H H' → Pl K H' p (GM.mulH ns ms) → Q (.ref p) H') : spTimes K ([.ref a, .ref b] ++ []) H Q E :=
  .inr ⟨a, ns, rfl, ha, .inr ⟨b, ms, rfl, hb, .inr ⟨fit, z1, z2, q⟩⟩⟩
theorem r_Is {K : PySem.W.Frag} {H : Hp} {Q : VK} {E : XK} {a b : Addr} {ns : List Int} (ha : Pl K H a ns) (hb : H b = some (.lst (ns.map V.int))) (q : ∀ H', Ex H H' → Q (.bl true) H') : spIs K ([.ref a, .ref b] ++ []) H Q E :=
  ⟨a, b, ns, ns, rfl, rfl, ha, hb, fun H' e => by rw [decide_eq_true rfl]; exact q H' e⟩
theorem r_Div {K : PySem.W.Frag} {H : Hp} {Q : VK} {E : XK} {a b : Addr} {ns ms Qs : List Int} (ha : Pl K H a ns) (hb : Pl K H b ms) (z1 : ∀ c ∈ ns, Z 1000 c) (z2 : ∀ c ∈ ms, Z 200 c) (hQ : Quo ns ms Qs) (q : ∀ p H', H p = none → Ex H H' → Pl K H' p Qs → Q (.ref p) H') : spDivided K ([.ref a, .ref b] ++ []) H Q E := by
  refine .inr ⟨a, ns, rfl, ha, .inr ⟨b, ms, rfl, hb, z1, z2, fun Qs' hQ' u => ?_, fun no => absurd ⟨Qs, hQ⟩ no⟩⟩
  rw [u Qs hQ]
  exact q
theorem Quo.mul {ns ms : List Int} (h1 : okN ns) (h2 : okN ms) : Quo (GM.mulH ns ms) ms ns := ⟨h1.ne, by rw [GM.mulH_len h2.ne]; have := h1.1; omega, fun x => GM.ev_mulH h2.ne x ns⟩
/-! ### products and quotients -/
theorem mulH_comm {ns ms : List Int} (h1 : ns ≠ []) (h2 : ms ≠ []) : GM.mulH ms ns = GM.mulH ns ms := GM.ext_ev' (by rw [GM.mulH_len h1, GM.mulH_len h2]; omega) fun x => by rw [GM.ev_mulH h1, GM.ev_mulH h2, Int.mul_comm]
theorem Quo.mul2 {ns ms : List Int} (h1 : okN ns) (h2 : okN ms) : Quo (GM.mulH ns ms) ns ms := by
  rw [← mulH_comm h1.ne h2.ne]
  exact Quo.mul h2 h1
structure QS (K : PySem.W.Frag) (H : Hp) (p : Addr) (n : Int) (x y a1 a2 a3 : Addr) (ns ms : List Int) : Prop where
  bag : Bag H p n
  hx : H x = some (.lst (ns.map V.int))
  hy : H y = some (.lst (ms.map V.int))
  A1 : Pl K H a1 ns
  A2 : Pl K H a2 ms
  A3 : Pl K H a3 (GM.mulH ns ms)
theorem QS.ex {K : PySem.W.Frag} {H H' : Hp} {p : Addr} {n : Int} {x y a1 a2 a3 : Addr} {ns ms : List Int} (h : QS K H p n x y a1 a2 a3 ns ms) (e : Ex H H') : QS K H' p n x y a1 a2 a3 ns ms :=
  ⟨h.bag.ex e, e _ _ h.hx, e _ _ h.hy, h.A1.ex e, h.A2.ex e, h.A3.ex e⟩
theorem QS.bg {K : PySem.W.Frag} {H H' : Hp} {p : Addr} {n n' : Int} {x y a1 a2 a3 : Addr} {ns ms : List Int} (h : QS K H p n x y a1 a2 a3 ns ms) (g : Bg p H H') (b : Bag H' p n') : QS K H' p n' x y a1 a2 a3 ns ms :=
  ⟨b, bg_lst g h.bag h.hx, bg_lst g h.bag h.hy, h.A1.bg g h.bag, h.A2.bg g h.bag, h.A3.bg g h.bag⟩
theorem r_DrawL {H : Hp} {Q : VK} {E : XK} {p : Addr} {m n : Int} (hb : Bag H p n) (hn : n ≤ 100000) (h0 : 0 < m) (hm : m < 10000000000) (k : ∀ r H', 0 ≤ r → r < m → Bg p H H' → Bag H' p (n + 1) → Q (.int r) H') : spDrawG ([.ref p, .int m] ++ []) H Q E := r_DrawG hb hn h0 (zsm (by omega)) k
theorem r_cat {H : Hp} {Q : VK} {l b : Addr} {xs zs : List V} (h1 : H l = some (.lst xs)) (h2 : H b = some (.lst zs)) (hz : xs.length + zs.length ≤ 50000) (q : ∀ p H', H p = none → Ex H H' → H' p = some (.lst (xs ++ zs)) → Q (.ref p) H') : rCat (.ref l) (.ref b) H Q :=
  ⟨l, b, xs, zs, rfl, rfl, h1, h2, sz_le (by omega), fun p hp => q p _ hp (Ex.new hp) upd_same⟩
/-- a product with one number changed -/
def chP (ns ms : List Int) (pw : Nat) (s : Int) : List Int := (GM.mulH ns ms).set ((GM.mulH ns ms).length - 1 - pw) ((GM.mulH ns ms).getD ((GM.mulH ns ms).length - 1 - pw) 0 + s)
/-- its quotient, if there is one -/
def chQ (ns ms : List Int) (pw : Nat) (s : Int) : List Int := ns.set (ns.length - 1 - (pw - (ms.length - 1))) (ns.getD (ns.length - 1 - (pw - (ms.length - 1))) 0 + s)
def chC (ms : List Int) (pw : Nat) : Prop := ms = 1 :: GM.zr (ms.length - 1) ∧ ms.length - 1 ≤ pw
theorem chP_ev {ns ms : List Int} {pw : Nat} {s x : Int} (h1 : okN ns) (h2 : okN ms) (hp : pw < (GM.mulH ns ms).length) : GM.ev (chP ns ms pw s) x = GM.ev ns x * GM.ev ms x + s * x ^ pw := by
  rw [chP, GM.ev_set (by omega), GM.ev_mulH h2.ne, show (GM.mulH ns ms).length - 1 - ((GM.mulH ns ms).length - 1 - pw) = pw by omega]
theorem chP_quo {ns ms Qs : List Int} {pw : Nat} {s : Int} (hs : s = 1 ∨ s = -1) (h1 : okN ns) (h2 : okN ms) (hp : pw < (GM.mulH ns ms).length) (q : Quo (chP ns ms pw s) ms Qs) : chC ms pw ∧ Qs = chQ ns ms pw s := by
  have l := GM.mulH_len h2.ne ns
  have l1 := h1.1
  have l2 := h2.1
  have ql := q.2.1
  rw [chP, List.length_set] at ql
  obtain ⟨a, b, c⟩ := GM.changed (power := pw) hs h1.ne h2.2.2 (show Qs.length = ns.length by omega) (by omega) fun x => by rw [← chP_ev h1 h2 hp]; exact q.2.2 x
  exact ⟨⟨a, b⟩, c⟩
theorem chQ_quo {ns ms : List Int} {pw : Nat} {s : Int} (h1 : okN ns) (h2 : okN ms) (hp : pw < (GM.mulH ns ms).length) (hc : chC ms pw) : Quo (chP ns ms pw s) ms (chQ ns ms pw s) := by
  have l := GM.mulH_len h2.ne ns
  have l1 := h1.1
  have l2 := h2.1
  obtain ⟨c1, c2⟩ := hc
  refine ⟨fun z => ?_, ?_, fun x => ?_⟩
  · have := congrArg List.length z
    rw [chQ, List.length_set] at this
    simp at this
    exact h1.ne this
  · rw [chQ, chP, List.length_set, List.length_set]; omega
  · rw [chP_ev h1 h2 hp, chQ, GM.ev_set (by omega)]
    have eo : GM.ev ms x = x ^ (ms.length - 1) := by
      conv => lhs; rw [c1]
      rw [GM.ev, GM.ev_zr, GM.zr_len]
      simp
    rw [eo, show ns.length - 1 - (ns.length - 1 - (pw - (ms.length - 1))) = pw - (ms.length - 1) by omega, Int.add_mul, Int.mul_assoc, ← Int.pow_add, show pw - (ms.length - 1) + (ms.length - 1) = pw by omega]
theorem chP_ok {ns ms : List Int} {pw : Nat} {s : Int} (hs : s = 1 ∨ s = -1) (h1 : okN ns) (h2 : okN ms) (fit : ns.length + ms.length ≤ 65) (hp : pw < (GM.mulH ns ms).length) (top : pw + 1 = (GM.mulH ns ms).length → s = 1) : okN (chP ns ms pw s) := by
  obtain ⟨m1, m2, m3⟩ := h1.mul h2 fit
  refine ⟨by rw [chP, List.length_set]; exact m1, by rw [chP, List.length_set]; exact m2, ?_⟩
  rw [chP]
  cases hm : GM.mulH ns ms with
  | nil => rw [hm] at m1; simp at m1
  | cons c cs =>
    rw [hm] at m3 top hp
    simp only [List.headD_cons, List.length_cons] at m3 top hp
    simp only [List.length_cons]
    rcases hi : cs.length + 1 - 1 - pw with _ | i
    · show 0 < (c :: cs).getD 0 0 + s
      rw [top (by omega)]
      simp
      omega
    · exact m3
theorem chP_z {ns ms : List Int} {pw : Nat} {s : Int} (hs : s = 1 ∨ s = -1) (z : ∀ c ∈ GM.mulH ns ms, Z 190 c) (hp : pw < (GM.mulH ns ms).length) : ∀ c ∈ chP ns ms pw s, Z 195 c := fun c hc => by
  rcases List.mem_or_eq_of_mem_set hc with h | rfl
  · exact (z c h).mono (by decide)
  · have i : (GM.mulH ns ms).length - 1 - pw < (GM.mulH ns ms).length := by omega
    have : Z 190 ((GM.mulH ns ms).getD ((GM.mulH ns ms).length - 1 - pw) 0) := by
      rw [show (GM.mulH ns ms).getD ((GM.mulH ns ms).length - 1 - pw) 0 = (GM.mulH ns ms)[(GM.mulH ns ms).length - 1 - pw] by simp [i]]
      exact z _ (List.getElem_mem i)
    exact (this.add (show Z 190 s by rcases hs with rfl | rfl <;> (unfold Z; decide))).mono (by decide)
def spQuot (K : PySem.W.Frag) : Sp := sp3 fun b v w H Q _ => ∃ (p : Addr) (n : Int) (x y : Addr) (ns ms : List Int) (d1 d2 : Nat), b = .ref p ∧ v = .ref x ∧ w = .ref y ∧ n ≤ 60000 ∧ Bag H p n ∧ H x = some (.lst (ns.map V.int)) ∧ H y = some (.lst (ms.map V.int)) ∧ dN ns d1 ∧ dN ms d2 ∧ d1 ≤ 32 ∧ d2 ≤ 31 ∧ ∀ H', Bg p H H' → Bag H' p (n + 2) → Q (.bl true) H'
theorem ok__law_quotients_right {P : Program} {w : World} {K : PySem.W.Frag} {mg : Str → Option Value} {base : Heap} (T : Txt K mg) : ∃ fd, FnOk P w K mg base (L2.CX P w) 7 (He.ga K "_law_quotients_right") fd ["bag", "one", "other"] (spQuot K) ∧ Binds K fd ["bag", "one", "other"] [] := by
  obtain ⟨fd, F⟩ := T.d__law_quotients_right
  obtain ⟨fd__law_is, F__law_is, B__law_is⟩ := ok__law_is (P := P) (w := w) (base := base) T
  obtain ⟨fd__law_left, F__law_left, B__law_left⟩ := ok__law_left (P := P) (w := w) (base := base) T
  obtain ⟨fd_Poly_init, F_Poly_init, B_Poly_init, kb_Poly_init_0⟩ := ok_Poly_init (P := P) (w := w) (base := base) T
  obtain ⟨fd__law_draw, F__law_draw, B__law_draw⟩ := ok__law_draw (P := P) (w := w) (base := base) T
  obtain ⟨fd_divided, F_divided, B_divided, kb_divided_0⟩ := ok_divided (P := P) (w := w) (base := base) T
  obtain ⟨fd_times, F_times, B_times, kb_times_0⟩ := ok_times (P := P) (w := w) (base := base) T
  obtain ⟨fd__law_product, F__law_product, B__law_product⟩ := ok__law_product (P := P) (w := w) (base := base) T
  refine ⟨fd, F.ok sc__law_quotients_right sp3_len (fun cdv A outer s H vs Q E hr h => ?_), F.bindsN fun _ _ _ _ _ _ us hl => match us, hl with | [_, _, _], _ => rfl⟩
  have hr__law_is : Room 1 _ := hr.mono (by decide)
  have hr__law_left : Room 6 _ := hr.mono (by decide)
  have hr_Poly_init : Room 4 _ := hr.mono (by decide)
  have hr__law_draw : Room 1 _ := hr.mono (by decide)
  have hr_divided : Room 5 _ := hr.mono (by decide)
  have hr_times : Room 5 _ := hr.mono (by decide)
  have hr__law_product : Room 1 _ := hr.mono (by decide)
  obtain ⟨b0, v0, w0, rfl, p, n, x, y, ns, ms, d1, d2, rfl, rfl, rfl, hn, hb, hx, hy, hN, hM, l1, l2, k⟩ := sp3_is h
  refine ⟨_, (pss_cons (ps_par (i := 3) (j := 4) (by rfl) sc__law_quotients_right.nd rfl rfl (by decide) rfl rfl (pa_cons (pe_make T.mk_Poly F_Poly_init hr_Poly_init (by rfl) T.g_Poly B_Poly_init .nil passL (pa_cons (pv 1) pa_nil)) (pa_cons (pe_make T.mk_Poly F_Poly_init hr_Poly_init (by rfl) T.g_Poly B_Poly_init .nil passL (pa_cons (pe_callTy call_tuple_of (by rfl) T.b_tuple (by decide +kernel) (pa_cons (pv 2) pa_nil)) pa_nil)) pa_nil)) (by rfl))
      (pss_cons (ps_set (i := 5) sc__law_quotients_right.nd rfl (Or.inl rfl) (pe_call F__law_product hr__law_product (by rfl) T.g__law_product T.k__law_product B__law_product .nil passL (pa_cons (pv 1) (pa_cons (pv 2) pa_nil))))
      (pss_cons (ps_set (i := 6) sc__law_quotients_right.nd rfl (Or.inl rfl) (pe_call F_times hr_times (by rfl) T.g_times T.k_times B_times .nil passL (pa_cons (pv 3) (pa_cons (pv 4) pa_nil))))
      (pss_cons (ps_if (PW.pt (pw_or (pt_not (pt_val (pe_call F__law_is hr__law_is (by rfl) T.g__law_is T.k__law_is B__law_is .nil passL (pa_cons (pv 6) (pa_cons (pv 5) pa_nil))))) (pw_or1 (pt_not (pt_val (pe_call F__law_is hr__law_is (by rfl) T.g__law_is T.k__law_is B__law_is .nil passL (pa_cons (pe_callK0 F_times hr_times (by rfl) T.g_times T.k_times kb_times_0 passL (pk_cons (pv 3) (pk_cons (pv 4) pk_nil))) (pa_cons (pv 5) pa_nil)))))))) (pss_one (ps_ret pe_bl)) pss_nil)
      (pss_cons (ps_if (PW.pt (pw_or (pt_not (pt_val (pe_call F__law_is hr__law_is (by rfl) T.g__law_is T.k__law_is B__law_is .nil passL (pa_cons (pe_call F_divided hr_divided (by rfl) T.g_divided T.k_divided B_divided .nil passL (pa_cons (pv 6) (pa_cons (pv 4) pa_nil))) (pa_cons (pv 1) pa_nil))))) (pw_or1 (pt_not (pt_val (pe_call F__law_is hr__law_is (by rfl) T.g__law_is T.k__law_is B__law_is .nil passL (pa_cons (pe_callK0 F_divided hr_divided (by rfl) T.g_divided T.k_divided kb_divided_0 passL (pk_cons (pv 3) (pk_cons (pv 6) pk_nil))) (pa_cons (pv 2) pa_nil)))))))) (pss_one (ps_ret pe_bl)) pss_nil)
      (pss_cons (ps_set (i := 7) sc__law_quotients_right.nd rfl (Or.inl rfl) (pe_call F__law_draw hr__law_draw (by rfl) T.g__law_draw T.k__law_draw B__law_draw .nil passL (pa_cons (pv 0) (pa_cons (pe_callB (kx_lens rfl) (by rfl) T.b_len PySem.boot_len (pa_cons (pv 5) pa_nil)) pa_nil))))
      (pss_cons (ps_set (i := 8) sc__law_quotients_right.nd rfl (Or.inl rfl) (pe_ifExp (pt_cmpR op_eq (pv 7) (pe_op op_sub (pe_callB (kx_lens rfl) (by rfl) T.b_len PySem.boot_len (pa_cons (pv 5) pa_nil)) pe_int) (nomark _)) pe_int (pe_op op_sub pe_int (pe_op op_mulW pe_int (pe_call F__law_draw hr__law_draw (by rfl) T.g__law_draw T.k__law_draw B__law_draw .nil passL (pa_cons (pv 0) (pa_cons pe_int pa_nil)))))))
      (pss_cons (ps_asg (pe_op op_add (pe_ix (kx_ixl rfl) (pv 5) (pe_op op_sub (pe_op op_sub (pe_callB (kx_lens rfl) (by rfl) T.b_len PySem.boot_len (pa_cons (pv 5) pa_nil)) pe_int) (pv 7)) (fun _ _ => rfl)) (pv 8)) (pg_sub (pv 5) (pe_op op_sub (pe_op op_sub (pe_callB (kx_lens rfl) (by rfl) T.b_len PySem.boot_len (pa_cons (pv 5) pa_nil)) pe_int) (pv 7)) set_list))
      (pss_cons (ps_set (i := 9) sc__law_quotients_right.nd rfl (Or.inl rfl) (pe_tup (pa_cons pe_str (pa_cons pe_str pa_nil))))
      (pss_cons (ps_if (PW.pt (pw_and (pt_cmpR (op_eqD hr.units) (pv 2) (pe_op op_cat (pe_lst (pa_cons pe_int pa_nil)) (pe_op op_rep (pe_lst (pa_cons pe_int pa_nil)) (pe_op op_sub (pe_callB (kx_lens rfl) (by rfl) T.b_len PySem.boot_len (pa_cons (pv 2) pa_nil)) pe_int))) (nomark _)) (pw_and1 (pt_cmpR op_ge (pv 7) (pe_op op_sub (pe_callB (kx_lens rfl) (by rfl) T.b_len PySem.boot_len (pa_cons (pv 2) pa_nil)) pe_int) (nomark _))))) (pss_cons (ps_set (i := 9) sc__law_quotients_right.nd rfl (Or.inl rfl) (pe_callTy call_list_of (by rfl) T.b_list (by decide +kernel) (pa_cons (pv 1) pa_nil)))
      (pss_cons (ps_set (i := 10) sc__law_quotients_right.nd rfl (Or.inl rfl) (pe_op op_sub (pe_op op_sub (pe_callB (kx_lens rfl) (by rfl) T.b_len PySem.boot_len (pa_cons (pv 1) pa_nil)) pe_int) (pe_op op_add (pe_op op_sub (pv 7) (pe_callB (kx_lens rfl) (by rfl) T.b_len PySem.boot_len (pa_cons (pv 2) pa_nil))) pe_int)))
      (pss_one (ps_asg (pe_op op_add (pe_ix (kx_ixl rfl) (pv 9) (pv 10) (fun _ _ => rfl)) (pv 8)) (pg_sub (pv 9) (pv 10) set_list))))) pss_nil)
      (pss_cons (ps_if (pt_cmpR (op_neD hr.units) (pe_call F__law_left hr__law_left (by rfl) T.g__law_left T.k__law_left B__law_left .nil passL (pa_cons (pe_make T.mk_Poly F_Poly_init hr_Poly_init (by rfl) T.g_Poly B_Poly_init .nil passL (pa_cons (pv 5) pa_nil)) (pa_cons (pv 4) pa_nil))) (pv 9) (nomark _)) (pss_one (ps_ret pe_bl)) pss_nil)
      (pss_cons (ps_if (PW.pt (pw_and (pt_cmpR op_gt (pe_callB (kx_lens rfl) (by rfl) T.b_len PySem.boot_len (pa_cons (pv 1) pa_nil)) pe_int (nomark _)) (pw_and1 (pt_cmpR (op_neD hr.units) (pe_call F__law_left hr__law_left (by rfl) T.g__law_left T.k__law_left B__law_left .nil passL (pa_cons (pv 4) (pa_cons (pv 6) pa_nil))) (pe_tup (pa_cons pe_str (pa_cons pe_str pa_nil))) (nomark _))))) (pss_one (ps_ret pe_bl)) pss_nil)
      (pss_one (ps_ret (pe_and (pe_call F__law_is hr__law_is (by rfl) T.g__law_is T.k__law_is B__law_is .nil passL (pa_cons (pv 3) (pa_cons (pv 1) pa_nil))) (pe_one (pe_call F__law_is hr__law_is (by rfl) T.g__law_is T.k__law_is B__law_is .nil passL (pa_cons (pv 4) (pa_cons (pv 2) pa_nil))))))))))))))))))), ?_⟩
  have ok1 := hN.ok (by omega)
  have ok2 := hM.ok (by omega)
  have ln := hN.1
  have lm := hM.1
  have za := mul_z hN hM (by omega)
  have zn := hN.z
  have zm := hM.z
  have ml := GM.mulH_len ok2.ne ns
  walk_at "rd"
  refine r_PolyL hx ok1 fun a1 H1 ha1 e1 A1 => ?_
  walk_at "rd"
  refine r_tupL (SqL.of (e1 _ _ hy)) fun t H2 ht e2 h2 => ?_
  walk_at "rd"
  refine r_PolyT h2 ok2 fun a2 H3 ha2 e3 A2 => ?_
  walk_at "rd"
  have hx3 := (e2.trans e3) _ _ (e1 _ _ hx)
  have hy3 := (e2.trans e3) _ _ (e1 _ _ hy)
  have A13 := A1.ex (e2.trans e3)
  refine ⟨x, y, ns, ms, rfl, rfl, hx3, hy3, ok1.ne, ok2.ne, by omega, by omega, zn, zm, fun D H4 hD e4 h4 => ?_⟩
  walk_at "rd"
  refine r_Times (A13.ex e4) (A2.ex e4) (by omega) (fun c m => (zn c m).mono (by decide)) (fun c m => (zm c m).mono (by decide)) fun a3 H5 ha3 e5 A3 => ?_
  have e03 := (e1.trans e2).trans e3
  have hD0 : H D = none := e03.free hD
  have e05 := (e03.trans e4).trans e5
  have S5 : QS K H5 p n x y a1 a2 a3 ns ms := ⟨hb.ex e05, e05 _ _ hx, e05 _ _ hy, (A13.ex e4).ex e5, (A2.ex e4).ex e5, A3⟩
  have D5 := e5 _ _ h4
  clear A1 A2 A13 hx3 hy3 h4 h2 ha1 ha2 ha3
  walk_at "rd"
  refine r_Is S5.A3 D5 fun H6 e6 => ?_
  have S6 := S5.ex e6
  have D6 := e6 _ _ D5
  walk_at "rd"
  refine ite_f rfl ?_
  walk_at "rd"
  refine r_clKN rfl rfl (r_Times S6.A2 S6.A1 (by omega) (fun c m => (zm c m).mono (by decide)) (fun c m => (zn c m).mono (by decide)) fun a4 H7 _ e7 A4 => ?_)
  rw [mulH_comm ok1.ne ok2.ne] at A4
  have S7 := S6.ex e7
  have D7 := e7 _ _ D6
  walk_at "rd"
  refine r_Is A4 D7 fun H8 e8 => ?_
  have S8 := S7.ex e8
  have D8 := e8 _ _ D7
  walk_at "rd"
  refine ite_f rfl ?_
  walk_at "rd"
  refine r_Div S8.A3 S8.A2 (fun c m => (za c m).mono (by decide)) (fun c m => (zm c m).mono (by decide)) (Quo.mul ok1 ok2) fun a5 H9 _ e9 A5 => ?_
  have S9 := S8.ex e9
  have D9 := e9 _ _ D8
  walk_at "rd"
  refine r_Is A5 S9.hx fun H10 e10 => ?_
  have S10 := S9.ex e10
  have D10 := e10 _ _ D9
  walk_at "rd"
  refine ite_f rfl ?_
  walk_at "rd"
  refine r_clKN rfl rfl (r_Div S10.A3 S10.A1 (fun c m => (za c m).mono (by decide)) (fun c m => (zn c m).mono (by decide)) (Quo.mul2 ok1 ok2) fun a6 H11 _ e11 A6 => ?_)
  have S11 := S10.ex e11
  have D11 := e11 _ _ D10
  walk_at "rd"
  refine r_Is A6 S11.hy fun H12 e12 => ?_
  have S12 := S11.ex e12
  have D12 := e12 _ _ D11
  have g012 : Bg p H H12 := Bg.of (e05.trans (e6.trans (e7.trans (e8.trans (e9.trans (e10.trans (e11.trans e12)))))))
  clear S5 S6 S7 S8 S9 S10 S11 D5 D6 D7 D8 D9 D10 D11 A4 A5 A6 A3 e5 e6 e7 e8 e9 e10 e11 e12 e1 e2 e3 e4 e03 e05 hD ht
  walk_at "rd"
  refine ite_f rfl ?_
  walk_at "rd"
  refine r_lenL D12 ?_
  walk_at "rd"
  refine r_DrawL S12.bag (by omega) (by rw [List.length_map]; omega) (by rw [List.length_map]; omega) fun r H13 r0 r1 g13 b13 => ?_
  obtain ⟨pw, rfl⟩ : ∃ pw : Nat, r = (pw : Int) := ⟨r.toNat, by omega⟩
  rw [List.length_map] at r1
  have hp : pw < (GM.mulH ns ms).length := by omega
  have S13 := S12.bg g13 b13
  have D13 := bg_lst g13 S12.bag D12
  have g013 := g012.trans g13
  refine r_seqJ (fun σ' H' => ∃ s : Int, (s = 1 ∨ s = -1) ∧ (pw + 1 = (GM.mulH ns ms).length → s = 1) ∧ Bg p H H' ∧ QS K H' p (n + 2) x y a1 a2 a3 ns ms ∧ H' D = some (.lst ((GM.mulH ns ms).map V.int)) ∧ σ' = [some (.ref p), some (.ref x), some (.ref y), some (.ref a1), some (.ref a2), some (.ref D), some (.ref a3), some (.int pw), some (.int s), none, none]) (fun N hN' => ?_) ?_
  · walk_at "rd"
    refine r_lenL D13 ?_
    walk_at "rd"
    rw [List.length_map]
    by_cases c : pw + 1 = (GM.mulH ns ms).length
    · refine ite_t (decide_eq_true (by omega)) ?_
      walk_at "rd"
      exact hN' _ _ ⟨1, .inl rfl, fun _ => rfl, g013, S13.bg (Bg.refl _ _) (b13.le (by omega)), D13, rfl⟩
    · refine ite_f (decide_eq_false (by omega)) ?_
      walk_at "rd"
      refine r_DrawL S13.bag (by omega) (by decide) (by decide) fun r2 H14 q0 q1 g14 b14 => ?_
      walk_at "rd"
      refine r_I (mulOk (Z.small (i := 2) (by decide)) (Z.small (i := r2) (by omega)) (by decide) (by decide) (by decide)) ?_
      walk_at "rd"
      refine hN' _ _ ⟨1 - 2 * r2, by omega, fun z => absurd z c, g013.trans g14, S13.bg g14 (b14.le (by omega)), bg_lst g14 b13 D13, rfl⟩
  rintro σ' H14 ⟨s, hs, top, g14, S14, D14, rfl⟩
  clear S13 D13 g013 b13 g13 S12 D12 g012
  walk_at "rd"
  refine r_lenL D14 ?_
  walk_at "rd"
  have il : (GM.mulH ns ms).length - 1 - pw < (GM.mulH ns ms).length := by omega
  have ei : ((List.map V.int (GM.mulH ns ms)).length : Int) - 1 - (pw : Int) = (((GM.mulH ns ms).length - 1 - pw : Nat) : Int) := by rw [List.length_map]; omega
  refine r_ixL D14 (v := .int ((GM.mulH ns ms).getD ((GM.mulH ns ms).length - 1 - pw) 0)) (by rw [ei]; exact atI_nat (get_ints il)) ?_
  walk_at "rd"
  refine r_lenL D14 ?_
  walk_at "rd"
  refine r_setL (n := (GM.mulH ns ms).length - 1 - pw) D14 (by rw [ei, List.length_map]; exact ixN_nat il) ?_
  rw [set_ints]
  have xD : x ≠ D := by rintro rfl; rw [hD0] at hx; cases hx
  have yD : y ≠ D := by rintro rfl; rw [hD0] at hy; cases hy
  have g15 : Bg p H (upd H14 D (.lst ((chP ns ms pw s).map V.int))) := g14.updD hb hD0
  have D15 : upd H14 D (.lst ((chP ns ms pw s).map V.int)) D = some (.lst ((chP ns ms pw s).map V.int)) := upd_same
  have S15 : QS K (upd H14 D (.lst ((chP ns ms pw s).map V.int))) p (n + 2) x y a1 a2 a3 ns ms :=
    ⟨S14.bag.updD hb g14 hD0, by rw [upd_ne xD]; exact S14.hx, by rw [upd_ne yD]; exact S14.hy, S14.A1.bu Bu.upd D14, S14.A2.bu Bu.upd D14, S14.A3.bu Bu.upd D14⟩
  change tSeq _ _ _ _ (upd H14 D (.lst ((chP ns ms pw s).map V.int)))
  generalize upd H14 D (.lst ((chP ns ms pw s).map V.int)) = H15 at g15 D15 S15 ⊢
  clear S14 D14 g14
  walk_at "rx"
  refine r_seq ?_
  walk_at "rx"
  refine r_newT (sz_le (by simp)) fun W H16 hW e16 h16 => ?_
  have S16 := S15.ex e16
  have D16 := e16 _ _ D15
  refine r_seqJ (fun σ' H' => ∃ (due : Addr) (s10 : Option V), σ' = [some (.ref p), some (.ref x), some (.ref y), some (.ref a1), some (.ref a2), some (.ref D), some (.ref a3), some (.int pw), some (.int s), some (.ref due), s10] ∧ Ex H15 H' ∧ ((chC ms pw ∧ H' due = some (.lst ((chQ ns ms pw s).map V.int))) ∨ (¬ chC ms pw ∧ H' due = some (.tup [.str "misfit", .str "rest"])))) (fun N hN' => ?_) ?_
  · walk_at "rd"
    refine r_newL (sz_le (by simp)) fun B1 H17 _ e17 h17 => ?_
    walk_at "rd"
    refine r_newL (sz_le (by simp)) fun B2 H18 _ e18 h18 => ?_
    walk_at "rd"
    refine r_lenL (((S16.ex e17).ex e18).hy) ?_
    walk_at "rd"
    refine r_zeros (m := ms.length - 1) h18 (by rw [List.length_map]; omega) (by omega) fun B3 H19 _ e19 h19 => ?_
    refine r_cat ((e18.trans e19) _ _ h17) h19 (by simp [GM.zr_len]; omega) fun B4 H20 _ e20 h20 => ?_
    have e1520 := ((e16.trans e17).trans (e18.trans e19)).trans e20
    have S20 := S15.ex e1520
    refine r_eqIntsL (xs := ms) (ys := 1 :: GM.zr (ms.length - 1)) S20.hy h20 ?_
    walk_at "rd"
    have h16' := ((e17.trans e18).trans (e19.trans e20)) _ _ h16
    by_cases c1 : ms = 1 :: GM.zr (ms.length - 1)
    · refine ite_t (decide_eq_true c1) ?_
      walk_at "rd"
      refine r_lenL S20.hy ?_
      walk_at "rd"
      by_cases c2 : ms.length - 1 ≤ pw
      · refine ite_t (decide_eq_true (by rw [List.length_map]; omega)) ?_
        walk_at "rd"
        refine r_list (.inl (SqL.of S20.hx)) fun B5 H21 hB5 e21 h21 => ?_
        have S21 := S20.ex e21
        walk_at "rd"
        refine r_lenL S21.hx ?_
        walk_at "rd"
        refine r_lenL S21.hy ?_
        walk_at "rd"
        have jl : ns.length - 1 - (pw - (ms.length - 1)) < ns.length := by omega
        have ej : ((List.map V.int ns).length : Int) - 1 - ((pw : Int) - ((List.map V.int ms).length : Int) + 1) = ((ns.length - 1 - (pw - (ms.length - 1)) : Nat) : Int) := by rw [List.length_map, List.length_map]; omega
        refine r_ixL h21 (v := .int (ns.getD (ns.length - 1 - (pw - (ms.length - 1))) 0)) (by rw [ej]; exact atI_nat (get_ints jl)) ?_
        walk_at "rd"
        refine r_setL (n := ns.length - 1 - (pw - (ms.length - 1))) h21 (by rw [ej, List.length_map]; exact ixN_nat jl) ?_
        rw [set_ints]
        exact hN' _ _ ⟨B5, _, rfl, (e1520.trans (e21.mut hB5)), .inl ⟨⟨c1, c2⟩, upd_same⟩⟩
      · refine ite_f (decide_eq_false (by rw [List.length_map]; omega)) ?_
        walk_at "rd"
        exact hN' _ _ ⟨W, _, rfl, e1520, .inr ⟨fun z => c2 z.2, h16'⟩⟩
    · refine ite_f (decide_eq_false c1) ?_
      refine ite_f rfl ?_
      walk_at "rd"
      exact hN' _ _ ⟨W, _, rfl, e1520, .inr ⟨fun z => c1 z.1, h16'⟩⟩
  rintro σ' H17 ⟨due, s10, rfl, e17, hdue⟩
  have S17 := S15.ex e17
  have D17 := e17 _ _ D15
  have okP := chP_ok hs ok1 ok2 (by omega) hp top
  have zP := chP_z hs za hp
  walk_at "rd"
  refine r_PolyL D17 okP fun a5 H18 _ e18 A5 => ?_
  walk_at "rd"
  have S18 := S17.ex e18
  have rest : ∀ H', Ex H18 H' → tSeq (tIfS (tAnd (tTest (tOp (rI0 fun i j => V.bl (decide (j < i))) (tCB (fun xs H_1 Q => ∃ p ys, xs = [V.ref p] ∧ (SqL K H_1 p ys ∨ SqT K H_1 p ys) ∧ Q (V.int (ys.length : Nat)) H_1) (tCons (tVar 1) tNil)) (tC (V.int 1)))) (tTest (tOp (rNeD K) (tCall (spLeft K) [] E0 (tCons (tVar 4) (tCons (tVar 6) tNil))) (tTup (tCons (tC (V.str ("misfit"))) (tCons (tC (V.str ("rest"))) tNil)))))) (tRet (tC (V.bl false))) tNext) (tRet (tAndV (tCall (spIs K) [] E0 (tCons (tVar 3) (tCons (tVar 1) tNil))) (tCall (spIs K) [] E0 (tCons (tVar 4) (tCons (tVar 2) tNil))))) { nx := fun x H' => Q V.non H', rt := Q } [some (V.ref p), some (V.ref x), some (V.ref y), some (V.ref a1), some (V.ref a2), some (V.ref D), some (V.ref a3), some (V.int pw), some (V.int s), some (.ref due), s10] H' := by
    intro H' e'
    have S' := S18.ex e'
    have last : ∀ H2, Ex H' H2 → tRet (tAndV (tCall (spIs K) [] E0 (tCons (tVar 3) (tCons (tVar 1) tNil))) (tCall (spIs K) [] E0 (tCons (tVar 4) (tCons (tVar 2) tNil)))) { nx := fun x H' => Q V.non H', rt := Q } [some (V.ref p), some (V.ref x), some (V.ref y), some (V.ref a1), some (V.ref a2), some (V.ref D), some (V.ref a3), some (V.int pw), some (V.int s), some (.ref due), s10] H2 := by
      intro H2 e2
      have S2 := S'.ex e2
      walk_at "rd"
      refine r_Is S2.A1 S2.hx fun H3 e3 => ?_
      have S3 := S2.ex e3
      walk_at "rd"
      refine ite_t rfl ?_
      walk_at "rd"
      refine r_Is S3.A2 S3.hy fun H4 e4 => ?_
      exact k H4 (g15.trans (Bg.of ((e17.trans e18).trans ((e'.trans e2).trans (e3.trans e4))))) (S3.ex e4).bag
    walk_at "rd"
    refine r_lenL S'.hx ?_
    walk_at "rd"
    by_cases c : 1 < ns.length
    · refine ite_t (decide_eq_true (by rw [List.length_map]; omega)) ?_
      walk_at "rd"
      refine ⟨a2, a3, ms, GM.mulH ns ms, rfl, rfl, S'.A2, S'.A3, fun c m => (zm c m).mono (by decide), fun c m => (za c m).mono (by decide), fun Qs q => ?_, fun _ t2 H2 e2 ht2 => ?_⟩
      · exfalso
        have q1 := q.2.1
        have q2 : 0 < Qs.length := List.length_pos_iff.mpr q.1
        omega
      · walk_at "rd"
        refine r_newT (sz_le (by simp)) fun t3 H3 _ e3 ht3 => ?_
        refine r_neSame _ (dp_tt (e3 _ _ ht2)) (dp_tt ht3) (by decide +kernel) (by decide +kernel) ?_
        walk_at "rd"
        refine ite_f rfl ?_
        exact last H3 (e2.trans e3)
    · refine ite_f (decide_eq_false (by rw [List.length_map]; omega)) ?_
      exact ite_f rfl (last H' (Ex.refl _))
  refine ⟨a5, a2, chP ns ms pw s, ms, rfl, rfl, A5, S18.A2, fun c m => (zP c m).mono (by decide), fun c m => (zm c m).mono (by decide), fun Qs q l H19 e19 hl => ?_, fun no t2 H19 e19 ht2 => ?_⟩
  · obtain ⟨c, rfl⟩ := chP_quo hs ok1 ok2 hp q
    rcases hdue with ⟨_, hd⟩ | ⟨nc, _⟩
    · walk_at "rd"
      refine r_neInts hl ((e18.trans e19) _ _ hd) ?_
      rw [decide_eq_true rfl]
      walk_at "rd"
      exact ite_f rfl (rest H19 e19)
    · exact absurd c nc
  · rcases hdue with ⟨c, _⟩ | ⟨_, hd⟩
    · exact absurd ⟨_, chQ_quo ok1 ok2 hp c⟩ no
    · walk_at "rd"
      refine r_neSame _ (dp_tt ht2) (dp_tt ((e18.trans e19) _ _ hd)) (by decide +kernel) (by decide +kernel) ?_
      walk_at "rd"
      exact ite_f rfl (rest H19 e19)

end K04
namespace K04
open PySem PySem.Spec PyProof.Rows L2 GS TL
local macro_rules | `(tactic| walk_at "rd") => `(tactic| (repeat (first
  | with_reducible refine r_next ?_
  | with_reducible refine r_seq ?_
  | with_reducible refine r_ret ?_
  | with_reducible refine r_ifS ?_
  | with_reducible refine r_asg ?_
  | with_reducible refine r_drop ?_
  | with_reducible refine r_op ?_
  | with_reducible refine r_un ?_
  | with_reducible refine r_cbInt ?_
  | with_reducible refine r_cbAbs ?_
  | with_reducible refine r_cbLen ?_
  | with_reducible refine r_cbList ?_
  | with_reducible refine r_cbTup ?_
  | with_reducible refine r_iEnT ?_
  | with_reducible refine r_iEnL ?_
  | with_reducible refine r_zipA ?_
  | with_reducible refine r_augS ?_
  | with_reducible refine r_cb ?_
  | with_reducible refine r_call ?_
  | with_reducible refine r_make ?_
  | with_reducible refine r_callN0 ?_
  | with_reducible refine r_makeK0 ?_
  | with_reducible refine r_makeS ?_
  | with_reducible refine r_callS ?_
  | with_reducible refine r_cons ?_
  | with_reducible refine r_nil ?_
  | with_reducible refine r_test ?_
  | with_reducible refine r_B ?_
  | with_reducible refine r_and ?_
  | with_reducible refine r_or ?_
  | with_reducible refine r_not ?_
  | with_reducible refine r_andV ?_
  | with_reducible refine r_orV ?_
  | with_reducible refine r_notV ?_
  | with_reducible refine r_if ?_
  | with_reducible refine r_tup ?_
  | with_reducible refine r_lst ?_
  | with_reducible refine r_c ?_
  | with_reducible refine r_lc ?_
  | with_reducible refine r_chain ?_
  | with_reducible refine r_iT ?_
  | with_reducible refine r_iL ?_
  | with_reducible refine r_iR1 ?_
  | with_reducible refine r_iR2 ?_
  | with_reducible refine r_iR3 ?_
  | with_reducible refine r_asgG ?_
  | with_reducible refine r_gSub ?_
  | with_reducible refine r_for ?_
  | with_reducible refine r_smeth ?_
  | with_reducible refine r_par ?_
  | with_reducible refine r_parK ?_
  | with_reducible refine r_gCons ?_
  | with_reducible refine r_gNil ?_
  | with_reducible refine r_gName ?_
  | with_reducible refine r_intI ?_
  | with_reducible refine r_intB ?_
  | with_reducible refine r_absI ?_
  | with_reducible refine r_k ?_
  | with_reducible refine r_kV ?_
  | ((with_reducible show tVar _ _ _ _); refine r_var3 ?_ (by rfl))
  | with_reducible refine r_I0 ?_
  | with_reducible refine r_U ?_
  | with_reducible refine r_eqI ?_
  | with_reducible refine r_neI ?_
  | dsimp only)))
local macro_rules | `(tactic| walk_at "rx") => `(tactic| (repeat (first
  | with_reducible refine r_next ?_
  | with_reducible refine r_ret ?_
  | with_reducible refine r_ifS ?_
  | with_reducible refine r_asg ?_
  | with_reducible refine r_drop ?_
  | with_reducible refine r_op ?_
  | with_reducible refine r_un ?_
  | with_reducible refine r_cbInt ?_
  | with_reducible refine r_cbAbs ?_
  | with_reducible refine r_cbLen ?_
  | with_reducible refine r_cbList ?_
  | with_reducible refine r_cbTup ?_
  | with_reducible refine r_iEnT ?_
  | with_reducible refine r_iEnL ?_
  | with_reducible refine r_zipA ?_
  | with_reducible refine r_augS ?_
  | with_reducible refine r_cb ?_
  | with_reducible refine r_call ?_
  | with_reducible refine r_make ?_
  | with_reducible refine r_callN0 ?_
  | with_reducible refine r_makeK0 ?_
  | with_reducible refine r_makeS ?_
  | with_reducible refine r_callS ?_
  | with_reducible refine r_cons ?_
  | with_reducible refine r_nil ?_
  | with_reducible refine r_test ?_
  | with_reducible refine r_B ?_
  | with_reducible refine r_and ?_
  | with_reducible refine r_or ?_
  | with_reducible refine r_not ?_
  | with_reducible refine r_andV ?_
  | with_reducible refine r_orV ?_
  | with_reducible refine r_notV ?_
  | with_reducible refine r_if ?_
  | with_reducible refine r_tup ?_
  | with_reducible refine r_lst ?_
  | with_reducible refine r_c ?_
  | with_reducible refine r_lc ?_
  | with_reducible refine r_chain ?_
  | with_reducible refine r_iT ?_
  | with_reducible refine r_iL ?_
  | with_reducible refine r_iR1 ?_
  | with_reducible refine r_iR2 ?_
  | with_reducible refine r_iR3 ?_
  | with_reducible refine r_asgG ?_
  | with_reducible refine r_gSub ?_
  | with_reducible refine r_for ?_
  | with_reducible refine r_smeth ?_
  | with_reducible refine r_par ?_
  | with_reducible refine r_parK ?_
  | with_reducible refine r_gCons ?_
  | with_reducible refine r_gNil ?_
  | with_reducible refine r_gName ?_
  | with_reducible refine r_intI ?_
  | with_reducible refine r_intB ?_
  | with_reducible refine r_absI ?_
  | with_reducible refine r_k ?_
  | with_reducible refine r_kV ?_
  | ((with_reducible show tVar _ _ _ _); refine r_var3 ?_ (by rfl))
  | with_reducible refine r_I0 ?_
  | with_reducible refine r_U ?_
  | with_reducible refine r_eqI ?_
  | with_reducible refine r_neI ?_
  | dsimp only)))
/-! ### what a caller of the program sees -/
section
variable {K : PySem.W.Frag} {mg : Str → Option Value} {H : Hp} {Q : VK} {E : XK} {a b : Addr} {ns ms : List Int} {i j : Int}
theorem r_Worth (ha : Pl K H a ns) (zi : Z 100 i) (zn : ∀ c ∈ ns, Z 200 c) (q : Q (.int (GM.ev ns i)) H) : spWorth K [.ref a, .int i] H Q E := ⟨a, ns, rfl, ha, .inl ⟨i, rfl, zi, zn, q⟩⟩
theorem r_Mixed (ha : Pl K H a ns) (hb : Pl K H b ms) (l : ns.length = ms.length) (i0 : 0 ≤ i) (j0 : (if i = 0 then 1 else 0) ≤ j) (zi : Z 200 i) (zj : Z 200 j) (z1 : ∀ c ∈ ns, Z 200 c) (z2 : ∀ c ∈ ms, Z 200 c) (q : ∀ p H', H p = none → Ex H H' → Pl K H' p (mixL i j ns ms) → Q (.ref p) H') : spMixed K ([.ref a, .ref b, .int i, .int j] ++ []) H Q E :=
  .inr ⟨a, ns, rfl, ha, .inr ⟨b, ms, rfl, hb, .inr ⟨i, rfl, i0, .inr ⟨j, rfl, j0, .inr ⟨l, zi, zj, z1, z2, q⟩⟩⟩⟩⟩
theorem r_Derived (ha : Pl K H a ns) (l : 2 ≤ ns.length) (z1 : ∀ c ∈ ns, Z 200 c) (q : ∀ p H', H p = none → Ex H H' → Pl K H' p (GM.der ns) → Q (.ref p) H') : spDerived K ([.ref a] ++ []) H Q E := .inr ⟨a, ns, rfl, ha, .inr ⟨l, z1, q⟩⟩
theorem r_Less (ha : Pl K H a ns) (z1 : ∀ c ∈ ns, Z 200 c) (q : ∀ p H', H p = none → Ex H H' → Pl K H' p (lessL ns) → Q (.ref p) H') : spLess K ([.ref a] ++ []) H Q E := .inr ⟨a, ns, rfl, ha, z1, q⟩
theorem r_Measure (h : H a = some (.lst (ns.map V.int))) (q : Q (.int (gcdL ns)) H) : spMeasure K ([.ref a] ++ []) H Q E := ⟨a, ns, rfl, h, q⟩
theorem r_PEq (T : Txt K mg) (ha : Pl K H a ns) (hb : Pl K H b ms) (q : Q (.bl (decide (ns = ms))) H) : rEqOwn K (He.ga K "Poly") (spPEq K) E (.ref a) (.ref b) H Q := by
  obtain ⟨dx, fs, h1⟩ := ha.inst
  obtain ⟨dx2, fs2, h2⟩ := hb.inst
  exact ⟨a, dx, fs, _, rfl, h1, ty_own T (by decide) h2, T.cc_Poly.nf, a, ns, rfl, ha, .inl ⟨b, ms, rfl, hb, q⟩⟩
end
theorem r_meth {C : Addr} {m : Str} {sp : Sp} {dvs : List V} {E : XK} {ta : TE} {t : TA} {σ : L2.St} {H : Hp} {Q : VK} (q : ta σ H fun x H1 => ∃ a dx fs, x = .ref a ∧ H1 a = some (.ins C dx fs) ∧ fs.lookup m = none ∧ t σ H1 fun vs H2 => sp (x :: (vs ++ dvs)) H2 Q E) : tMeth C m sp dvs E ta t σ H Q := q
theorem r_methN {C : Addr} {m : Str} {nk : Nat} {sp : Sp} {gV : List V → List V → List V} {E : XK} {ta : TE} {tk : TA} {σ : L2.St} {H : Hp} {Q : VK} (q : ta σ H fun x H1 => ∃ a dx fs, x = .ref a ∧ H1 a = some (.ins C dx fs) ∧ fs.lookup m = none ∧ tk σ H1 fun zs H2 => zs.length = nk ∧ sp (gV [x] zs) H2 Q E) : tMethN C m nk sp gV E ta tk σ H Q := q
theorem r_methP {K : PySem.W.Frag} {H : Hp} {a : Addr} {ns : List Int} {R : Prop} (hA : Pl K H a ns) (q : R) : ∃ a' dx fs, V.ref a = .ref a' ∧ H a' = some (.ins (He.ga K "Poly") dx fs) ∧ List.lookup ("worth" : Str) fs = none ∧ R := by
  obtain ⟨_, _, _, dx, t, h4, _⟩ := hA
  exact ⟨a, dx, _, rfl, h4, rfl, q⟩
theorem walk_enumL' {K : PySem.W.Frag} {a : Addr} {xs : List V} {n : Nat} (h : xs.length = n) : Walk (Ite K a) n (fun H => SqL K H a xs) (YPair (fun i => some (.int (i : Nat))) (fun i => xs[i]?)) := by subst h; exact walk_enum
theorem mixL_comm (i j : Int) {ns ms : List Int} (h : ns.length = ms.length) : mixL j i ms ns = mixL i j ns ms := by
  refine GM.ext_ev' (by rw [mixL_len h, mixL_len h.symm, h]) fun x => ?_
  rw [mixL, mixL, GM.ev_zadd (by rw [GM.scl_len, GM.scl_len, h]), GM.ev_zadd (by rw [GM.scl_len, GM.scl_len, h]), Int.add_comm]
theorem mixL_one {A B : List Int} : mixL 1 1 A B = GM.zadd A B := by simp [mixL, GM.scl]
theorem mul_six {ns : List Int} (h : ns ≠ []) : GM.mulH [6] ns = GM.scl 6 ns := by
  have := List.length_pos_iff.mpr h
  refine GM.ext_ev' (by rw [GM.mulH_len h, GM.scl_len]; simp) fun x => ?_
  rw [GM.ev_mulH h, GM.ev_scl]
  simp [GM.ev]
theorem gcd_scl (l : List Int) : ∀ d : Int, 0 ≤ d → (GM.scl 6 l).foldl (fun (d v : Int) => ((Nat.gcd d.natAbs v.natAbs : Nat) : Int)) (6 * d) = 6 * l.foldl (fun (d v : Int) => ((Nat.gcd d.natAbs v.natAbs : Nat) : Int)) d := by
  induction l with
  | nil => intro d _; rfl
  | cons v l ih =>
    intro d hd
    show (GM.scl 6 l).foldl _ ((Nat.gcd (6 * d).natAbs (6 * v).natAbs : Nat) : Int) = _
    have e : ((Nat.gcd (6 * d).natAbs (6 * v).natAbs : Nat) : Int) = 6 * ((Nat.gcd d.natAbs v.natAbs : Nat) : Int) := by
      rw [Int.natAbs_mul, Int.natAbs_mul, show (6 : Int).natAbs = 6 from rfl, Nat.gcd_mul_left]
      omega
    rw [e, ih _ (Int.natCast_nonneg _)]
    rfl
theorem less_six {ns : List Int} (h : okN ns) : lessL (GM.mulH [6] ns) = lessL ns := by
  have e : gcdL (GM.scl 6 ns) = 6 * gcdL ns := gcd_scl ns 0 (by decide)
  rw [mul_six h.ne, lessL, lessL, e, GM.scl, List.map_map]
  exact List.map_congr_left fun c _ => Int.mul_ediv_mul_of_pos _ _ (by decide)
theorem gcdL_z {ns : List Int} (h : okN ns) (z : ∀ c ∈ ns, Z 200 c) : Z 200 (gcdL ns) := by
  have hg := h.gcd
  obtain ⟨c, hc⟩ : ∃ c, ns.head? = some c := by
    have := h.1
    cases ns with
    | nil => simp at this
    | cons c r => exact ⟨c, rfl⟩
  have hm : c ∈ ns := List.mem_of_head? hc
  have h3 := h.2.2
  rw [List.headD_eq_head?_getD, hc] at h3
  have d := Int.le_of_dvd h3 (gcdL_dvd hm)
  have z := z c hm
  simp only [Option.getD_some] at h3 d
  unfold Z at *
  omega
/-- before the last one is cut off -/
def fullD (ns : List Int) : List Int := (List.range ns.length).map fun k => ns.getD k 0 * ((ns.length : Int) - 1 - (k : Nat))
theorem fullD_len (ns : List Int) : (fullD ns).length = ns.length := by simp [fullD]
theorem fullD_cut (ns : List Int) : (fullD ns).dropLast = GM.der ns := by
  refine List.ext_getElem? fun k => ?_
  rw [List.dropLast_eq_take, fullD_len]
  by_cases h : k < ns.length - 1
  · have e := der_get (ns := ns) (k := k) (a := ns[k]) (by simp) (by omega)
    have g : (GM.der ns)[k]? = some ((GM.der ns).getD k 0) := by
      rw [List.getD_eq_getElem?_getD, List.getElem?_eq_getElem (by rw [GM.der_len]; omega)]
      rfl
    rw [g, e, List.getElem?_take_of_lt h, fullD, List.getElem?_map, List.getElem?_range (by omega)]
    simp [show k < ns.length by omega]
  · rw [List.getElem?_eq_none (by simp; omega), List.getElem?_eq_none (by rw [GM.der_len]; omega)]
theorem cut_last (xs : List Int) : cutV (xs.map V.int) none (some (-1)) = (xs.dropLast).map V.int := by
  unfold cutV
  rw [HT.sIx_none, List.drop_zero, show HT.sIx (xs.map V.int).length (xs.map V.int).length (some (-1)) = xs.length - 1 by simp [HT.sIx]; omega, Nat.sub_zero, List.dropLast_eq_take, List.map_take]
/-- two shares, not both 0 -/
def Shr (H : Hp) (v : V) : Prop := ∃ (T : Addr) (i j : Int), v = .ref T ∧ H T = some (.tup [.int i, .int j]) ∧ 0 ≤ i ∧ 0 ≤ j ∧ (i ≠ 0 ∨ j ≠ 0) ∧ Z 67 i ∧ Z 67 j
theorem Shr.bg {p : Addr} {H H' : Hp} {n : Int} {v : V} (h : Shr H v) (g : Bg p H H') (hb : Bag H p n) : Shr H' v := by
  obtain ⟨T, i, j, rfl, h1, h2⟩ := h
  exact ⟨T, i, j, rfl, g.at_ (hb.ne h1 fun _ _ _ z => by cases z) h1, h2⟩
theorem Shr.ex {H H' : Hp} {v : V} (h : Shr H v) (e : Ex H H') : Shr H' v := let ⟨T, i, j, e1, h1, h2⟩ := h; ⟨T, i, j, e1, e _ _ h1, h2⟩
theorem Z.le100 {i : Int} (h0 : 0 ≤ i) (h : i ≤ 100000000000000000000) : Z 67 i := Nat.lt_of_le_of_lt (show i.natAbs ≤ 100000000000000000000 by omega) (by decide)
def spSums (K : PySem.W.Frag) : Sp := sp3 fun b v w H Q _ => ∃ (p : Addr) (n : Int) (x y : Addr) (ns ms : List Int) (d1 d2 : Nat), b = .ref p ∧ v = .ref x ∧ w = .ref y ∧ n ≤ 60000 ∧ Bag H p n ∧ H x = some (.lst (ns.map V.int)) ∧ H y = some (.lst (ms.map V.int)) ∧ dN ns d1 ∧ dN ms d2 ∧ d1 ≤ 6 ∧ d2 ≤ 6 ∧ ∀ H', Bg p H H' → Bag H' p (n + 60) → Q (.bl true) H'
theorem ok__law_sums_right {P : Program} {w : World} {K : PySem.W.Frag} {mg : Str → Option Value} {base : Heap} (T : Txt K mg) : ∃ fd, FnOk P w K mg base (L2.CX P w) 6 (He.ga K "_law_sums_right") fd ["bag", "one", "other"] (spSums K) ∧ Binds K fd ["bag", "one", "other"] [] := by
  obtain ⟨fd, F⟩ := T.d__law_sums_right
  obtain ⟨fd_Poly_eq, F_Poly_eq, B_Poly_eq⟩ := ok_Poly_eq (P := P) (w := w) (base := base) T
  obtain ⟨fd_mixed, F_mixed, B_mixed, kb_mixed_0⟩ := ok_mixed (P := P) (w := w) (base := base) T
  obtain ⟨fd_derived, F_derived, B_derived, kb_derived_0⟩ := ok_derived (P := P) (w := w) (base := base) T
  obtain ⟨fd_times, F_times, B_times, kb_times_0⟩ := ok_times (P := P) (w := w) (base := base) T
  obtain ⟨fd__law_is, F__law_is, B__law_is⟩ := ok__law_is (P := P) (w := w) (base := base) T
  obtain ⟨fd__law_measure, F__law_measure, B__law_measure⟩ := ok__law_measure (P := P) (w := w) (base := base) T
  obtain ⟨fd_lessened, F_lessened, B_lessened, kb_lessened_0⟩ := ok_lessened (P := P) (w := w) (base := base) T
  obtain ⟨fd_Poly_init, F_Poly_init, B_Poly_init, kb_Poly_init_0⟩ := ok_Poly_init (P := P) (w := w) (base := base) T
  obtain ⟨fd__law_numbers, F__law_numbers, B__law_numbers⟩ := ok__law_numbers (P := P) (w := w) (base := base) T
  obtain ⟨fd__law_draw, F__law_draw, B__law_draw⟩ := ok__law_draw (P := P) (w := w) (base := base) T
  obtain ⟨fd__law_pick, F__law_pick, B__law_pick⟩ := ok__law_pick (P := P) (w := w) (base := base) T
  obtain ⟨fd__law_great, F__law_great, B__law_great⟩ := ok__law_great (P := P) (w := w) (base := base) T
  obtain ⟨fd_Poly_worth, F_Poly_worth, B_Poly_worth, kb_Poly_worth_0⟩ := ok_Poly_worth (P := P) (w := w) (base := base) T
  obtain ⟨fd__law_number, F__law_number, B__law_number⟩ := ok__law_number (P := P) (w := w) (base := base) T
  refine ⟨fd, F.ok sc__law_sums_right sp3_len (fun cdv A outer s H vs Q E hr h => ?_), F.bindsN fun _ _ _ _ _ _ us hl => match us, hl with | [_, _, _], _ => rfl⟩
  have hr_Poly_eq : Room 1 _ := hr.mono (by decide)
  have hr_mixed : Room 5 _ := hr.mono (by decide)
  have hr_derived : Room 5 _ := hr.mono (by decide)
  have hr_times : Room 5 _ := hr.mono (by decide)
  have hr__law_is : Room 1 _ := hr.mono (by decide)
  have hr__law_measure : Room 1 _ := hr.mono (by decide)
  have hr_lessened : Room 5 _ := hr.mono (by decide)
  have hr_Poly_init : Room 4 _ := hr.mono (by decide)
  have hr__law_numbers : Room 4 _ := hr.mono (by decide)
  have hr__law_draw : Room 1 _ := hr.mono (by decide)
  have hr__law_pick : Room 2 _ := hr.mono (by decide)
  have hr__law_great : Room 2 _ := hr.mono (by decide)
  have hr_Poly_worth : Room 4 _ := hr.mono (by decide)
  have hr__law_number : Room 3 _ := hr.mono (by decide)
  obtain ⟨b0, v0, w0, rfl, p, n, x, y, ns, ms, d1, d2, rfl, rfl, rfl, hn, hb, hx, hy, hN, hM, l1, l2, k⟩ := sp3_is h
  refine ⟨_, (pss_cons (ps_par (i := 3) (j := 4) (by rfl) sc__law_sums_right.nd rfl rfl (by decide) rfl rfl (pa_cons (pe_make T.mk_Poly F_Poly_init hr_Poly_init (by rfl) T.g_Poly B_Poly_init .nil passL (pa_cons (pv 1) pa_nil)) (pa_cons (pe_make T.mk_Poly F_Poly_init hr_Poly_init (by rfl) T.g_Poly B_Poly_init .nil passL (pa_cons (pv 2) pa_nil)) pa_nil)) (by rfl))
      (pss_cons (ps_set (i := 5) sc__law_sums_right.nd rfl (Or.inl rfl) (pe_call F__law_number hr__law_number (by rfl) T.g__law_number T.k__law_number B__law_number .nil passL (pa_cons (pv 0) (pa_cons (pe_call F__law_draw hr__law_draw (by rfl) T.g__law_draw T.k__law_draw B__law_draw .nil passL (pa_cons (pv 0) (pa_cons pe_int pa_nil))) pa_nil))))
      (pss_cons (ps_asg (pe_tup (pa_cons pe_int (pa_cons pe_int pa_nil))) (pg_tup rfl (pgs_cons (pg_name (i := 6) sc__law_sums_right.nd rfl (Or.inl rfl)) (pgs_cons (pg_name (i := 7) sc__law_sums_right.nd rfl (Or.inl rfl)) pgs_nil))))
      (pss_cons (ps_for (passes_of rfl) rfl (pi_list (pe_revL (pv 1))) (pg_name (i := 8) sc__law_sums_right.nd rfl (Or.inl rfl)) (pss_one (ps_par (i := 6) (j := 7) (by rfl) sc__law_sums_right.nd rfl rfl (by decide) rfl rfl (pa_cons (pe_op op_add (pv 6) (pe_op op_mulW (pv 8) (pv 7))) (pa_cons (pe_op op_mulW (pv 7) (pv 5)) pa_nil)) (by rfl))))
      (pss_cons (ps_if (PW.pt (pw_or (pt_cmpR op_ne (pe_meth (pv 3) T.cl_Poly T.me_Poly_worth F_Poly_worth hr_Poly_worth B_Poly_worth .nil passL (pa_cons (pv 5) pa_nil)) (pv 6) (nomark _)) (pw_or1 (pt_cmpR op_ne (pe_methK0 (pe_call F_times hr_times (by rfl) T.g_times T.k_times B_times .nil passL (pa_cons (pv 3) (pa_cons (pv 4) pa_nil))) T.cl_Poly T.me_Poly_worth F_Poly_worth hr_Poly_worth kb_Poly_worth_0 passL (pk_cons (pv 5) pk_nil)) (pe_op op_mulW (pv 6) (pe_meth (pv 4) T.cl_Poly T.me_Poly_worth F_Poly_worth hr_Poly_worth B_Poly_worth .nil passL (pa_cons (pv 5) pa_nil))) (nomark _))))) (pss_one (ps_ret pe_bl)) pss_nil)
      (pss_cons (ps_set (i := 9) sc__law_sums_right.nd rfl (Or.inr rfl) (pe_call F__law_pick hr__law_pick (by rfl) T.g__law_pick T.k__law_pick B__law_pick .nil passL (pa_cons (pv 0) (pa_cons (pe_lst (pa_cons (pe_tup (pa_cons pe_int (pa_cons (pe_op op_add pe_int (pe_call F__law_draw hr__law_draw (by rfl) T.g__law_draw T.k__law_draw B__law_draw .nil passL (pa_cons (pv 0) (pa_cons pe_int pa_nil)))) pa_nil))) (pa_cons (pe_tup (pa_cons (pe_op op_add pe_int (pe_call F__law_great hr__law_great (by rfl) T.g__law_great T.k__law_great B__law_great .nil passL (pa_cons (pv 0) pa_nil))) (pa_cons pe_int pa_nil))) (pa_cons (pe_tup (pa_cons pe_int (pa_cons pe_int pa_nil))) (pa_cons (pe_tup (pa_cons (pe_op op_add (pe_call F__law_draw hr__law_draw (by rfl) T.g__law_draw T.k__law_draw B__law_draw .nil passL (pa_cons (pv 0) (pa_cons pe_int pa_nil))) pe_int) (pa_cons (pe_call F__law_great hr__law_great (by rfl) T.g__law_great T.k__law_great B__law_great .nil passL (pa_cons (pv 0) pa_nil)) pa_nil))) pa_nil))))) pa_nil))))
      (pss_cons (ps_set (i := 10) sc__law_sums_right.nd rfl (Or.inl rfl) (pe_call F__law_numbers hr__law_numbers (by rfl) T.g__law_numbers T.k__law_numbers B__law_numbers .nil passL (pa_cons (pv 0) (pa_cons (pe_op op_sub (pe_callB (kx_lens rfl) (by rfl) T.b_len PySem.boot_len (pa_cons (pv 1) pa_nil)) pe_int) (pa_cons (pe_call F__law_draw hr__law_draw (by rfl) T.g__law_draw T.k__law_draw B__law_draw .nil passL (pa_cons (pv 0) (pa_cons pe_int pa_nil))) pa_nil)))))
      (pss_cons (ps_setLc (i := 11) (own := [("number", 8), ("factor", 12)]) (g := gTup K 2 (gCons (gName 8) (gCons (gName 12) (gNil)))) (tt := tYes)  rfl sc__law_sums_right.nd rfl rfl (sw_true rfl rfl rfl (by decide +kernel)) (RZ.pi_zipA (by rfl) T.b_zip (pa_cons (pv 1) (pa_cons (pv 10) pa_nil))) (blkOk_by (own := [("number", 8), ("factor", 12)]) (N := ["bag", "one", "other", "mine", "its", "x", "worth", "power", "number", "shares", "twin", "total", "factor", "common", "steps", "at", "sides"]) (sc := defScope s__law_sums_right) (by decide +kernel)) (fun _ _ _ _ _ => (pg_tup rfl (pgs_cons (pg_name (i := 8) sc__law_sums_right.nd rfl (Or.inl rfl)) (pgs_cons (pg_name (i := 12) sc__law_sums_right.nd rfl (Or.inl rfl)) pgs_nil)))) (fun _ _ _ _ _ => pts_nil) (fun _ _ _ _ _ => (pe_op op_add (pe_op op_mulW (pe_ix (kx_ixt rfl) (pv 9) pe_int (fun _ _ => rfl)) (pv 8)) (pe_op op_mulW (pe_ix (kx_ixt rfl) (pv 9) pe_int (fun _ _ => rfl)) (pv 12)))))
      (pss_cons (ps_if (PW.pt (pw_or (pt_not (pt_val (pe_call F__law_is hr__law_is (by rfl) T.g__law_is T.k__law_is B__law_is .nil passL (pa_cons (pe_call F_mixed hr_mixed (by rfl) T.g_mixed T.k_mixed B_mixed .nil passL (pa_cons (pv 3) (pa_cons (pe_make T.mk_Poly F_Poly_init hr_Poly_init (by rfl) T.g_Poly B_Poly_init .nil passL (pa_cons (pv 10) pa_nil)) (pa_cons (pe_ix (kx_ixt rfl) (pv 9) pe_int (fun _ _ => rfl)) (pa_cons (pe_ix (kx_ixt rfl) (pv 9) pe_int (fun _ _ => rfl)) pa_nil))))) (pa_cons (pv 11) pa_nil))))) (pw_or1 (pt_not (pt_val (pe_call F__law_is hr__law_is (by rfl) T.g__law_is T.k__law_is B__law_is .nil passL (pa_cons (pe_callK0 F_mixed hr_mixed (by rfl) T.g_mixed T.k_mixed kb_mixed_0 passL (pk_cons (pe_ix (kx_ixt rfl) (pv 9) pe_int (fun _ _ => rfl)) (pk_cons (pe_ix (kx_ixt rfl) (pv 9) pe_int (fun _ _ => rfl)) (pk_cons (pv 3) (pk_cons (pe_make T.mk_Poly F_Poly_init hr_Poly_init (by rfl) T.g_Poly B_Poly_init .nil passL (pa_cons (pv 10) pa_nil)) pk_nil))))) (pa_cons (pv 11) pa_nil)))))))) (pss_one (ps_ret pe_bl)) pss_nil)
      (pss_cons (ps_set (i := 13) sc__law_sums_right.nd rfl (Or.inr rfl) (pe_call F__law_measure hr__law_measure (by rfl) T.g__law_measure T.k__law_measure B__law_measure .nil passL (pa_cons (pv 11) pa_nil)))
      (pss_cons (ps_if (pt_not (pt_val (pe_call F__law_is hr__law_is (by rfl) T.g__law_is T.k__law_is B__law_is .nil passL (pa_cons (pe_call F_lessened hr_lessened (by rfl) T.g_lessened T.k_lessened B_lessened .nil passL (pa_cons (pe_make T.mk_Poly F_Poly_init hr_Poly_init (by rfl) T.g_Poly B_Poly_init .nil passL (pa_cons (pv 11) pa_nil)) pa_nil)) (pa_cons (pe_lc (own := [("number", 8)]) (g := gName 8) (tt := tYes)  rfl sc__law_sums_right.nd (pi_list (pv 11)) (blkOk_by (own := [("number", 8)]) (N := ["bag", "one", "other", "mine", "its", "x", "worth", "power", "number", "shares", "twin", "total", "factor", "common", "steps", "at", "sides"]) (sc := defScope s__law_sums_right) (by decide +kernel)) (fun _ _ _ _ _ => (pg_name (i := 8) sc__law_sums_right.nd rfl (Or.inl rfl))) (fun _ _ _ _ _ => pts_nil) (fun _ _ _ _ _ => (pe_op op_fdivW (pv 8) (pv 13)))) pa_nil))))) (pss_one (ps_ret pe_bl)) pss_nil)
      (pss_cons (ps_if (pt_not (pt_val (pe_call F__law_is hr__law_is (by rfl) T.g__law_is T.k__law_is B__law_is .nil passL (pa_cons (pe_callK0 F_lessened hr_lessened (by rfl) T.g_lessened T.k_lessened kb_lessened_0 passL (pk_cons (pe_call F_times hr_times (by rfl) T.g_times T.k_times B_times .nil passL (pa_cons (pe_make T.mk_Poly F_Poly_init hr_Poly_init (by rfl) T.g_Poly B_Poly_init .nil passL (pa_cons (pe_lst (pa_cons pe_int pa_nil)) pa_nil)) (pa_cons (pv 3) pa_nil))) pk_nil)) (pa_cons (pe_lc (own := [("number", 8)]) (g := gName 8) (tt := tYes)  rfl sc__law_sums_right.nd (pi_list (pv 1)) (blkOk_by (own := [("number", 8)]) (N := ["bag", "one", "other", "mine", "its", "x", "worth", "power", "number", "shares", "twin", "total", "factor", "common", "steps", "at", "sides"]) (sc := defScope s__law_sums_right) (by decide +kernel)) (fun _ _ _ _ _ => (pg_name (i := 8) sc__law_sums_right.nd rfl (Or.inl rfl))) (fun _ _ _ _ _ => pts_nil) (fun _ _ _ _ _ => (pe_op op_fdivW (pv 8) (pe_call F__law_measure hr__law_measure (by rfl) T.g__law_measure T.k__law_measure B__law_measure .nil passL (pa_cons (pv 1) pa_nil))))) pa_nil))))) (pss_one (ps_ret pe_bl)) pss_nil)
      (pss_cons (ps_set (i := 14) sc__law_sums_right.nd rfl (Or.inl rfl) (pe_slice sl_list (pe_lc (own := [("at", 15), ("number", 8)]) (g := gTup K 2 (gCons (gName 15) (gCons (gName 8) (gNil)))) (tt := tYes)  rfl sc__law_sums_right.nd (pi_enum (by rfl) T.b_enumerate (pa_cons (pv 1) pa_nil)) (blkOk_by (own := [("at", 15), ("number", 8)]) (N := ["bag", "one", "other", "mine", "its", "x", "worth", "power", "number", "shares", "twin", "total", "factor", "common", "steps", "at", "sides"]) (sc := defScope s__law_sums_right) (by decide +kernel)) (fun _ _ _ _ _ => (pg_tup rfl (pgs_cons (pg_name (i := 15) sc__law_sums_right.nd rfl (Or.inl rfl)) (pgs_cons (pg_name (i := 8) sc__law_sums_right.nd rfl (Or.inl rfl)) pgs_nil)))) (fun _ _ _ _ _ => pts_nil) (fun _ _ _ _ _ => (pe_op op_mulW (pv 8) (pe_op op_sub (pe_op op_sub (pe_callB (kx_lens rfl) (by rfl) T.b_len PySem.boot_len (pa_cons (pv 1) pa_nil)) pe_int) (pv 15))))) po_none (po_some (pe_un un_neg pe_int))))
      (pss_cons (ps_if (PW.pt (pw_and (pt_cmpR (op_neD hr.units) (pv 14) (pe_lst pa_nil) (nomark _)) (pw_and1 (pt_not (pt_val (pe_call F__law_is hr__law_is (by rfl) T.g__law_is T.k__law_is B__law_is .nil passL (pa_cons (pe_call F_derived hr_derived (by rfl) T.g_derived T.k_derived B_derived .nil passL (pa_cons (pv 3) pa_nil)) (pa_cons (pv 14) pa_nil)))))))) (pss_one (ps_ret pe_bl)) pss_nil)
      (pss_cons (ps_if (PW.pt (pw_or (pt_cmpR (op_eqD hr.units) (pv 14) (pe_lst pa_nil) (nomark _)) (pw_or1 (pt_cmpR op_eq (pe_callB (kx_lens rfl) (by rfl) T.b_len PySem.boot_len (pa_cons (pv 2) pa_nil)) pe_int (nomark _))))) (pss_one (ps_ret pe_bl)) pss_nil)
      (pss_cons (ps_set (i := 16) sc__law_sums_right.nd rfl (Or.inl rfl) (pe_lst (pa_cons (pe_call F_times hr_times (by rfl) T.g_times T.k_times B_times .nil passL (pa_cons (pe_call F_derived hr_derived (by rfl) T.g_derived T.k_derived B_derived .nil passL (pa_cons (pv 3) pa_nil)) (pa_cons (pv 4) pa_nil))) (pa_cons (pe_call F_times hr_times (by rfl) T.g_times T.k_times B_times .nil passL (pa_cons (pv 3) (pa_cons (pe_callK0 F_derived hr_derived (by rfl) T.g_derived T.k_derived kb_derived_0 passL (pk_cons (pv 4) pk_nil)) pa_nil))) pa_nil))))
      (pss_one (ps_ret (pe_cmpR (op_eqOwn F_Poly_eq hr_Poly_eq T.me_Poly_eq.at_ T.me_Poly_eq.fn B_Poly_eq passL) (pe_call F_mixed hr_mixed (by rfl) T.g_mixed T.k_mixed B_mixed .nil passL (pa_cons (pe_ix (kx_ixl rfl) (pv 16) pe_int (fun _ _ => rfl)) (pa_cons (pe_ix (kx_ixl rfl) (pv 16) pe_int (fun _ _ => rfl)) (pa_cons pe_int (pa_cons pe_int pa_nil))))) (pe_call F_derived hr_derived (by rfl) T.g_derived T.k_derived B_derived .nil passL (pa_cons (pe_call F_times hr_times (by rfl) T.g_times T.k_times B_times .nil passL (pa_cons (pv 3) (pa_cons (pv 4) pa_nil))) pa_nil)) (nomark _)))))))))))))))))))), ?_⟩
  have ok1 := hN.ok (by omega)
  have ok2 := hM.ok (by omega)
  have ln := hN.1
  have lm := hM.1
  have zn := hN.z
  have zm := hM.z
  walk_at "rd"
  refine r_PolyL hx ok1 fun a1 H1 _ e1 A1 => ?_
  walk_at "rd"
  refine r_PolyL (e1 _ _ hy) ok2 fun a2 H2 _ e2 A2 => ?_
  have hx2 := e2 _ _ (e1 _ _ hx)
  have hy2 := e2 _ _ (e1 _ _ hy)
  have A12 := A1.ex e2
  have b2 := (hb.ex e1).ex e2
  have g2 : Bg p H H2 := Bg.of (e1.trans e2)
  clear A1 e1 e2
  walk_at "rd"
  refine r_DrawL b2 (by omega) (by decide) (by decide) fun r H3 _ _ g3 b3 => ?_
  walk_at "rd"
  refine r_Number b3 (by omega) fun xi H4 cx g4 b4 => ?_
  have g24 := g3.trans g4
  have hx4 := bg_lst g24 b2 hx2
  have hy4 := bg_lst g24 b2 hy2
  have A1 := A12.bg g24 b2
  have A24 := A2.bg g24 b2
  have g04 := g2.trans g24
  have zx := cx.z
  clear A12 A2 hx2 hy2 b2 g2 g3 b3 g4 g24
  walk_at "rd"
  refine r_newT (sz_le (by simp)) fun T1 H5 _ e5 h5 => ?_
  refine r_gTup h5 rfl (r_gCons (r_gName (r_gCons (r_gName (r_gNil ?_)))))
  have hx5 := e5 _ _ hx4
  walk_at "rd"
  refine ⟨_, rfl, x, _, rfl, SqL.of hx5, fun R hR => ?_⟩
  rw [← List.map_reverse]
  have h6 : upd H5 R (.lst (ns.reverse.map V.int)) R = some (.lst (ns.reverse.map V.int)) := upd_same
  have e6 : Ex H5 (upd H5 R (.lst (ns.reverse.map V.int))) := Ex.new hR
  generalize upd H5 R (.lst (ns.reverse.map V.int)) = H6 at h6 e6 ⊢
  refine ⟨R, rfl, ⟨_, SqL.of h6⟩, ?_⟩
  refine for_lI (ns := ns.reverse) (fun i σ H' => H' = H6 ∧ Z (67 * i + 1) (xi ^ i) ∧ ∃ s8, σ = [some (.ref p), some (.ref x), some (.ref y), some (.ref a1), some (.ref a2), some (.int xi), some (.int (GM.ev (ns.reverse.take i).reverse xi)), some (.int (xi ^ i)), s8, none, none, none, none, none, none, none, none]) ⟨rfl, by unfold Z; rw [Int.pow_zero]; decide, none, by rw [Int.pow_zero]; rfl⟩ (fun i σ H' _ p => by rw [p.1]; exact h6) ?_ ?_
  · rintro i c σ H7 hi ⟨rfl, zi, s8, rfl⟩
    have il := (List.getElem?_eq_some_iff.mp hi).1
    rw [List.length_reverse] at il
    have zc : Z 67 c := zn c (List.mem_reverse.mp (List.mem_of_getElem? hi))
    walk_at "rd"
    refine r_I (mulOk zc zi (by decide) (by omega) (by omega)) ?_
    walk_at "rd"
    refine r_I (mulOk zi zx (by omega) (by decide) (by omega)) ?_
    walk_at "rd"
    refine ⟨rfl, (Int.pow_succ xi i ▸ zi.mul zx).mono (by omega), some (.int c), ?_⟩
    have e1 : (ns.reverse.take (i + 1)).reverse = c :: (ns.reverse.take i).reverse := by
      rw [List.take_add_one, hi]
      simp
    have e2 : GM.ev (ns.reverse.take (i + 1)).reverse xi = GM.ev (ns.reverse.take i).reverse xi + c * xi ^ i := by
      rw [e1, GM.ev, List.length_reverse, List.length_take, List.length_reverse, Nat.min_eq_left (by omega), Int.add_comm]
    rw [e2, Int.pow_succ]
    rfl
  rintro σ H7 ⟨rfl, zi, s8, rfl⟩
  rw [List.take_length, List.reverse_reverse, List.length_reverse]
  have e57 := e5.trans e6
  have hx7 := e57 _ _ hx4
  have hy7 := e57 _ _ hy4
  have A17 := A1.ex e57
  have A27 := A24.ex e57
  have b7 := b4.ex e57
  have g7 := g04.trans (Bg.of e57)
  clear hx4 hy4 A1 A24 b4 g04 e5 e6 e57 h5 h6 hx5 hR zi
  have zx1 : Z 100 xi := zx.mono (by decide)
  have zn2 : ∀ c ∈ ns, Z 200 c := fun c m => (zn c m).mono (by decide)
  have zm2 : ∀ c ∈ ms, Z 200 c := fun c m => (zm c m).mono (by decide)
  have za := mul_z hN hM (by omega)
  have za2 : ∀ c ∈ GM.mulH ns ms, Z 200 c := fun c m => (za c m).mono (by decide)
  walk_at "rd"
  refine r_meth ?_
  walk_at "rd"
  refine r_methP A17 ?_
  walk_at "rd"
  refine r_Worth A17 zx1 zn2 ?_
  walk_at "rd"
  refine ite_f (by simp) ?_
  walk_at "rd"
  refine r_methN ?_
  walk_at "rd"
  refine r_Times A17 A27 (by omega) zn2 zm2 fun a3 H8 _ e8 A3 => ?_
  refine r_methP A3 ?_
  walk_at "rd"
  refine ⟨rfl, ?_⟩
  refine r_Worth A3 zx1 za2 ?_
  walk_at "rd"
  have zw : ∀ {l : List Int}, (∀ c ∈ l, Z 67 c) → l.length ≤ 7 → Z 600 (GM.ev l xi) := fun {l} z h => by
    have := hor_z zx l z
    have e := GM.hor_ev xi l 0
    rw [Int.zero_mul, Int.zero_add] at e
    rw [← e]
    exact this.mono (by omega)
  have hx8 := e8 _ _ hx7
  have hy8 := e8 _ _ hy7
  have A18 := A17.ex e8
  have A28 := A27.ex e8
  have b8 := b7.ex e8
  have g8 := g7.trans (Bg.of e8)
  clear hx7 hy7 A17 A27 b7 g7 e8
  refine r_meth ?_
  walk_at "rd"
  refine r_methP A28 ?_
  walk_at "rd"
  refine r_Worth A28 zx1 zm2 ?_
  refine r_I (mulOk (zw zn (by omega)) (zw zm (by omega)) (by decide) (by decide) (by decide)) ?_
  walk_at "rd"
  refine ite_f (by rw [GM.ev_mulH ok2.ne]; simp) ?_
  walk_at "rd"
  -- shares
  refine r_DrawL b8 (by omega) (by decide) (by decide) fun r1 H9 q0 q1 g9 b9 => ?_
  walk_at "rd"
  refine r_newT (sz_le (by simp)) fun U1 H10 _ e10 h10 => ?_
  walk_at "rd"
  have b10 := b9.ex e10
  have P1 : Shr H10 (.ref U1) := ⟨U1, 0, 1 + r1, rfl, h10, by decide, by omega, .inr (by omega), Z.le100 (by decide) (by decide), Z.le100 (by omega) (by omega)⟩
  refine r_Great b10 (by omega) fun r2 H11 q2 q3 g11 b11 => ?_
  walk_at "rd"
  refine r_newT (sz_le (by simp)) fun U2 H12 _ e12 h12 => ?_
  walk_at "rd"
  have b12 := b11.ex e12
  have P1' := (P1.bg g11 b10).ex e12
  have P2 : Shr H12 (.ref U2) := ⟨U2, 1 + r2, 0, rfl, h12, by omega, by decide, .inl (by omega), Z.le100 (by omega) (by omega), Z.le100 (by decide) (by decide)⟩
  refine r_newT (sz_le (by simp)) fun U3 H13 _ e13 h13 => ?_
  walk_at "rd"
  have b13 := b12.ex e13
  have P1'' := P1'.ex e13
  have P2' := P2.ex e13
  have P3 : Shr H13 (.ref U3) := ⟨U3, 1, 1, rfl, h13, by decide, by decide, .inl (by decide), Z.le100 (by decide) (by decide), Z.le100 (by decide) (by decide)⟩
  refine r_DrawL b13 (by omega) (by decide) (by decide) fun r3 H14 q4 q5 g14 b14 => ?_
  walk_at "rd"
  refine r_Great b14 (by omega) fun r4 H15 q6 q7 g15 b15 => ?_
  walk_at "rd"
  have g1315 := g14.trans g15
  have P1a := P1''.bg g1315 b13
  have P2a := P2'.bg g1315 b13
  have P3a := P3.bg g1315 b13
  refine r_newT (sz_le (by simp)) fun U4 H16 _ e16 h16 => ?_
  walk_at "rd"
  have b16 := b15.ex e16
  have P4 : Shr H16 (.ref U4) := ⟨U4, r3 + 1, r4, rfl, h16, by omega, by omega, .inl (by omega), Z.le100 (by omega) (by omega), Z.le100 (by omega) (by omega)⟩
  refine r_newL (sz_le (by simp)) fun U5 H17 _ e17 h17 => ?_
  walk_at "rd"
  have b17 := b16.ex e17
  have g817 : Bg p H8 H17 := g9.trans ((Bg.of e10).trans (g11.trans ((Bg.of (e12.trans e13)).trans (g1315.trans (Bg.of (e16.trans e17))))))
  have all : ∀ v ∈ [V.ref U1, .ref U2, .ref U3, .ref U4], Shr H17 v := fun v hv => by
    simp only [List.mem_cons, List.mem_nil_iff, or_false] at hv
    rcases hv with rfl | rfl | rfl | rfl
    · exact P1a.ex (e16.trans e17)
    · exact P2a.ex (e16.trans e17)
    · exact P3a.ex (e16.trans e17)
    · exact P4.ex e17
  refine ⟨p, _, U5, _, rfl, rfl, h17, b17.ne h17 (fun _ _ _ z => by cases z), by simp, by simp, (by omega : n + 1 + 5 + 1 + 3 + 1 + 3 ≤ 100000), b17, fun sv H18 hsv g18 b18 => ?_⟩
  have PS := (all sv hsv).bg g18 b17
  have g818 := g817.trans g18
  have hx18 := bg_lst g818 b8 hx8
  have hy18 := bg_lst g818 b8 hy8
  have A1 := A18.bg g818 b8
  have A2 := A28.bg g818 b8
  have g018 := g8.trans g818
  clear hx8 hy8 A18 A28 b8 g8 P1 P1' P1'' P2 P2' P3 P1a P2a P3a P4 all g9 b9 e10 h10 b10 g11 b11 e12 h12 b12 e13 h13 b13 g14 b14 g15 b15 g1315 e16 h16 b16 e17 h17 b17 g817 g18 g818 hsv A3 zw
  obtain ⟨U, si, sj, rfl, hU, si0, sj0, snz, zi, zj⟩ := PS
  walk_at "rd"
  refine r_lenL hx18 ?_
  walk_at "rd"
  refine r_DrawL b18 (by omega) (by decide) (by decide) fun r5 H19 _ _ g19 b19 => ?_
  walk_at "rd"
  refine ⟨p, _, r5, d1, rfl, by rw [List.length_map, ln]; exact congrArg V.int (by omega), rfl, by omega, by omega, b19, fun ts tw H20 hT htw h20 g20 b20 => ?_⟩
  have g1820 := g19.trans g20
  have hx20 := bg_lst g1820 b18 hx18
  have hy20 := bg_lst g1820 b18 hy18
  have A12 := A1.bg g1820 b18
  have A22 := A2.bg g1820 b18
  have hU20 := g1820.at_ (b18.ne hU fun _ _ _ z => by cases z) hU
  have g020 := g018.trans g1820
  have zt := hT.z
  have okT := hT.ok (by omega)
  have lt := hT.1
  have el : ns.length = ts.length := by omega
  clear hx18 hy18 A1 A2 hU g018 g1820 g19 b19 g20 b18 htw
  walk_at "rd"
  refine ⟨x, tw, _, _, rfl, .inl ⟨SqL.of hx20, SqL.of h20, ?_⟩⟩
  refine r_lcZ (n := ns.length) (walk_zip (xs := ns.map V.int) (ys := ts.map V.int) (by simp; omega)) (mixL si sj ns ts) (mixL_len el) (by omega) (fun H' e => ⟨e.sql (SqL.of hx20), e.sql (SqL.of h20)⟩) ?_ ?_
  · rintro k' z H21 H22 hk e21 ⟨T', x1, x2, rfl, hT', rfl, g1, g2⟩ N hN'
    obtain ⟨n1, hn1, rfl⟩ := int_at g1
    obtain ⟨n2, hn2, rfl⟩ := int_at g2
    refine r_gTup upd_same rfl (r_gCons (r_gName (r_gCons (r_gName (r_gNil ⟨rfl, ?_⟩)))))
    have hU21 := (e21.trans (Ex.new (o := .tup [V.int n1, .int n2]) hT')) _ _ hU20
    walk_at "rd"
    refine r_ixT hU21 (v := .int si) rfl ?_
    walk_at "rd"
    refine r_I (mulOk zi (zn n1 (List.mem_of_getElem? hn1)) (by decide) (by decide) (by decide)) ?_
    walk_at "rd"
    refine r_ixT hU21 (v := .int sj) rfl ?_
    walk_at "rd"
    refine r_I (mulOk zj (zt n2 (List.mem_of_getElem? hn2)) (by decide) (by decide) (by decide)) ?_
    walk_at "rd"
    rw [← mixL_get hn1 hn2]
    exact hN' _ (Ex.new hT')
  intro D H21 hD e21 h21
  have hx21 := e21 _ _ hx20
  have hy21 := e21 _ _ hy20
  have A13 := A12.ex e21
  have A23 := A22.ex e21
  have hU21 := e21 _ _ hU20
  have ht21 := e21 _ _ h20
  have b21 := b20.ex e21
  have g021 := g020.trans (Bg.of e21)
  clear hx20 hy20 A12 A22 hU20 h20 b20 g020 e21 hD
  have sj1 : (if si = 0 then 1 else 0) ≤ sj := by split <;> omega
  have si1 : (if sj = 0 then 1 else 0) ≤ si := by split <;> omega
  have okM := ok1.mix okT el si0 sj1
  have zt2 : ∀ c ∈ ts, Z 200 c := fun c m => (zt c m).mono (by decide)
  have zi2 : Z 200 si := zi.mono (by decide)
  have zj2 : Z 200 sj := zj.mono (by decide)
  have zM : ∀ c ∈ mixL si sj ns ts, Z 200 c := fun c hc => by
    obtain ⟨u, hu, v, hv, rfl⟩ := GM.mem_zadd hc
    obtain ⟨c1, m1, rfl⟩ := List.mem_map.mp hu
    obtain ⟨c2, m2, rfl⟩ := List.mem_map.mp hv
    exact ((zi.mul (zn c1 m1)).add (zj.mul (zt c2 m2))).mono (by decide)
  walk_at "rd"
  refine r_PolyL ht21 okT fun a4 H22 _ e22 A4 => ?_
  walk_at "rd"
  refine r_ixT (e22 _ _ hU21) (v := .int si) rfl ?_
  walk_at "rd"
  refine r_ixT (e22 _ _ hU21) (v := .int sj) rfl ?_
  walk_at "rd"
  refine r_Mixed (A13.ex e22) A4 el si0 sj1 zi2 zj2 zn2 zt2 fun a5 H23 _ e23 A5 => ?_
  walk_at "rd"
  refine r_Is A5 ((e22.trans e23) _ _ h21) fun H24 e24 => ?_
  walk_at "rd"
  refine ite_f rfl ?_
  have e2124 := (e22.trans e23).trans e24
  walk_at "rd"
  refine r_ixT (e2124 _ _ hU21) (v := .int si) rfl ?_
  walk_at "rd"
  refine r_ixT (e2124 _ _ hU21) (v := .int sj) rfl ?_
  walk_at "rd"
  refine r_PolyL (e2124 _ _ ht21) okT fun a6 H25 _ e25 A6 => ?_
  refine r_clKN rfl rfl (r_Mixed A6 ((A13.ex e2124).ex e25) el.symm sj0 si1 zj2 zi2 zt2 zn2 fun a7 H26 _ e26 A7 => ?_)
  rw [mixL_comm si sj el] at A7
  walk_at "rd"
  refine r_Is A7 ((e2124.trans (e25.trans e26)) _ _ h21) fun H27 e27 => ?_
  have e2127 := e2124.trans ((e25.trans e26).trans e27)
  have hx27 := e2127 _ _ hx21
  have hy27 := e2127 _ _ hy21
  have h27 := e2127 _ _ h21
  have A1 := A13.ex e2127
  have A2 := A23.ex e2127
  have b27 := b21.ex e2127
  have g027 := g021.trans (Bg.of e2127)
  clear hx21 hy21 h21 A13 A23 b21 g021 hU21 ht21 A4 A5 A6 A7 e22 e23 e24 e25 e26 e27 e2124 e2127
  walk_at "rd"
  refine ite_f rfl ?_
  walk_at "rd"
  refine r_Measure h27 ?_
  walk_at "rd"
  refine r_PolyL h27 okM fun a8 H28 _ e28 A8 => ?_
  walk_at "rd"
  refine r_Less A8 zM fun a9 H29 _ e29 A9 => ?_
  walk_at "rd"
  have h29 := (e28.trans e29) _ _ h27
  refine ⟨D, rfl, ⟨_, SqL.of h29⟩, ?_⟩
  have quoL : ∀ {l : List Int} {D : Addr} {H' H'' : Hp} {Q' : VK} {te : TE} {σ : L2.St}, okN l → (∀ c ∈ l, Z 200 c) → H' D = some (.lst (l.map V.int)) → (∀ x, wipe ((wipe σ [8]).set 8 (some x)) [8] = wipe σ [8]) → (∀ c H3, Ex H' H3 → ∀ R : VK, R (.int (c / gcdL l)) H3 → te ((wipe σ [8]).set 8 (some (.int c))) H3 R) →
      (∀ E H3, H' E = none → Ex H' H3 → H3 E = some (.lst ((lessL l).map V.int)) → Q' (.ref E) H3) → lcB (Itl K D) (gName 8) tYes te [8] σ Q' H' := by
    intro l D H' H'' Q' te σ ok z hD hw hte q'
    have l64 := ok.2.1
    refine r_lcZ (walk_list (xs := l.map V.int)) (lessL l) (by simp [lessL]) (by simp; omega) (fun H3 e => e.sql (SqL.of hD)) ?_ q'
    rintro i x H2 H3 hi e2 ⟨rfl, g1⟩ N hN
    obtain ⟨n1, hn1, rfl⟩ := int_at g1
    refine r_gName ⟨hw _, ?_⟩
    refine hte n1 _ e2 N ?_
    have e : (lessL l).getD i 0 = n1 / gcdL l := by rw [List.getD_eq_getElem?_getD, lessL, List.getElem?_map, hn1]; rfl
    rw [← e]
    exact hN _ (Ex.refl _)
  have cdv : ∀ {l : List Int} {c : Int}, okN l → (∀ c ∈ l, Z 200 c) → CDivW c (gcdL l) := fun {l c} ok z => ⟨ok.gcd, Nat.lt_trans (lg_lt (gcdL_z ok z) (by decide)) (by decide)⟩
  refine quoL (H'' := H29) okM zM h29 (fun _ => rfl) (fun c H3 e3 R hR => ?_) fun E H30 hE e30 h30 => ?_
  · walk_at "rd"
    exact r_I (cdv okM zM) hR
  walk_at "rd"
  refine r_Is (A9.ex e30) h30 fun H31 e31 => ?_
  have e2731 := ((e28.trans e29).trans e30).trans e31
  walk_at "rd"
  refine ite_f rfl ?_
  walk_at "rd"
  refine r_newL (sz_le (by simp)) fun S6 H32 _ e32 h32 => ?_
  walk_at "rd"
  refine r_PolyL (ns := [6]) h32 ⟨by decide, by decide, by decide⟩ fun a10 H33 _ e33 A10 => ?_
  walk_at "rd"
  have A133 := A1.ex (e2731.trans (e32.trans e33))
  have zs6 : ∀ c ∈ [(6 : Int)], Z 200 c := fun c m => by rw [List.mem_singleton.mp m]; unfold Z; decide
  refine r_Times A10 A133 (by rw [ln]; simp; omega) zs6 zn2 fun a11 H34 _ e34 A11 => ?_
  have z66 : ∀ c ∈ GM.mulH [6] ns, Z 200 c := fun c hc => by
    rw [mul_six ok1.ne] at hc
    obtain ⟨c1, m1, rfl⟩ := List.mem_map.mp hc
    exact ((show Z 4 (6 : Int) by unfold Z; decide).mul (zn c1 m1)).mono (by decide)
  walk_at "rd"
  refine r_clKN rfl rfl (r_Less A11 z66 fun a12 H35 _ e35 A12 => ?_)
  rw [less_six ok1] at A12
  have e2735 := e2731.trans ((e32.trans e33).trans (e34.trans e35))
  have hx35 := e2735 _ _ hx27
  walk_at "rd"
  refine ⟨x, rfl, ⟨_, SqL.of hx35⟩, ?_⟩
  refine quoL (H'' := H35) ok1 zn2 hx35 (fun _ => rfl) (fun c H3 e3 R hR => ?_) fun E2 H36 hE2 e36 h36 => ?_
  · walk_at "rd"
    refine r_Measure (e3 _ _ hx35) ?_
    exact r_I (cdv ok1 zn2) hR
  walk_at "rd"
  refine r_Is (A12.ex e36) h36 fun H37 e37 => ?_
  have e2737 := e2735.trans (e36.trans e37)
  have hx37 := e2737 _ _ hx27
  have hy37 := e2737 _ _ hy27
  have A13 := A1.ex e2737
  have A23 := A2.ex e2737
  have b37 := b27.ex e2737
  have g037 := g027.trans (Bg.of e2737)
  clear hx27 hy27 h27 A1 A2 b27 g027 A8 A9 A10 A11 A12 e28 e29 e30 e31 e32 e33 e34 e35 e36 e37 e2731 e2735 e2737 hx35 h36 h30 h29 h32 A133
  walk_at "rd"
  refine ite_f rfl ?_
  walk_at "rd"
  refine r_sl ?_
  walk_at "rd"
  refine ⟨x, _, rfl, SqL.of hx37, ?_⟩
  have l7 : ns.length ≤ 7 := by omega
  refine r_lcZ (n := ns.length) (walk_enumL' (K := K) (a := x) (xs := ns.map V.int) (by simp)) (fullD ns) (fullD_len ns) (by omega) (fun H3 e => e.sql (SqL.of hx37)) ?_ ?_
  · rintro k' z H38 H39 hk e38 ⟨T', x1, x2, rfl, hT', rfl, g1, g2⟩ N hN'
    cases g1
    obtain ⟨n2, hn2, rfl⟩ := int_at g2
    refine r_gTup upd_same rfl (r_gCons (r_gName (r_gCons (r_gName (r_gNil ⟨rfl, ?_⟩)))))
    have eT := Ex.new (o := .tup [V.int (k' : Nat), .int n2]) hT'
    walk_at "rd"
    refine ⟨x, _, rfl, .inl (SqL.of (eT _ _ (e38 _ _ hx37))), ?_⟩
    walk_at "rd"
    refine r_I (mulOk (zn n2 (List.mem_of_getElem? hn2)) (show Z 10 _ from by unfold Z; rw [List.length_map]; omega) (by decide) (by decide) (by decide)) ?_
    have e : (fullD ns).getD k' 0 = n2 * (((ns.map V.int).length : Int) - 1 - (k' : Nat)) := by
      rw [List.getD_eq_getElem?_getD, fullD, List.getElem?_map, List.getElem?_range hk, List.length_map]
      show ns.getD k' 0 * _ = _
      rw [List.getD_eq_getElem?_getD, hn2]
      rfl
    rw [← e]
    exact hN' _ eT
  intro F H38 hF e38 h38
  refine r_noPart (r_part ?_)
  walk_at "rd"
  refine ⟨_, rfl, F, _, rfl, SqL.of h38, fun G hG => ?_⟩
  rw [cut_last, fullD_cut]
  have h39 : upd H38 G (.lst ((GM.der ns).map V.int)) G = some (.lst ((GM.der ns).map V.int)) := upd_same
  have e39 : Ex H38 (upd H38 G (.lst ((GM.der ns).map V.int))) := Ex.new hG
  generalize upd H38 G (.lst ((GM.der ns).map V.int)) = H39 at h39 e39 ⊢
  have e3739 := e38.trans e39
  have fin : ∀ H', Ex H37 H' → Q (.bl true) H' := fun H' e => k H' (g037.trans (Bg.of e)) ((b37.ex e).le (by omega))
  walk_at "rd"
  refine r_newL (Nat.zero_le _) fun E3 H40 _ e40 h40 => ?_
  refine r_neInts (ys := []) (e40 _ _ h39) h40 ?_
  walk_at "rd"
  have e3740 := e3739.trans e40
  by_cases c : ns.length = 1
  · have ed : GM.der ns = [] := List.length_eq_zero_iff.mp (by rw [GM.der_len, c])
    rw [ed] at h39 ⊢
    refine ite_f rfl ?_
    refine ite_f rfl ?_
    walk_at "rd"
    refine r_newL (Nat.zero_le _) fun E4 H41 _ e41 h41 => ?_
    refine r_eqIntsL (xs := []) (ys := []) ((e40.trans e41) _ _ h39) h41 ?_
    walk_at "rd"
    refine ite_t rfl ?_
    walk_at "rd"
    exact ite_t rfl (fin _ (e3740.trans e41))
  have n2 : 2 ≤ ns.length := by have := ok1.1; omega
  have ned : GM.der ns ≠ [] := fun z => by have := GM.der_len ns; rw [z] at this; simp at this; omega
  have zd : ∀ {l : List Int}, l.length ≤ 7 → (∀ c ∈ l, Z 67 c) → ∀ c ∈ GM.der l, Z 80 c := fun {l} hl z c hc => by
    obtain ⟨q, hq, e⟩ := List.getElem_of_mem hc
    rw [GM.der_len] at hq
    have g := der_get (ns := l) (k := q) (a := l[q]) (by simp) (by omega)
    have g2 : (GM.der l).getD q 0 = c := by rw [List.getD_eq_getElem?_getD, List.getElem?_eq_getElem (by rw [GM.der_len]; omega), e]; rfl
    rw [← g2, g]
    exact ((z _ (List.getElem_mem (by omega))).mul (show Z 10 _ from by unfold Z; omega)).mono (by decide)
  refine ite_t (by simp [ned]) ?_
  walk_at "rd"
  refine r_Derived (A13.ex e3740) n2 zn2 fun a13 H41 _ e41 A13' => ?_
  walk_at "rd"
  refine r_Is A13' ((e40.trans e41) _ _ h39) fun H42 e42 => ?_
  walk_at "rd"
  refine ite_f rfl ?_
  have e3742 := e3740.trans (e41.trans e42)
  walk_at "rd"
  refine r_newL (Nat.zero_le _) fun E4 H43 _ e43 h43 => ?_
  refine r_eqIntsL (ys := []) ((e40.trans (e41.trans (e42.trans e43))) _ _ h39) h43 ?_
  have e3743 := e3742.trans e43
  walk_at "rd"
  refine ite_f (decide_eq_false ned) ?_
  walk_at "rd"
  refine r_lenL (e3743 _ _ hy37) ?_
  walk_at "rd"
  rw [List.length_map]
  by_cases c2 : ms.length = 1
  · refine ite_t (decide_eq_true (by omega)) ?_
    walk_at "rd"
    exact fin _ e3743
  refine ite_f (decide_eq_false (by omega)) ?_
  have m2 : 2 ≤ ms.length := by have := ok2.1; omega
  walk_at "rd"
  have A14 := A13.ex e3743
  have A24 := A23.ex e3743
  refine r_Derived A14 n2 zn2 fun c1 H44 _ e44 C1 => ?_
  walk_at "rd"
  have zd1 := zd l7 zn
  have zd2 := zd (show ms.length ≤ 7 by omega) zm
  have dl1 := GM.der_len ns
  have dl2 := GM.der_len ms
  refine r_Times C1 (A24.ex e44) (by omega) (fun c m => (zd1 c m).mono (by decide)) zm2 fun c2' H45 _ e45 C2 => ?_
  walk_at "rd"
  have e4345 := e44.trans e45
  refine r_clKN rfl rfl (r_Derived (A24.ex e4345) m2 zm2 fun c3 H46 _ e46 C3 => ?_)
  walk_at "rd"
  refine r_Times (A14.ex (e4345.trans e46)) C3 (by omega) zn2 (fun c m => (zd2 c m).mono (by decide)) fun c4 H47 _ e47 C4 => ?_
  walk_at "rd"
  refine r_newL (sz_le (by simp)) fun c5 H48 _ e48 h48 => ?_
  have C2' := C2.ex ((e46.trans e47).trans e48)
  have C4' := C4.ex e48
  have e4348 := e4345.trans ((e46.trans e47).trans e48)
  walk_at "rd"
  refine r_ixL h48 (v := .ref c2') rfl ?_
  walk_at "rd"
  refine r_ixL h48 (v := .ref c4) rfl ?_
  walk_at "rd"
  have ne2 := ok2.ne
  have ned2 : GM.der ms ≠ [] := fun z => by rw [z] at dl2; simp at dl2; omega
  have zmul : ∀ {l1 l2 : List Int}, l1.length ≤ 7 → (∀ c ∈ l1, Z 80 c) → (∀ c ∈ l2, Z 80 c) → ∀ c ∈ GM.mulH l1 l2, Z 200 c := fun {l1 l2} hl z1 z2 c hc => by
    have := GM.mulH_le (A := 2 ^ 80) (B := 2 ^ 80) (fun b hb => Nat.le_of_lt (z2 b hb)) l1 (fun a ha => Nat.le_of_lt (z1 a ha)) c hc
    have b : l1.length * (2 ^ 80 * 2 ^ 80) ≤ 7 * (2 ^ 80 * 2 ^ 80) := Nat.mul_le_mul_right _ hl
    have : 7 * (2 ^ 80 * 2 ^ 80) < (2 : Nat) ^ 200 := by decide
    unfold Z
    omega
  have el2 : (GM.mulH (GM.der ns) ms).length = (GM.mulH ns (GM.der ms)).length := by rw [GM.mulH_len ne2, GM.mulH_len ned2]; omega
  refine r_Mixed C2' C4' el2 (by decide) (by decide) (show Z 200 1 by unfold Z; decide) (show Z 200 1 by unfold Z; decide) (zmul (by omega) zd1 (fun c m => (zm c m).mono (by decide))) (zmul (by omega) (fun c m => (zn c m).mono (by decide)) zd2) fun c6 H49 _ e49 C6 => ?_
  rw [mixL_one, GM.der_mulH n2 m2] at C6
  walk_at "rd"
  have e4349 := e4348.trans e49
  refine r_Times (A14.ex e4349) (A24.ex e4349) (by omega) zn2 zm2 fun c7 H50 _ e50 C7 => ?_
  walk_at "rd"
  have ml := GM.mulH_len ne2 ns
  refine r_Derived C7 (by omega) za2 fun c8 H51 _ e51 C8 => ?_
  refine r_PEq T (C6.ex (e50.trans e51)) C8 ?_
  rw [decide_eq_true rfl]
  exact fin _ (e3743.trans (e4349.trans (e50.trans e51)))

end K04
namespace K04
open PySem PySem.Spec PyProof.Rows L2 GS TL
local macro_rules | `(tactic| walk_at "rd") => `(tactic| (repeat (first
  | with_reducible refine r_next ?_
  | with_reducible refine r_seq ?_
  | with_reducible refine r_ret ?_
  | with_reducible refine r_ifS ?_
  | with_reducible refine r_asg ?_
  | with_reducible refine r_drop ?_
  | with_reducible refine r_op ?_
  | with_reducible refine r_un ?_
  | with_reducible refine r_cbInt ?_
  | with_reducible refine r_cbAbs ?_
  | with_reducible refine r_cbLen ?_
  | with_reducible refine r_cbList ?_
  | with_reducible refine r_cbTup ?_
  | with_reducible refine r_iEnT ?_
  | with_reducible refine r_iEnL ?_
  | with_reducible refine r_zipA ?_
  | with_reducible refine r_augS ?_
  | with_reducible refine r_cb ?_
  | with_reducible refine r_call ?_
  | with_reducible refine r_make ?_
  | with_reducible refine r_callN0 ?_
  | with_reducible refine r_makeK0 ?_
  | with_reducible refine r_makeS ?_
  | with_reducible refine r_callS ?_
  | with_reducible refine r_cons ?_
  | with_reducible refine r_nil ?_
  | with_reducible refine r_test ?_
  | with_reducible refine r_B ?_
  | with_reducible refine r_and ?_
  | with_reducible refine r_or ?_
  | with_reducible refine r_not ?_
  | with_reducible refine r_andV ?_
  | with_reducible refine r_orV ?_
  | with_reducible refine r_notV ?_
  | with_reducible refine r_if ?_
  | with_reducible refine r_tup ?_
  | with_reducible refine r_lst ?_
  | with_reducible refine r_c ?_
  | with_reducible refine r_lc ?_
  | with_reducible refine r_chain ?_
  | with_reducible refine r_iT ?_
  | with_reducible refine r_iL ?_
  | with_reducible refine r_iR1 ?_
  | with_reducible refine r_iR2 ?_
  | with_reducible refine r_iR3 ?_
  | with_reducible refine r_asgG ?_
  | with_reducible refine r_gSub ?_
  | with_reducible refine r_for ?_
  | with_reducible refine r_smeth ?_
  | with_reducible refine r_par ?_
  | with_reducible refine r_parK ?_
  | with_reducible refine r_gCons ?_
  | with_reducible refine r_gNil ?_
  | with_reducible refine r_gName ?_
  | with_reducible refine r_intI ?_
  | with_reducible refine r_intB ?_
  | with_reducible refine r_absI ?_
  | with_reducible refine r_k ?_
  | with_reducible refine r_kV ?_
  | ((with_reducible show tVar _ _ _ _); refine r_var3 ?_ (by rfl))
  | with_reducible refine r_I0 ?_
  | with_reducible refine r_U ?_
  | with_reducible refine r_eqI ?_
  | with_reducible refine r_neI ?_
  | dsimp only)))
local macro_rules | `(tactic| walk_at "rx") => `(tactic| (repeat (first
  | with_reducible refine r_next ?_
  | with_reducible refine r_ret ?_
  | with_reducible refine r_ifS ?_
  | with_reducible refine r_asg ?_
  | with_reducible refine r_drop ?_
  | with_reducible refine r_op ?_
  | with_reducible refine r_un ?_
  | with_reducible refine r_cbInt ?_
  | with_reducible refine r_cbAbs ?_
  | with_reducible refine r_cbLen ?_
  | with_reducible refine r_cbList ?_
  | with_reducible refine r_cbTup ?_
  | with_reducible refine r_iEnT ?_
  | with_reducible refine r_iEnL ?_
  | with_reducible refine r_zipA ?_
  | with_reducible refine r_augS ?_
  | with_reducible refine r_cb ?_
  | with_reducible refine r_call ?_
  | with_reducible refine r_make ?_
  | with_reducible refine r_callN0 ?_
  | with_reducible refine r_makeK0 ?_
  | with_reducible refine r_makeS ?_
  | with_reducible refine r_callS ?_
  | with_reducible refine r_cons ?_
  | with_reducible refine r_nil ?_
  | with_reducible refine r_test ?_
  | with_reducible refine r_B ?_
  | with_reducible refine r_and ?_
  | with_reducible refine r_or ?_
  | with_reducible refine r_not ?_
  | with_reducible refine r_andV ?_
  | with_reducible refine r_orV ?_
  | with_reducible refine r_notV ?_
  | with_reducible refine r_if ?_
  | with_reducible refine r_tup ?_
  | with_reducible refine r_lst ?_
  | with_reducible refine r_c ?_
  | with_reducible refine r_lc ?_
  | with_reducible refine r_chain ?_
  | with_reducible refine r_iT ?_
  | with_reducible refine r_iL ?_
  | with_reducible refine r_iR1 ?_
  | with_reducible refine r_iR2 ?_
  | with_reducible refine r_iR3 ?_
  | with_reducible refine r_asgG ?_
  | with_reducible refine r_gSub ?_
  | with_reducible refine r_for ?_
  | with_reducible refine r_smeth ?_
  | with_reducible refine r_par ?_
  | with_reducible refine r_parK ?_
  | with_reducible refine r_gCons ?_
  | with_reducible refine r_gNil ?_
  | with_reducible refine r_gName ?_
  | with_reducible refine r_intI ?_
  | with_reducible refine r_intB ?_
  | with_reducible refine r_absI ?_
  | with_reducible refine r_k ?_
  | with_reducible refine r_kV ?_
  | ((with_reducible show tVar _ _ _ _); refine r_var3 ?_ (by rfl))
  | with_reducible refine r_I0 ?_
  | with_reducible refine r_U ?_
  | with_reducible refine r_eqI ?_
  | with_reducible refine r_neI ?_
  | dsimp only)))
/-! ### lists of tuples of integers -/
def tupI (l : List Int) : PyData := .tuple (l.map PyData.int)
theorem can_tups : ∀ ts : List (List Int), PyData.canLayAll0 (ts.map tupI) = true
  | [] => rfl
  | t :: ts => by
    show (PyData.canLayAll0 (t.map PyData.int) && PyData.canLayAll0 (ts.map tupI)) = true
    rw [can_ints, can_tups ts]
    rfl
theorem depth_tups : ∀ ts : List (List Int), PyData.depthAll (ts.map tupI) ≤ 1
  | [] => by decide
  | t :: ts => by
    show max (PyData.depthAll (t.map PyData.int) + 1) (PyData.depthAll (ts.map tupI)) ≤ 1
    have := depth_tups ts
    rw [depth_ints]
    omega
theorem shaped_tups (ts : List (List Int)) : SeqAt.shaped (.list (ts.map tupI)) = true := by
  show (PyData.canLayAll0 (ts.map tupI) && decide (PyData.depthAll (ts.map tupI) + 1 ≤ 64)) = true
  rw [can_tups, decide_eq_true (by have := depth_tups ts; omega)]
  rfl
theorem eqv_tups : ∀ ts : List (List Int), PyData.eqvAll (ts.map tupI) (ts.map tupI) = true
  | [] => rfl
  | t :: ts => by
    show (PyData.eqvAll (t.map PyData.int) (t.map PyData.int) && PyData.eqvAll (ts.map tupI) (ts.map tupI)) = true
    rw [eqv_ints, eqv_tups ts, decide_eq_true rfl]
    rfl
theorem dp_tups {K : PySem.W.Frag} {H : Hp} : ∀ {ys : List V} {ts : List (List Int)}, ys.length = ts.length → (∀ (i : Nat) (y : V) (t : List Int), ys[i]? = some y → ts[i]? = some t → ∃ a, y = .ref a ∧ H a = some (.tup (t.map V.int))) → DpAll K H ys (ts.map tupI)
  | [], [], _, _ => .nil
  | y :: ys, t :: ts, l, h => by
    obtain ⟨a, rfl, ha⟩ := h 0 y t rfl rfl
    exact .cons (.tup (SqT.of ha) (dp_ints t)) (dp_tups (Nat.succ.inj l) fun i y' t' h1 h2 => h (i + 1) y' t' h1 h2)
theorem r_eqTups {K : PySem.W.Frag} {H : Hp} {Q : VK} {p q : Addr} {ys zs : List V} (ts : List (List Int)) (h1 : H p = some (.lst ys)) (h2 : H q = some (.lst zs)) (l1 : ys.length = ts.length) (l2 : zs.length = ts.length)
    (a : ∀ (i : Nat) (y : V) (t : List Int), ys[i]? = some y → ts[i]? = some t → ∃ a, y = .ref a ∧ H a = some (.tup (t.map V.int))) (b : ∀ (i : Nat) (y : V) (t : List Int), zs[i]? = some y → ts[i]? = some t → ∃ a, y = .ref a ∧ H a = some (.tup (t.map V.int))) (k : Q (.bl true) H) : rEqD K (.ref p) (.ref q) H Q := by
  refine ⟨_, _, .lst (SqL.of h1) (dp_tups l1 a), .lst (SqL.of h2) (dp_tups l2 b), shaped_tups ts, shaped_tups ts, ?_⟩
  show Q (.bl (PyData.eqvAll (ts.map tupI) (ts.map tupI))) H
  rw [eqv_tups]
  exact k
/-! ### rows of two integers -/
theorem upd_upd {H : Hp} {a : Addr} {o u : HO} : upd (upd H a o) a u = upd H a u := by
  funext b
  by_cases c : b = a
  · rw [c, upd_same, upd_same]
  · rw [upd_ne c, upd_ne c, upd_ne c]
def Rows (Hb H : Hp) (D : Addr) (L : Nat) (F : Nat → GM.P2) : Prop := Ex Hb H ∧ Hb D = none ∧ ∃ ys : List V, H D = some (.lst ys) ∧ ys.length = L ∧ (∀ k, k < L → ∃ r, ys[k]? = some (.ref r) ∧ r ≠ D ∧ Hb r = none ∧ H r = some (.lst [.int (F k).1, .int (F k).2])) ∧ ∀ (j k : Nat) (r : Addr), ys[j]? = some (.ref r) → ys[k]? = some (.ref r) → j = k
theorem Rows.ex {Hb H H' : Hp} {D : Addr} {L : Nat} {F : Nat → GM.P2} (h : Rows Hb H D L F) (e : Ex H H') : Rows Hb H' D L F := by
  obtain ⟨e0, hD, ys, h1, h2, h3, h4⟩ := h
  exact ⟨e0.trans e, hD, ys, e _ _ h1, h2, fun k hk => let ⟨r, a, b, c, d⟩ := h3 k hk; ⟨r, a, b, c, e _ _ d⟩, h4⟩
theorem Rows.congr {Hb H : Hp} {D : Addr} {L : Nat} {F G : Nat → GM.P2} (h : Rows Hb H D L F) (e : ∀ k, k < L → F k = G k) : Rows Hb H D L G := by
  obtain ⟨e0, hD, ys, h1, h2, h3, h4⟩ := h
  exact ⟨e0, hD, ys, h1, h2, fun k hk => let ⟨r, a, b, c, d⟩ := h3 k hk; ⟨r, a, b, c, by rw [← e k hk]; exact d⟩, h4⟩
/-- a row taken out -/
theorem Rows.row {Hb H : Hp} {D : Addr} {L : Nat} {F : Nat → GM.P2} (h : Rows Hb H D L F) {k : Nat} (hk : k < L) : ∃ ys r, H D = some (.lst ys) ∧ ys.length = L ∧ ys[k]? = some (.ref r) ∧ H r = some (.lst [.int (F k).1, .int (F k).2]) ∧
    ∀ a b : Int, Rows Hb (upd H r (.lst [.int a, .int b])) D L (fun j => if j = k then (a, b) else F j) := by
  obtain ⟨e0, hD, ys, h1, h2, h3, h4⟩ := h
  obtain ⟨r, a1, a2, a3, a4⟩ := h3 k hk
  refine ⟨ys, r, h1, h2, a1, a4, fun a b => ⟨e0.mut a3, hD, ys, ?_, h2, fun j hj => ?_, h4⟩⟩
  · rw [upd_ne (Ne.symm a2)]; exact h1
  · by_cases c : j = k
    · subst c
      exact ⟨r, a1, a2, a3, by rw [upd_same]; simp⟩
    · obtain ⟨r', b1, b2, b3, b4⟩ := h3 j hj
      refine ⟨r', b1, b2, b3, ?_⟩
      rw [upd_ne (fun z => by subst z; exact c (h4 j k r' b1 a1))]
      simp only [if_neg c]
      exact b4
def spShR (K : PySem.W.Frag) : Sp := sp3 fun b v w H Q _ => ∃ (p : Addr) (n : Int) (x y : Addr) (ns ms : List Int) (d1 d2 : Nat), b = .ref p ∧ v = .ref x ∧ w = .ref y ∧ n ≤ 60000 ∧ Bag H p n ∧ H x = some (.lst (ns.map V.int)) ∧ H y = some (.lst (ms.map V.int)) ∧ dN ns d1 ∧ dN ms d2 ∧ d1 ≤ 6 ∧ d2 ≤ 6 ∧ ∀ H', Bg p H H' → Bag H' p (n + 20) → Q (.bl true) H'
theorem ok__law_shifts_right {P : Program} {w : World} {K : PySem.W.Frag} {mg : Str → Option Value} {base : Heap} (T : Txt K mg) : ∃ fd, FnOk P w K mg base (L2.CX P w) 7 (He.ga K "_law_shifts_right") fd ["bag", "one", "other"] (spShR K) ∧ Binds K fd ["bag", "one", "other"] [] := by
  obtain ⟨fd, F⟩ := T.d__law_shifts_right
  obtain ⟨fd_shifted, F_shifted, B_shifted, kb_shifted_0⟩ := ok_shifted (P := P) (w := w) (base := base) T
  obtain ⟨fd_times, F_times, B_times, kb_times_0⟩ := ok_times (P := P) (w := w) (base := base) T
  obtain ⟨fd_Poly_init, F_Poly_init, B_Poly_init, kb_Poly_init_0⟩ := ok_Poly_init (P := P) (w := w) (base := base) T
  obtain ⟨fd_Bound_init, F_Bound_init, B_Bound_init⟩ := ok_Bound_init (P := P) (w := w) (base := base) T
  obtain ⟨fd__law_number, F__law_number, B__law_number⟩ := ok__law_number (P := P) (w := w) (base := base) T
  obtain ⟨fd__law_draw, F__law_draw, B__law_draw⟩ := ok__law_draw (P := P) (w := w) (base := base) T
  obtain ⟨fd__law_pick, F__law_pick, B__law_pick⟩ := ok__law_pick (P := P) (w := w) (base := base) T
  obtain ⟨fd__law_great, F__law_great, B__law_great⟩ := ok__law_great (P := P) (w := w) (base := base) T
  refine ⟨fd, F.ok sc__law_shifts_right sp3_len (fun cdv A outer s H vs Q E hr h => ?_), F.bindsN fun _ _ _ _ _ _ us hl => match us, hl with | [_, _, _], _ => rfl⟩
  have hr_shifted : Room 6 _ := hr.mono (by decide)
  have hr_times : Room 5 _ := hr.mono (by decide)
  have hr_Poly_init : Room 4 _ := hr.mono (by decide)
  have hr_Bound_init : Room 5 _ := hr.mono (by decide)
  have hr__law_number : Room 3 _ := hr.mono (by decide)
  have hr__law_draw : Room 1 _ := hr.mono (by decide)
  have hr__law_pick : Room 2 _ := hr.mono (by decide)
  have hr__law_great : Room 2 _ := hr.mono (by decide)
  obtain ⟨b0, v0, w0, rfl, p, n, x, y, ns, ms, d1, d2, rfl, rfl, rfl, hn, hb, hx, hy, hN, hM, l1, l2, k⟩ := sp3_is h
  refine ⟨_, (pss_cons (ps_set (i := 3) sc__law_shifts_right.nd rfl (Or.inr rfl) (pe_call F__law_pick hr__law_pick (by rfl) T.g__law_pick T.k__law_pick B__law_pick .nil passL (pa_cons (pv 0) (pa_cons (pe_lst (pa_cons pe_int (pa_cons pe_int (pa_cons pe_int (pa_cons (pe_call F__law_great hr__law_great (by rfl) T.g__law_great T.k__law_great B__law_great .nil passL (pa_cons (pv 0) pa_nil)) pa_nil))))) pa_nil))))
      (pss_cons (ps_set (i := 4) sc__law_shifts_right.nd rfl (Or.inl rfl) (pe_make T.mk_Bound F_Bound_init hr_Bound_init (by rfl) T.g_Bound B_Bound_init .nil passL (pa_cons (pe_call F__law_number hr__law_number (by rfl) T.g__law_number T.k__law_number B__law_number .nil passL (pa_cons (pv 0) (pa_cons (pe_op op_mulW pe_int (pe_call F__law_draw hr__law_draw (by rfl) T.g__law_draw T.k__law_draw B__law_draw .nil passL (pa_cons (pv 0) (pa_cons pe_int pa_nil)))) pa_nil))) (pa_cons (pe_call F__law_number hr__law_number (by rfl) T.g__law_number T.k__law_number B__law_number .nil passL (pa_cons (pv 0) (pa_cons (pe_call F__law_draw hr__law_draw (by rfl) T.g__law_draw T.k__law_draw B__law_draw .nil passL (pa_cons (pv 0) (pa_cons pe_int pa_nil))) pa_nil))) (pa_cons (pv 3) pa_nil)))))
      (pss_cons (ps_par (i := 5) (j := 6) (by rfl) sc__law_shifts_right.nd rfl rfl (by decide) rfl rfl (pa_cons (pe_call F_shifted hr_shifted (by rfl) T.g_shifted T.k_shifted B_shifted .nil passL (pa_cons (pe_make T.mk_Poly F_Poly_init hr_Poly_init (by rfl) T.g_Poly B_Poly_init .nil passL (pa_cons (pv 1) pa_nil)) (pa_cons (pv 4) pa_nil))) (pa_cons (pe_callK0 F_shifted hr_shifted (by rfl) T.g_shifted T.k_shifted kb_shifted_0 passL (pk_cons (pv 4) (pk_cons (pe_make T.mk_Poly F_Poly_init hr_Poly_init (by rfl) T.g_Poly B_Poly_init .nil passL (pa_cons (pv 2) pa_nil)) pk_nil))) pa_nil)) (by rfl))
      (pss_cons (ps_setLc (i := 7) (own := [("at", 8)]) (g := gName 8) (tt := tYes)  rfl sc__law_shifts_right.nd rfl rfl (sw_true rfl rfl rfl (by decide +kernel)) (pi_range1 (by rfl) T.b_range (pa_cons (pe_op op_sub (pe_op op_add (pe_callB (kx_lens rfl) (by rfl) T.b_len PySem.boot_len (pa_cons (pv 1) pa_nil)) (pe_callB (kx_lens rfl) (by rfl) T.b_len PySem.boot_len (pa_cons (pv 2) pa_nil))) pe_int) pa_nil)) (blkOk_by (own := [("at", 8)]) (N := ["bag", "one", "other", "under", "bound", "mine", "its", "found", "at", "number", "spot", "factor", "row", "told"]) (sc := defScope s__law_shifts_right) (by decide +kernel)) (fun _ _ _ _ _ => (pg_name (i := 8) sc__law_shifts_right.nd rfl (Or.inl rfl))) (fun _ _ _ _ _ => pts_nil) (fun _ _ _ _ _ => (pe_lst (pa_cons pe_int (pa_cons pe_int pa_nil)))))
      (pss_cons (ps_for (passes_of rfl) rfl (pi_enumT (by rfl) T.b_enumerate (pa_cons (pv 5) pa_nil)) (pg_tup rfl (pgs_cons (pg_name (i := 8) sc__law_shifts_right.nd rfl (Or.inl rfl)) (pgs_cons (pg_name (i := 9) sc__law_shifts_right.nd rfl (Or.inl rfl)) pgs_nil))) (pss_one (ps_for (passes_of rfl) rfl (pi_enumT (by rfl) T.b_enumerate (pa_cons (pv 6) pa_nil)) (pg_tup rfl (pgs_cons (pg_name (i := 10) sc__law_shifts_right.nd rfl (Or.inl rfl)) (pgs_cons (pg_name (i := 11) sc__law_shifts_right.nd rfl (Or.inl rfl)) pgs_nil))) (pss_cons (ps_set (i := 12) sc__law_shifts_right.nd rfl (Or.inl rfl) (pe_ix (kx_ixl rfl) (pv 7) (pe_op op_add (pv 8) (pv 10)) (fun _ _ => rfl)))
      (pss_cons (ps_asg (pe_op op_add (pe_op op_add (pe_ix (kx_ixl rfl) (pv 12) pe_int (fun _ _ => rfl)) (pe_op op_mulW (kx_fld rfl (pv 9) rfl) (kx_fld rfl (pv 11) rfl))) (pe_op op_mulW (pe_op op_mulW (kx_fld rfl (pv 9) rfl) (kx_fld rfl (pv 11) rfl)) (pv 3))) (pg_sub (pv 12) pe_int set_list))
      (pss_one (ps_asg (pe_op op_add (pe_op op_add (pe_ix (kx_ixl rfl) (pv 12) pe_int (fun _ _ => rfl)) (pe_op op_mulW (kx_fld rfl (pv 9) rfl) (kx_fld rfl (pv 11) rfl))) (pe_op op_mulW (kx_fld rfl (pv 9) rfl) (kx_fld rfl (pv 11) rfl))) (pg_sub (pv 12) pe_int set_list))))))))
      (pss_cons (ps_set (i := 13) sc__law_shifts_right.nd rfl (Or.inl rfl) (pe_call F_shifted hr_shifted (by rfl) T.g_shifted T.k_shifted B_shifted .nil passL (pa_cons (pe_call F_times hr_times (by rfl) T.g_times T.k_times B_times .nil passL (pa_cons (pe_make T.mk_Poly F_Poly_init hr_Poly_init (by rfl) T.g_Poly B_Poly_init .nil passL (pa_cons (pv 1) pa_nil)) (pa_cons (pe_make T.mk_Poly F_Poly_init hr_Poly_init (by rfl) T.g_Poly B_Poly_init .nil passL (pa_cons (pv 2) pa_nil)) pa_nil))) (pa_cons (pv 4) pa_nil))))
      (pss_cons (ps_if (PW.pt (pw_or (pt_not (pt_val (pe_callB (cr_isi rfl) (by rfl) T.b_isinstance (by decide +kernel) (pa_cons (pv 13) (pa_cons (pe_bltn (v := .ty "tuple") (by rfl) T.b_tuple (by decide +kernel) rfl) pa_nil))))) (pw_or1 (pt_cmpR (op_neD hr.units) (pe_lc (own := [("number", 9)]) (g := gName 9)  rfl sc__law_shifts_right.nd (pi_tup (pv 13)) (blkOk_by (own := [("number", 9)]) (N := ["bag", "one", "other", "under", "bound", "mine", "its", "found", "at", "number", "spot", "factor", "row", "told"]) (sc := defScope s__law_shifts_right) (by decide +kernel)) (fun _ _ _ _ _ => (pg_name (i := 9) sc__law_shifts_right.nd rfl (Or.inl rfl))) (fun _ _ _ _ _ => (pts_one (pt_not (pt_val (pe_callB (cr_isi rfl) (by rfl) T.b_isinstance (by decide +kernel) (pa_cons (pv 9) (pa_cons (pe_glob (v := .ref (He.ga K "Bound")) rfl T.g_Bound rfl) pa_nil))))))) (fun _ _ _ _ _ => (pv 9))) (pe_lst pa_nil) (nomark _))))) (pss_one (ps_ret pe_bl)) pss_nil)
      (pss_one (ps_ret (pe_cmpR (op_eqD hr.units) (pe_lc (own := [("number", 9)]) (g := gName 9) (tt := tYes)  rfl sc__law_shifts_right.nd (pi_tup (pv 13)) (blkOk_by (own := [("number", 9)]) (N := ["bag", "one", "other", "under", "bound", "mine", "its", "found", "at", "number", "spot", "factor", "row", "told"]) (sc := defScope s__law_shifts_right) (by decide +kernel)) (fun _ _ _ _ _ => (pg_name (i := 9) sc__law_shifts_right.nd rfl (Or.inl rfl))) (fun _ _ _ _ _ => pts_nil) (fun _ _ _ _ _ => (pe_tup (pa_cons (kx_fld rfl (pv 9) rfl) (pa_cons (kx_fld rfl (pv 9) rfl) (pa_cons (kx_fld rfl (pv 9) rfl) pa_nil)))))) (pe_lc (own := [("row", 12)]) (g := gName 12) (tt := tYes)  rfl sc__law_shifts_right.nd (pi_list (pv 7)) (blkOk_by (own := [("row", 12)]) (N := ["bag", "one", "other", "under", "bound", "mine", "its", "found", "at", "number", "spot", "factor", "row", "told"]) (sc := defScope s__law_shifts_right) (by decide +kernel)) (fun _ _ _ _ _ => (pg_name (i := 12) sc__law_shifts_right.nd rfl (Or.inl rfl))) (fun _ _ _ _ _ => pts_nil) (fun _ _ _ _ _ => (pe_tup (pa_cons (pe_ix (kx_ixl rfl) (pv 12) pe_int (fun _ _ => rfl)) (pa_cons (pe_ix (kx_ixl rfl) (pv 12) pe_int (fun _ _ => rfl)) (pa_cons (pv 3) pa_nil)))))) (nomark _))))))))))), ?_⟩
  have ok1 := hN.ok (by omega)
  have ok2 := hM.ok (by omega)
  have ln := hN.1
  have lm := hM.1
  have zn := hN.z
  have zm := hM.z
  have zn2 : ∀ c ∈ ns, Z 200 c := fun c m => (zn c m).mono (by decide)
  have zm2 : ∀ c ∈ ms, Z 200 c := fun c m => (zm c m).mono (by decide)
  have za := mul_z hN hM (by omega)
  have ml := GM.mulH_len ok2.ne ns
  walk_at "rd"
  refine r_Great hb (by omega) fun r H1 r0 r1 g1 b1 => ?_
  walk_at "rd"
  refine r_newL (sz_le (by simp)) fun U H2 _ e2 h2 => ?_
  walk_at "rd"
  have b2 := b1.ex e2
  refine ⟨p, _, U, _, rfl, rfl, h2, b2.ne h2 (fun _ _ _ z => by cases z), by simp, by simp, (by omega : n + 3 ≤ 100000), b2, fun uv H3 huv g3 b3 => ?_⟩
  obtain ⟨u, rfl, u0, zu⟩ : ∃ u : Int, uv = .int u ∧ 0 ≤ u ∧ Z 70 u := by
    simp only [List.mem_cons, List.mem_nil_iff, or_false] at huv
    rcases huv with rfl | rfl | rfl | rfl
    · exact ⟨0, rfl, by decide, by unfold Z; decide⟩
    · exact ⟨4, rfl, by decide, by unfold Z; decide⟩
    · exact ⟨2, rfl, by decide, by unfold Z; decide⟩
    · exact ⟨r, rfl, r0, (Z.le100 r0 (by omega)).mono (by decide)⟩
  walk_at "rd"
  refine r_DrawL b3 (by omega) (by decide) (by decide) fun r2 H4 q0 q1 g4 b4 => ?_
  refine r_I (mulOk (Z.small (i := 2) (by decide)) (Z.small (i := r2) (by omega)) (by decide) (by decide) (by decide)) ?_
  walk_at "rd"
  refine r_Number b4 (by omega) fun w1 H5 cw g5 b5 => ?_
  walk_at "rd"
  refine r_DrawL b5 (by omega) (by decide) (by decide) fun r3 H6 _ _ g6 b6 => ?_
  walk_at "rd"
  refine r_Number b6 (by omega) fun pt H7 cp g7 b7 => ?_
  walk_at "rd"
  have zw : Z 70 w1 := cw.z.mono (by decide)
  have zp : Z 70 pt := cp.z.mono (by decide)
  have g07 : Bg p H H7 := g1.trans ((Bg.of e2).trans (g3.trans (g4.trans (g5.trans (g6.trans g7)))))
  have hx7 := bg_lst g07 hb hx
  have hy7 := bg_lst g07 hb hy
  refine r_Bound u0 fun B H8 _ e8 hB => ?_
  have hx8 := e8 _ _ hx7
  have hy8 := e8 _ _ hy7
  have b8 := b7.ex e8
  have g08 := g07.trans (Bg.of e8)
  clear hx7 hy7 b7 g07 e8 b6 b5 b4 b3 b2 b1 g1 g3 g4 g5 g6 g7 h2 e2 huv
  walk_at "rd"
  refine r_PolyL hx8 ok1 fun a1 H9 _ e9 A1 => ?_
  walk_at "rd"
  refine .inr ⟨a1, ns, rfl, A1, .inr ⟨B, w1, pt, u, rfl, hB.ex e9, zw, zp, zu, by omega, zn2, fun CA tA H10 e10 SA evA zA => ?_⟩⟩
  walk_at "rd"
  have e810 := e9.trans e10
  refine r_PolyL (e810 _ _ hy8) ok2 fun a2 H11 _ e11 A2 => ?_
  refine r_clKN rfl rfl (.inr ⟨a2, ms, rfl, A2, .inr ⟨B, w1, pt, u, rfl, (hB.ex e810).ex e11, zw, zp, zu, by omega, zm2, fun CB tB H12 e12 SB evB zB => ?_⟩⟩)
  have e812 := e810.trans (e11.trans e12)
  have hx12 := e812 _ _ hx8
  have hy12 := e812 _ _ hy8
  have hB12 := hB.ex e812
  have SA12 := SA.ex (e11.trans e12)
  have b12 := b8.ex e812
  have g012 := g08.trans (Bg.of e812)
  clear hx8 hy8 hB SA b8 g08 e9 e10 e11 e12 e810 e812 A1 A2
  walk_at "rd"
  refine r_lenL hx12 ?_
  walk_at "rd"
  refine r_lenL hy12 ?_
  walk_at "rd"
  have m1 : (ns.map V.int).length = ns.length := List.length_map ..
  have m2 : (ms.map V.int).length = ms.length := List.length_map ..
  refine ⟨_, rfl, by omega, by omega, ?_⟩
  rw [show (((ns.map V.int).length : Int) + ((ms.map V.int).length : Int) - 1).toNat = ns.length + ms.length - 1 by omega]
  refine r_lcP (n := ns.length + ms.length - 1) (walk_range (lo := 0) (n := ns.length + ms.length - 1)) (fun D i ys H' => ys.length = i ∧ (∀ k, k < i → ∃ r, ys[k]? = some (.ref r) ∧ r ≠ D ∧ H12 r = none ∧ H' r = some (.lst [.int 0, .int 0])) ∧ ∀ (j k : Nat) (r : Addr), ys[j]? = some (.ref r) → ys[k]? = some (.ref r) → j = k) (by omega) (fun _ _ => trivial) (fun _ _ _ => ⟨rfl, fun k hk => absurd hk (by omega), fun j k r z => by simp at z⟩) ?_ ?_ ?_
  · rintro D i ys H13 H14 ⟨l, g, q⟩ bu
    exact ⟨l, fun k hk => let ⟨r, a, b, c, d⟩ := g k hk; ⟨r, a, b, c, bu _ _ b d⟩, q⟩
  · rintro D i z ys H13 H14 hi hD e13 hd ⟨l, g, q⟩ ⟨rfl, rfl⟩ N hN'
    refine r_gName ⟨rfl, ?_⟩
    walk_at "rd"
    refine r_newL (sz_le (by simp)) fun r' H15 hr e15 h15 => hN' _ H15 e15 ⟨by rw [List.length_append, l]; rfl, fun k hk => ?_, fun j k r hj hk => ?_⟩
    · by_cases ck : k < i
      · obtain ⟨r, a, b, c, d⟩ := g k ck
        exact ⟨r, by rw [List.getElem?_append_left (by omega)]; exact a, b, c, e15 _ _ d⟩
      · obtain rfl : k = i := by omega
        refine ⟨r', by rw [List.getElem?_append_right (by omega), l, Nat.sub_self]; rfl, ?_, e13.free hr, h15⟩
        rintro rfl
        rw [hd] at hr
        cases hr
    · have old : ∀ j, j < i → (ys ++ [V.ref r'])[j]? = some (.ref r) → ys[j]? = some (.ref r) ∧ r ≠ r' := fun j jl e => by
        rw [List.getElem?_append_left (by omega)] at e
        refine ⟨e, ?_⟩
        rintro rfl
        obtain ⟨r2, a, b, c, d⟩ := g j jl
        rw [e] at a
        cases a
        rw [d] at hr
        cases hr
      have new : ∀ j, ¬ j < i → (ys ++ [V.ref r'])[j]? = some (.ref r) → j = i ∧ r = r' := fun j hj e => by
        rw [List.getElem?_append_right (by omega), l] at e
        have : j - i = 0 := by
          have := (List.getElem?_eq_some_iff.mp e).1
          simp at this
          omega
        rw [this] at e
        cases e
        exact ⟨by omega, rfl⟩
      by_cases cj : j < i
      · obtain ⟨oj, nj⟩ := old j cj hj
        by_cases ck : k < i
        · exact q j k r oj (old k ck hk).1
        · exact absurd (new k ck hk).2 nj
      · obtain ⟨ej, er⟩ := new j cj hj
        by_cases ck : k < i
        · exact absurd er (old k ck hk).2
        · exact ej.trans (new k ck hk).1.symm
  intro D ys0 H13 hD e13 hl0 len0 ⟨_, g0, q0'⟩
  have R0 : Rows H12 H13 D (ns.length + ms.length - 1) (GM.Fn u CA CB ms.length 0) := ⟨e13, hD, ys0, hl0, len0, g0, q0'⟩
  clear g0 q0' hl0 len0 e13 hD
  obtain ⟨yA, hA1, lA, hA⟩ := SA12
  obtain ⟨yB, hB1, lB, hBB⟩ := SB
  walk_at "rd"
  refine ⟨tA, yA, rfl, SqT.of (R0.1 _ _ hA1), ?_⟩
  have st : ∀ {L : Nat} {yy : List V} {C : Nat → GM.P2} {k : Nat} {z : V}, (∀ k, k < L → ∃ a, yy[k]? = some (.ref a) ∧ Bd K H12 a (C k).1 (C k).2 u) → k < L → yy[k]? = some z → ∃ a, z = .ref a ∧ Bd K H12 a (C k).1 (C k).2 u := fun h hk e => by
    obtain ⟨a, h1, h2⟩ := h _ hk
    rw [h1] at e
    cases e
    exact ⟨a, rfl, h2⟩
  have hBB' : ∀ k, k < ms.length → ∃ a, yB[k]? = some (.ref a) ∧ Bd K H12 a (CB k).1 (CB k).2 u := hBB
  refine for_of (walk_enumT' (xs := yA) lA) (fun i σ H' => Rows H12 H' D (ns.length + ms.length - 1) (GM.Fn u CA CB ms.length i) ∧ ∃ s8 s9 s10 s11 s12, σ = [some (.ref p), some (.ref x), some (.ref y), some (.int u), some (.ref B), some (.ref tA), some (.ref tB), some (.ref D), s8, s9, s10, s11, s12, none])
    ⟨R0, none, none, none, none, none, rfl⟩ (fun i σ H' _ q => SqT.of (q.1.1 _ _ hA1)) ?_ ?_
  · rintro i z σ H14 H15 hi ⟨R14, s8, s9, s10, s11, s12, rfl⟩ ⟨T', x1, x2, rfl, hT', rfl, g1, g2⟩
    cases g1
    obtain ⟨aA, rfl, hAi⟩ := st hA hi g2
    refine r_gTup upd_same rfl (r_gCons (r_gName (r_gCons (r_gName (r_gNil ?_)))))
    have R15 := R14.ex (Ex.new (o := .tup [V.int (i : Nat), .ref aA]) hT')
    generalize upd H14 T' (.tup [V.int (i : Nat), .ref aA]) = H16 at R15 ⊢
    walk_at "rd"
    refine ⟨tB, yB, rfl, SqT.of (R15.1 _ _ hB1), ?_⟩
    refine for_of (walk_enumT' (xs := yB) lB) (fun j σ H' => Rows H12 H' D (ns.length + ms.length - 1) (fun k => GM.ra (GM.Fn u CA CB ms.length i k) (GM.rowD u i (CA i) CB j k)) ∧ ∃ s10 s11 s12, σ = [some (.ref p), some (.ref x), some (.ref y), some (.int u), some (.ref B), some (.ref tA), some (.ref tB), some (.ref D), some (.int (i : Nat)), some (.ref aA), s10, s11, s12, none])
      ⟨R15.congr fun k _ => by rw [GM.rowD, if_neg (by omega)]; simp [GM.ra], s10, s11, s12, rfl⟩ (fun j σ H' _ q => SqT.of (q.1.1 _ _ hB1)) ?_ ?_
    · rintro j z σ H17 H18 hj ⟨R17, s10', s11', s12', rfl⟩ ⟨T2, y1, y2, rfl, hT2, rfl, g3, g4⟩
      cases g3
      obtain ⟨aB, rfl, hBj⟩ := st hBB' hj g4
      refine r_gTup upd_same rfl (r_gCons (r_gName (r_gCons (r_gName (r_gNil ?_)))))
      have R18 := R17.ex (Ex.new (o := .tup [V.int (j : Nat), .ref aB]) hT2)
      generalize upd H17 T2 (.tup [V.int (j : Nat), .ref aB]) = H19 at R18 ⊢
      have hij : i + j < ns.length + ms.length - 1 := by omega
      obtain ⟨ys, r', hy1, hy2, hy3, hy4, upR⟩ := R18.row hij
      have hA19 := hAi.ex R18.1
      have hB19 := hBj.ex R18.1
      obtain ⟨zA1, zA2⟩ := zA i (by omega)
      obtain ⟨zB1, zB2⟩ := zB j (by omega)
      walk_at "rd"
      refine r_ixL hy1 (v := .ref r') (by rw [← Int.natCast_add]; exact atI_nat hy3) ?_
      walk_at "rd"
      have ef : GM.ra (GM.Fn u CA CB ms.length i (i + j)) (GM.rowD u i (CA i) CB j (i + j)) = GM.Fn u CA CB ms.length i (i + j) := by rw [GM.rowD, if_neg (by omega)]; simp [GM.ra]
      simp only [ef] at hy4
      refine r_ixL hy4 (v := .int (GM.Fn u CA CB ms.length i (i + j)).1) rfl ?_
      walk_at "rd"
      refine r_bw T hA19 ?_
      refine r_bw T hB19 ?_
      refine r_I (mulOk zA1 zB1 (by decide) (by decide) (by decide)) ?_
      walk_at "rd"
      refine r_bp T hA19 ?_
      refine r_bp T hB19 ?_
      refine r_I (mulOk zA2 zB2 (by decide) (by decide) (by decide)) ?_
      walk_at "rd"
      refine r_I (mulOk (zA2.mul zB2) zu (by decide) (by decide) (by decide)) ?_
      walk_at "rd"
      refine r_setL (n := 0) hy4 rfl ?_
      have R19 := upR ((GM.Fn u CA CB ms.length i (i + j)).1 + (CA i).1 * (CB j).1 + (CA i).2 * (CB j).2 * u) (GM.Fn u CA CB ms.length i (i + j)).2
      have hA20 := hAi.ex R19.1
      have hB20 := hBj.ex R19.1
      walk_at "rd"
      refine r_ixL upd_same (v := .int (GM.Fn u CA CB ms.length i (i + j)).2) rfl ?_
      walk_at "rd"
      refine r_bw T hA20 ?_
      refine r_bp T hB20 ?_
      refine r_I (mulOk zA1 zB2 (by decide) (by decide) (by decide)) ?_
      walk_at "rd"
      refine r_bp T hA20 ?_
      refine r_bw T hB20 ?_
      refine r_I (mulOk zA2 zB1 (by decide) (by decide) (by decide)) ?_
      walk_at "rd"
      refine r_setL (n := 1) upd_same rfl ?_
      refine ⟨?_, _, _, _, rfl⟩
      rw [upd_upd]
      have R20 := upR ((GM.Fn u CA CB ms.length i (i + j)).1 + (CA i).1 * (CB j).1 + (CA i).2 * (CB j).2 * u) ((GM.Fn u CA CB ms.length i (i + j)).2 + (CA i).1 * (CB j).2 + (CA i).2 * (CB j).1)
      refine R20.congr fun k hk => ?_
      by_cases c : k = i + j
      · subst c
        rw [if_pos rfl, GM.rowD, if_pos (by omega), show i + j - i = j by omega]
        apply GM.p2 <;> simp only [GM.ra, GM.rm] <;> omega
      · rw [if_neg c]
        congr 1
        unfold GM.rowD
        by_cases c2 : i ≤ k ∧ k < i + j
        · rw [if_pos c2, if_pos ⟨c2.1, by omega⟩]
        · rw [if_neg c2, if_neg (by omega)]
    · rintro σ H17 ⟨R17, s10', s11', s12', rfl⟩
      exact ⟨R17, _, _, _, _, _, rfl⟩
  · rintro σ H14 ⟨R14, s8, s9, s10, s11, s12, rfl⟩
    have hx14 := R14.1 _ _ hx12
    have hy14 := R14.1 _ _ hy12
    have hB14 := hB12.ex R14.1
    have b14 := b12.ex R14.1
    have g014 := g012.trans (Bg.of R14.1)
    walk_at "rd"
    refine r_PolyL hx14 ok1 fun a3 H15 _ e15 A3 => ?_
    walk_at "rd"
    refine r_PolyL (e15 _ _ hy14) ok2 fun a4 H16 _ e16 A4 => ?_
    walk_at "rd"
    refine r_Times (A3.ex e16) A4 (by omega) zn2 zm2 fun a5 H17 _ e17 A5 => ?_
    walk_at "rd"
    have e1417 := e15.trans (e16.trans e17)
    refine .inr ⟨a5, _, rfl, A5, .inr ⟨B, w1, pt, u, rfl, hB14.ex e1417, zw, zp, zu, by omega, fun c m => (za c m).mono (by decide), fun CC tC' H18 e18 SC evC zC => ?_⟩⟩
    have R18 := R14.ex (e1417.trans e18)
    have b18 := b14.ex (e1417.trans e18)
    have g018 := g014.trans (Bg.of (e1417.trans e18))
    rw [ml] at SC evC
    have same : ∀ k, k < ns.length + ms.length - 1 → GM.Fn u CA CB ms.length ns.length k = CC k := fun k hk => GM.shift_prod ok1.ne ok2.ne evA evB evC hk
    have R18' := R18.congr same
    obtain ⟨yC, hC1, lC, hC⟩ := SC
    walk_at "rd"
    refine ⟨_, _, _, _, true, rfl, .ty "tuple", .base (.tup hC1), kit_ty (by decide +kernel), ?_⟩
    walk_at "rd"
    refine ite_f rfl ?_
    walk_at "rd"
    refine ⟨tC', rfl, ⟨_, SqT.of hC1⟩, ?_⟩
    have stC : ∀ {k : Nat} {z : V}, k < ns.length + ms.length - 1 → yC[k]? = some z → ∃ a, z = .ref a ∧ Bd K H18 a (CC k).1 (CC k).2 u := fun hk e => by
      obtain ⟨a, h1, h2⟩ := hC _ hk
      rw [h1] at e
      cases e
      exact ⟨a, rfl, h2⟩
    refine r_lcF (k := 9) (walk_tup (xs := yC)) (fun _ => false) (fun _ => .non) (by omega) (fun H' e => e.sqt (SqT.of hC1)) (fun _ => rfl) ?_ (fun _ _ _ _ c => by cases c) ?_
    · rintro j z H0 H' hj e0 ⟨rfl, hz⟩
      obtain ⟨a, rfl, hBa⟩ := stC (by omega) hz
      obtain ⟨dx, fs, hi⟩ := (hBa.ex e0).inst
      refine ⟨Ex.refl _, fun R r => ?_⟩
      walk_at "rd"
      refine ⟨_, _, _, _, true, rfl, .own _, ty_own T (by decide) hi, T.cc_Bound.me, ?_⟩
      walk_at "rd"
      exact r _ (Ex.refl _)
    intro D1 H19 _ e19 hl1
    rw [given_none] at hl1
    walk_at "rd"
    refine r_newL (Nat.zero_le _) fun D2 H20 _ e20 h20 => ?_
    refine r_neInts (xs := []) (ys := []) (e20 _ _ hl1) h20 ?_
    walk_at "rd"
    refine ite_f rfl ?_
    have e1820 := e19.trans e20
    walk_at "rd"
    refine ⟨tC', rfl, ⟨_, SqT.of (e1820 _ _ hC1)⟩, ?_⟩
    refine r_lcI (k := 9) (walk_tup (xs := yC)) (fun i => [.int (CC i).1, .int (CC i).2, .int u]) (by omega) (fun H' e => e.sqt (SqT.of (e1820 _ _ hC1))) (fun _ => rfl) ?_ ?_
    · rintro j z H0 H' hj e0 ⟨rfl, hz⟩
      obtain ⟨a, rfl, hBa⟩ := stC (by omega) hz
      have hBa' := (hBa.ex e1820).ex e0
      refine ⟨Ex.refl _, fun R r => ?_⟩
      walk_at "rd"
      refine r_bw T hBa' ?_
      refine r_bp T hBa' ?_
      refine r_bu T hBa' ?_
      walk_at "rd"
      exact r_newT (sz_le (by simp)) fun t H3 _ e3 h3 => r t H3 e3 h3
    intro D3 zs3 H21 _ e21 hl3 len3 it3
    have e1821 := e1820.trans e21
    have R21 := R18'.ex e1821
    obtain ⟨e0', hD', ys, hy1, hy2, hy3, hy4⟩ := R21
    walk_at "rd"
    refine ⟨D, rfl, ⟨_, SqL.of hy1⟩, ?_⟩
    refine r_lcI (k := 12) (walk_list (xs := ys)) (fun i => [.int (CC i).1, .int (CC i).2, .int u]) (by omega) (fun H' e => e.sql (SqL.of hy1)) (fun _ => rfl) ?_ ?_
    · rintro j z H0 H' hj e0 ⟨rfl, hz⟩
      obtain ⟨r, h1, h2, h3, h4⟩ := hy3 j (by omega)
      rw [h1] at hz
      cases hz
      have h4' := e0 _ _ h4
      refine ⟨Ex.refl _, fun R rr => ?_⟩
      walk_at "rd"
      refine r_ixL h4' (v := .int (CC j).1) rfl ?_
      walk_at "rd"
      refine r_ixL h4' (v := .int (CC j).2) rfl ?_
      walk_at "rd"
      exact r_newT (sz_le (by simp)) fun t H3 _ e3 h3 => rr t H3 e3 h3
    intro D4 zs4 H22 _ e22 hl4 len4 it4
    have tl : ((List.range (ns.length + ms.length - 1)).map fun k => [(CC k).1, (CC k).2, u]).length = ns.length + ms.length - 1 := by simp
    have te : ∀ (i : Nat) (t : List Int), ((List.range (ns.length + ms.length - 1)).map fun k => [(CC k).1, (CC k).2, u])[i]? = some t → t.map V.int = [.int (CC i).1, .int (CC i).2, .int u] := fun i t ht => by
      have il := (List.getElem?_eq_some_iff.mp ht).1
      rw [tl] at il
      rw [List.getElem?_map, List.getElem?_range il] at ht
      cases ht
      rfl
    refine r_eqTups ((List.range (ns.length + ms.length - 1)).map fun k => [(CC k).1, (CC k).2, u]) (e22 _ _ hl3) hl4 (by rw [tl, len3, lC]) (by rw [tl, len4, hy2]) (fun i z t h1 h2 => ?_) (fun i z t h1 h2 => ?_) ?_
    · obtain ⟨a, h3, h4⟩ := it3 i z h1
      exact ⟨a, h3, by rw [te i t h2]; exact e22 _ _ h4⟩
    · obtain ⟨a, h3, h4⟩ := it4 i z h1
      exact ⟨a, h3, by rw [te i t h2]; exact h4⟩
    · exact k _ (g018.trans (Bg.of (e1821.trans e22))) ((b18.ex (e1821.trans e22)).le (by omega))

end K04
namespace K04
open PySem PySem.Spec PyProof.Rows L2 GS TL
local macro_rules | `(tactic| walk_at "rd") => `(tactic| (repeat (first
  | with_reducible refine r_next ?_
  | with_reducible refine r_seq ?_
  | with_reducible refine r_ret ?_
  | with_reducible refine r_ifS ?_
  | with_reducible refine r_asg ?_
  | with_reducible refine r_drop ?_
  | with_reducible refine r_op ?_
  | with_reducible refine r_un ?_
  | with_reducible refine r_cbInt ?_
  | with_reducible refine r_cbAbs ?_
  | with_reducible refine r_cbLen ?_
  | with_reducible refine r_cbList ?_
  | with_reducible refine r_cbTup ?_
  | with_reducible refine r_iEnT ?_
  | with_reducible refine r_iEnL ?_
  | with_reducible refine r_zipA ?_
  | with_reducible refine r_augS ?_
  | with_reducible refine r_cb ?_
  | with_reducible refine r_call ?_
  | with_reducible refine r_make ?_
  | with_reducible refine r_callN0 ?_
  | with_reducible refine r_makeK0 ?_
  | with_reducible refine r_makeS ?_
  | with_reducible refine r_callS ?_
  | with_reducible refine r_cons ?_
  | with_reducible refine r_nil ?_
  | with_reducible refine r_test ?_
  | with_reducible refine r_B ?_
  | with_reducible refine r_and ?_
  | with_reducible refine r_or ?_
  | with_reducible refine r_not ?_
  | with_reducible refine r_andV ?_
  | with_reducible refine r_orV ?_
  | with_reducible refine r_notV ?_
  | with_reducible refine r_if ?_
  | with_reducible refine r_tup ?_
  | with_reducible refine r_lst ?_
  | with_reducible refine r_c ?_
  | with_reducible refine r_lc ?_
  | with_reducible refine r_chain ?_
  | with_reducible refine r_iT ?_
  | with_reducible refine r_iL ?_
  | with_reducible refine r_iR1 ?_
  | with_reducible refine r_iR2 ?_
  | with_reducible refine r_iR3 ?_
  | with_reducible refine r_asgG ?_
  | with_reducible refine r_gSub ?_
  | with_reducible refine r_for ?_
  | with_reducible refine r_smeth ?_
  | with_reducible refine r_par ?_
  | with_reducible refine r_parK ?_
  | with_reducible refine r_gCons ?_
  | with_reducible refine r_gNil ?_
  | with_reducible refine r_gName ?_
  | with_reducible refine r_intI ?_
  | with_reducible refine r_intB ?_
  | with_reducible refine r_absI ?_
  | with_reducible refine r_k ?_
  | with_reducible refine r_kV ?_
  | ((with_reducible show tVar _ _ _ _); refine r_var3 ?_ (by rfl))
  | with_reducible refine r_I0 ?_
  | with_reducible refine r_U ?_
  | with_reducible refine r_eqI ?_
  | with_reducible refine r_neI ?_
  | dsimp only)))
local macro_rules | `(tactic| walk_at "rx") => `(tactic| (repeat (first
  | with_reducible refine r_next ?_
  | with_reducible refine r_ret ?_
  | with_reducible refine r_ifS ?_
  | with_reducible refine r_asg ?_
  | with_reducible refine r_drop ?_
  | with_reducible refine r_op ?_
  | with_reducible refine r_un ?_
  | with_reducible refine r_cbInt ?_
  | with_reducible refine r_cbAbs ?_
  | with_reducible refine r_cbLen ?_
  | with_reducible refine r_cbList ?_
  | with_reducible refine r_cbTup ?_
  | with_reducible refine r_iEnT ?_
  | with_reducible refine r_iEnL ?_
  | with_reducible refine r_zipA ?_
  | with_reducible refine r_augS ?_
  | with_reducible refine r_cb ?_
  | with_reducible refine r_call ?_
  | with_reducible refine r_make ?_
  | with_reducible refine r_callN0 ?_
  | with_reducible refine r_makeK0 ?_
  | with_reducible refine r_makeS ?_
  | with_reducible refine r_callS ?_
  | with_reducible refine r_cons ?_
  | with_reducible refine r_nil ?_
  | with_reducible refine r_test ?_
  | with_reducible refine r_B ?_
  | with_reducible refine r_and ?_
  | with_reducible refine r_or ?_
  | with_reducible refine r_not ?_
  | with_reducible refine r_andV ?_
  | with_reducible refine r_orV ?_
  | with_reducible refine r_notV ?_
  | with_reducible refine r_if ?_
  | with_reducible refine r_tup ?_
  | with_reducible refine r_lst ?_
  | with_reducible refine r_c ?_
  | with_reducible refine r_lc ?_
  | with_reducible refine r_chain ?_
  | with_reducible refine r_iT ?_
  | with_reducible refine r_iL ?_
  | with_reducible refine r_iR1 ?_
  | with_reducible refine r_iR2 ?_
  | with_reducible refine r_iR3 ?_
  | with_reducible refine r_asgG ?_
  | with_reducible refine r_gSub ?_
  | with_reducible refine r_for ?_
  | with_reducible refine r_smeth ?_
  | with_reducible refine r_par ?_
  | with_reducible refine r_parK ?_
  | with_reducible refine r_gCons ?_
  | with_reducible refine r_gNil ?_
  | with_reducible refine r_gName ?_
  | with_reducible refine r_intI ?_
  | with_reducible refine r_intB ?_
  | with_reducible refine r_absI ?_
  | with_reducible refine r_k ?_
  | with_reducible refine r_kV ?_
  | ((with_reducible show tVar _ _ _ _); refine r_var3 ?_ (by rfl))
  | with_reducible refine r_I0 ?_
  | with_reducible refine r_U ?_
  | with_reducible refine r_eqI ?_
  | with_reducible refine r_neI ?_
  | dsimp only)))
/-! ### what is raised, told -/
abbrev four : List Str := ["BadPoly", "BadNumber", "BadBound", "Misfit"]
theorem kit_of_exm {K : PySem.W.Frag} {t c : Value} (h : PySem.W.exmOne K t t = some true) (n : PySem.W.exmOne K t c = some false) : PySem.W.kitOne K t c = some false := by
  unfold PySem.W.kitOne
  by_cases e : (t == c) = true
  · have : t = c := beq_iff_eq.mp e
    subst this
    rw [h] at n
    cases n
  · rw [if_neg e]
    unfold PySem.W.exmOne at n
    split at n
    · exact n
    · cases n
theorem kit_self {K : PySem.W.Frag} {t : Value} : PySem.W.kitOne K t t = some true := by
  unfold PySem.W.kitOne
  rw [if_pos (beq_self_eq_true t)]
theorem exm_two {K : PySem.W.Frag} {t a b c d : Value} {x y z u : Bool} (h1 : PySem.W.exmOne K t a = some x) (h2 : PySem.W.exmOne K t b = some y) (h3 : PySem.W.exmOne K t c = some z) (h4 : PySem.W.exmOne K t d = some u) : PySem.W.exmAny K t [a, b, c, d] = some (x || (y || (z || (u || false)))) := by
  simp only [PySem.W.exmAny, h1, h2, h3, h4]
def flag (x y : Str) : V := .bl (x == y)
/-- an error's class of the four -/
structure E4 (K : PySem.W.Frag) (x : Str) : Prop where
  xf : XfC K (He.ga K x)
  no_ : PySem.W.findIn K (.ref (He.ga K x)) "part" = some none
  ex : ExcC K (He.ga K x)
  any4 : PySem.W.exmAny K (.ref (He.ga K x)) [.ref (He.ga K "BadPoly"), .ref (He.ga K "BadNumber"), .ref (He.ga K "BadBound"), .ref (He.ga K "Misfit")] = some true
  kit : ∀ y ∈ four, PySem.W.kitOne K (.ref (He.ga K x)) (.ref (He.ga K y)) = some (x == y)
theorem e4_of {K : PySem.W.Frag} {mg : Str → Option Value} (T : Txt K mg) {x : Str} (hx : x ∈ four) : E4 K x := by
  have p1 := T.e_BadPoly
  have p2 := T.e_BadNumber
  have p3 := T.e_BadBound
  have p4 := T.e_Misfit
  have mem : ∀ {y : Str}, y ∈ four → y = "BadPoly" ∨ y = "BadNumber" ∨ y = "BadBound" ∨ y = "Misfit" := fun h => by simpa [four] using h
  rcases mem hx with rfl | rfl | rfl | rfl
  · refine ⟨p1.xf, p1.no_ _ (by simp), T.x_BadPoly, exm_two (p1.y "BadPoly" (by simp)) (p1.n "BadNumber" (by simp)) (p1.n "BadBound" (by simp)) (p1.n "Misfit" (by simp)), fun y hy => ?_⟩
    rcases mem hy with rfl | rfl | rfl | rfl
    · exact kit_self
    · exact kit_of_exm (p1.y "BadPoly" (by simp)) (p1.n "BadNumber" (by simp))
    · exact kit_of_exm (p1.y "BadPoly" (by simp)) (p1.n "BadBound" (by simp))
    · exact kit_of_exm (p1.y "BadPoly" (by simp)) (p1.n "Misfit" (by simp))
  · refine ⟨p2.xf, p2.no_ _ (by simp), T.x_BadNumber, exm_two (p2.n "BadPoly" (by simp)) (p2.y "BadNumber" (by simp)) (p2.n "BadBound" (by simp)) (p2.n "Misfit" (by simp)), fun y hy => ?_⟩
    rcases mem hy with rfl | rfl | rfl | rfl
    · exact kit_of_exm (p2.y "BadNumber" (by simp)) (p2.n "BadPoly" (by simp))
    · exact kit_self
    · exact kit_of_exm (p2.y "BadNumber" (by simp)) (p2.n "BadBound" (by simp))
    · exact kit_of_exm (p2.y "BadNumber" (by simp)) (p2.n "Misfit" (by simp))
  · refine ⟨p3.xf, p3.no_ _ (by simp), T.x_BadBound, exm_two (p3.n "BadPoly" (by simp)) (p3.n "BadNumber" (by simp)) (p3.y "BadBound" (by simp)) (p3.n "Misfit" (by simp)), fun y hy => ?_⟩
    rcases mem hy with rfl | rfl | rfl | rfl
    · exact kit_of_exm (p3.y "BadBound" (by simp)) (p3.n "BadPoly" (by simp))
    · exact kit_of_exm (p3.y "BadBound" (by simp)) (p3.n "BadNumber" (by simp))
    · exact kit_self
    · exact kit_of_exm (p3.y "BadBound" (by simp)) (p3.n "Misfit" (by simp))
  · refine ⟨p4.xf, p4.no_ _ (by simp), T.x_Misfit, exm_two (p4.n "BadPoly" (by simp)) (p4.n "BadNumber" (by simp)) (p4.n "BadBound" (by simp)) (p4.y "Misfit" (by simp)), fun y hy => ?_⟩
    rcases mem hy with rfl | rfl | rfl | rfl
    · exact kit_of_exm (p4.y "Misfit" (by simp)) (p4.n "BadPoly" (by simp))
    · exact kit_of_exm (p4.y "Misfit" (by simp)) (p4.n "BadNumber" (by simp))
    · exact kit_of_exm (p4.y "Misfit" (by simp)) (p4.n "BadBound" (by simp))
    · exact kit_self
/-- what is told of an error of the class x with the part z -/
def tR (x z : Str) : List V := [flag x "BadPoly", flag x "BadNumber", flag x "Misfit", .str z]
theorem rel_ref {a : Addr} : ∀ u, RelV (V.ref a) u → u = Value.ref a := fun _ r => r
theorem told_raise {K : PySem.W.Frag} {mg : Str → Option Value} (T : Txt K mg) {x : Str} (hx : x ∈ four) {z : Str} {D : Ends} {s0 s1 s2 s3 : Option V} {H : Hp} {rest : List MCl} {Wout : WX} (hk : ∀ t H', Ex H H' → H' t = some (.tup (tR x z)) → D.rt (.ref t) H') :
    Raised K x "part" (.str z) H fun cls d H' => wMCls K Wout D (([.ref (He.ga K "BadPoly"), .ref (He.ga K "BadNumber"), .ref (He.ga K "BadBound"), .ref (He.ga K "Misfit")], some 3, fun a cls d => tRet (tTup (tCons (tCB (rIsX K a cls d) (tCons (tVar 3) (tCons (tC (V.ref (He.ga K "BadPoly"))) tNil))) (tCons (tCB (rIsX K a cls d) (tCons (tVar 3) (tCons (tC (V.ref (He.ga K "BadNumber"))) tNil))) (tCons (tCB (rIsX K a cls d) (tCons (tVar 3) (tCons (tC (V.ref (He.ga K "Misfit"))) tNil))) (tCons (tXfA K a cls d "part" (tVar 3)) tNil)))))) :: rest) cls d [s0, s1, s2, s3] H' := by
  intro d H1 e1 hd
  have e4 := e4_of T hx
  refine r_m1 e4.any4 fun a ha => r_mAs ?_
  walk_at "rd"
  refine ⟨_, _, _, _, d, _, rfl, rel_ref, rfl, e4.ex, e4.kit "BadPoly" (by simp), rfl, hd, ?_⟩
  walk_at "rd"
  refine ⟨_, _, _, _, d, _, rfl, rel_ref, rfl, e4.ex, e4.kit "BadNumber" (by simp), rfl, hd, ?_⟩
  walk_at "rd"
  refine ⟨_, _, _, _, d, _, rfl, rel_ref, rfl, e4.ex, e4.kit "Misfit" (by simp), rfl, hd, ?_⟩
  walk_at "rd"
  refine ⟨_, rfl, rfl, _, d, _, _, rfl, e4.xf, e4.no_, rfl, hd, rfl, ?_⟩
  walk_at "rd"
  exact r_newT (sz_le (by simp)) fun t H2 ht e2 h2 => hk t H2 (e1.trans e2) h2
/-- what a Poly is not made of -/
inductive BadR (K : PySem.W.Frag) (H : Hp) (v : V) : Str → Prop
  | len {ns : List Int} (hs : Sq H v (ns.map V.int)) (hl : ns.length ≤ 50000) (n : ¬ (1 ≤ ns.length ∧ ns.length ≤ 64)) : BadR K H v "numbers"
  | head {ns : List Int} (hs : Sq H v (ns.map V.int)) (n : 1 ≤ ns.length ∧ ns.length ≤ 64) (h : ¬ 0 < ns.headD 0) : BadR K H v "first"
  | items {xs : List V} (hs : Sq H v xs) (hl : xs.length ≤ 50000) (kn : ∀ x ∈ xs, Kn K H x) (n : xs.all isI = false) : BadR K H v "numbers"
  | kind (h : RowB K H v false) : BadR K H v "numbers"
theorem r_PolyNo {K : PySem.W.Frag} {H : Hp} {Q : VK} {E : XK} {v : V} {z : Str} (h : BadR K H v z) (q : Raised K "BadPoly" "part" (.str z) H E) : mkK (He.ga K "Poly") (spPInit K) E Q [v] H := by
  intro x dx hx hd hn
  have e0 : Ex H (upd (upd H dx (.own x)) x (.ins (He.ga K "Poly") dx [])) := put_own hx hd
  have rb : RaisedB K "BadPoly" x z (upd (upd H dx (.own x)) x (.ins (He.ga K "Poly") dx [])) E := fun d H' b hd' => q d H' (bu_ex e0 hx b) hd'
  refine ⟨x, dx, rfl, upd_same, ?_⟩
  cases h with
  | len hs hl n => exact .inl ⟨_, hs.ex e0, hl, fun ok => absurd ⟨ok.1, ok.2.1⟩ n, fun _ => rb, fun y => absurd y n⟩
  | head hs n hh => exact .inl ⟨_, hs.ex e0, by omega, fun ok => absurd ok.2.2 hh, fun y => absurd n y, fun _ _ => rb⟩
  | items hs hl kn n => exact .inr ⟨.inl ⟨_, hs.ex e0, hl, fun y hy => (kn y hy).ex e0, n⟩, rb⟩
  | kind hr => exact .inr ⟨.inr (hr.ex e0), rb⟩
/-- which error a way raises -/
def Rz (K : PySem.W.Frag) (H : Hp) (one other : V) (way : Nat) (x z : Str) : Prop :=
  (way = 0 ∧ x = "BadPoly" ∧ ((No K "Poly" H one ∧ z = "one") ∨ ∃ a ns, one = .ref a ∧ Pl K H a ns ∧ No K "Poly" H other ∧ z = "other")) ∨
  (way = 1 ∧ x = "BadPoly" ∧ ((No K "Poly" H one ∧ z = "poly") ∨ ∃ a ns, one = .ref a ∧ Pl K H a ns ∧ No K "Poly" H other ∧ z = "by")) ∨
  (way = 2 ∧ ((x = "BadPoly" ∧ ((No K "Poly" H one ∧ z = "one") ∨ ∃ a ns, one = .ref a ∧ Pl K H a ns ∧ No K "Poly" H other ∧ z = "other")) ∨ ∃ a ns b ms, one = .ref a ∧ Pl K H a ns ∧ other = .ref b ∧ Pl K H b ms ∧ ns.length ≠ ms.length ∧ x = "Misfit" ∧ z = "degree")) ∨
  (way = 3 ∧ ((x = "BadPoly" ∧ ((No K "Poly" H one ∧ z = "one") ∨ ∃ a ns, one = .ref a ∧ Pl K H a ns ∧ No K "Poly" H other ∧ z = "other")) ∨ ∃ a ns b ms, one = .ref a ∧ Pl K H a ns ∧ other = .ref b ∧ Pl K H b ms ∧ x = "BadNumber" ∧ z = "its")) ∨
  (way = 4 ∧ ((x = "BadPoly" ∧ ((No K "Poly" H one ∧ z = "one") ∨ ∃ a ns, one = .ref a ∧ Pl K H a ns ∧ No K "Poly" H other ∧ z = "other")) ∨ ∃ a ns b ms, one = .ref a ∧ Pl K H a ns ∧ other = .ref b ∧ Pl K H b ms ∧ x = "BadNumber" ∧ z = "mine")) ∨
  (way = 5 ∧ ((No K "Poly" H one ∧ x = "BadPoly" ∧ z = "poly") ∨ ∃ a ns, one = .ref a ∧ Pl K H a ns ∧ ns.length = 1 ∧ x = "Misfit" ∧ z = "degree")) ∨
  (way = 6 ∧ No K "Poly" H one ∧ x = "BadPoly" ∧ z = "poly") ∨
  (way = 7 ∧ No K "Poly" H one ∧ x = "BadPoly" ∧ z = "poly") ∨
  (way = 8 ∧ ((No K "Poly" H one ∧ x = "BadPoly" ∧ z = "poly") ∨ ∃ a ns, one = .ref a ∧ Pl K H a ns ∧ No K "Bound" H other ∧ x = "BadBound" ∧ z = "bound")) ∨
  (way = 9 ∧ x = "BadNumber" ∧ z = "x" ∧ ∃ a ns, one = .ref a ∧ Pl K H a ns ∧ Kn K H other ∧ isI other = false) ∨
  (way = 10 ∧ x = "BadPoly" ∧ BadR K H one z)
def spTold (K : PySem.W.Frag) : Sp := sp3 fun v one other H Q _ => (∃ (way : Nat) (x z : Str), v = .int ((way : Nat) : Int) ∧ x ∈ four ∧ Rz K H one other way x z ∧ ∀ t H', Ex H H' → H' t = some (.tup (tR x z)) → Q (.ref t) H') ∨
  (v = .int 0 ∧ ∃ a ns b ms, one = .ref a ∧ Pl K H a ns ∧ other = .ref b ∧ Pl K H b ms ∧ 65 < ns.length + ms.length ∧ ∀ t H', Ex H H' → H' t = some (.tup [.str "numbers", .int 64]) → Q (.ref t) H')
theorem r_tUn {r : V → Hp → VK → Prop} {ta : TE} {σ : L2.St} {H : Hp} {Q : VK} (q : ta σ H fun x H1 => r x H1 Q) : tUn r ta σ H Q := q
theorem kn_str {K : PySem.W.Frag} {H : Hp} (z : Str) : Kn K H (.str z) := .inl ⟨"str", by decide, .str z⟩
theorem ok__law_told {P : Program} {w : World} {K : PySem.W.Frag} {mg : Str → Option Value} {base : Heap} (T : Txt K mg) : ∃ fd, FnOk P w K mg base (L2.CX P w) 7 (He.ga K "_law_told") fd ["way", "one", "other"] (spTold K) ∧ Binds K fd ["way", "one", "other"] [] := by
  obtain ⟨fd, F⟩ := T.d__law_told
  obtain ⟨fd_times, F_times, B_times, kb_times_0⟩ := ok_times (P := P) (w := w) (base := base) T
  obtain ⟨fd_divided, F_divided, B_divided, kb_divided_0⟩ := ok_divided (P := P) (w := w) (base := base) T
  obtain ⟨fd_mixed, F_mixed, B_mixed, kb_mixed_0⟩ := ok_mixed (P := P) (w := w) (base := base) T
  obtain ⟨fd_derived, F_derived, B_derived, kb_derived_0⟩ := ok_derived (P := P) (w := w) (base := base) T
  obtain ⟨fd_lessened, F_lessened, B_lessened, kb_lessened_0⟩ := ok_lessened (P := P) (w := w) (base := base) T
  obtain ⟨fd_in_squares, F_in_squares, B_in_squares⟩ := ok_in_squares (P := P) (w := w) (base := base) T
  obtain ⟨fd_shifted, F_shifted, B_shifted, kb_shifted_0⟩ := ok_shifted (P := P) (w := w) (base := base) T
  obtain ⟨fd_Poly_init, F_Poly_init, B_Poly_init, kb_Poly_init_0⟩ := ok_Poly_init (P := P) (w := w) (base := base) T
  obtain ⟨fd_Poly_worth, F_Poly_worth, B_Poly_worth, kb_Poly_worth_0⟩ := ok_Poly_worth (P := P) (w := w) (base := base) T
  refine ⟨fd, F.ok sc__law_told sp3_len (fun cdv A outer s H vs Q E hr h => ?_), F.bindsN fun _ _ _ _ _ _ us hl => match us, hl with | [_, _, _], _ => rfl⟩
  have hr_times : Room 5 _ := hr.mono (by decide)
  have hr_divided : Room 5 _ := hr.mono (by decide)
  have hr_mixed : Room 5 _ := hr.mono (by decide)
  have hr_derived : Room 5 _ := hr.mono (by decide)
  have hr_lessened : Room 5 _ := hr.mono (by decide)
  have hr_in_squares : Room 4 _ := hr.mono (by decide)
  have hr_shifted : Room 6 _ := hr.mono (by decide)
  have hr_Poly_init : Room 4 _ := hr.mono (by decide)
  have hr_Poly_worth : Room 4 _ := hr.mono (by decide)
  obtain ⟨v, one, other, rfl, hh⟩ := sp3_is h
  refine ⟨_, (pss_cons (ps_try_m (Wout := fun _ _ _ _ => False) rfl rfl takes0 (fun W pn xe tk po => (pss_one (ps_if (pt_cmpR op_eq (pv 0) pe_int (nomark _)) (pss_one (ps_expr (pe_callS F_times hr_times (by rfl) T.g_times T.k_times B_times (fun σ => passAt tk σ) (pa_cons (pv 1) (pa_cons (pv 2) pa_nil))))) (pss_one (ps_if (pt_cmpR op_eq (pv 0) pe_int (nomark _)) (pss_one (ps_expr (pe_callS F_divided hr_divided (by rfl) T.g_divided T.k_divided B_divided (fun σ => passAt tk σ) (pa_cons (pv 1) (pa_cons (pv 2) pa_nil))))) (pss_one (ps_if (pt_cmpR op_eq (pv 0) pe_int (nomark _)) (pss_one (ps_expr (pe_callS F_mixed hr_mixed (by rfl) T.g_mixed T.k_mixed B_mixed (fun σ => passAt tk σ) (pa_cons (pv 1) (pa_cons (pv 2) (pa_cons pe_int (pa_cons pe_int pa_nil))))))) (pss_one (ps_if (pt_cmpR op_eq (pv 0) pe_int (nomark _)) (pss_one (ps_expr (pe_callS F_mixed hr_mixed (by rfl) T.g_mixed T.k_mixed B_mixed (fun σ => passAt tk σ) (pa_cons (pv 1) (pa_cons (pv 2) (pa_cons pe_int (pa_cons pe_int pa_nil))))))) (pss_one (ps_if (pt_cmpR op_eq (pv 0) pe_int (nomark _)) (pss_one (ps_expr (pe_callS F_mixed hr_mixed (by rfl) T.g_mixed T.k_mixed B_mixed (fun σ => passAt tk σ) (pa_cons (pv 1) (pa_cons (pv 2) (pa_cons (pe_un un_neg pe_int) (pa_cons pe_str pa_nil))))))) (pss_one (ps_if (pt_cmpR op_eq (pv 0) pe_int (nomark _)) (pss_one (ps_expr (pe_callS F_derived hr_derived (by rfl) T.g_derived T.k_derived B_derived (fun σ => passAt tk σ) (pa_cons (pv 1) pa_nil)))) (pss_one (ps_if (pt_cmpR op_eq (pv 0) pe_int (nomark _)) (pss_one (ps_expr (pe_callS F_lessened hr_lessened (by rfl) T.g_lessened T.k_lessened B_lessened (fun σ => passAt tk σ) (pa_cons (pv 1) pa_nil)))) (pss_one (ps_if (pt_cmpR op_eq (pv 0) pe_int (nomark _)) (pss_one (ps_expr (pe_callS F_in_squares hr_in_squares (by rfl) T.g_in_squares T.k_in_squares B_in_squares (fun σ => passAt tk σ) (pa_cons (pv 1) pa_nil)))) (pss_one (ps_if (pt_cmpR op_eq (pv 0) pe_int (nomark _)) (pss_one (ps_expr (pe_callS F_shifted hr_shifted (by rfl) T.g_shifted T.k_shifted B_shifted (fun σ => passAt tk σ) (pa_cons (pv 1) (pa_cons (pv 2) pa_nil))))) (pss_one (ps_if (pt_cmpR op_eq (pv 0) pe_int (nomark _)) (pss_one (ps_expr (pe_methE (pv 1) T.cl_Poly T.me_Poly_worth F_Poly_worth hr_Poly_worth B_Poly_worth (fun σ => passAt tk σ) (pa_cons (pv 2) pa_nil)))) (pss_one (ps_expr (pe_makeS T.mk_Poly F_Poly_init hr_Poly_init (by rfl) T.g_Poly B_Poly_init (fun σ => passAt tk σ) (pa_cons (pv 1) pa_nil))))))))))))))))))))))))) (MClsOk.cons (MClOk.as (i := 3) (.four ⟨rfl, by decide, Or.inl T.g_BadPoly⟩ ⟨rfl, by decide, Or.inl T.g_BadNumber⟩ ⟨rfl, by decide, Or.inl T.g_BadBound⟩ ⟨rfl, by decide, Or.inl T.g_Misfit⟩) sc__law_told.nd rfl rfl (fun a oe cls d pn hz hf => (pss_one (ps_ret (pe_tup (pa_cons (pe_callB (cr_isX rfl hz hf) (by rfl) T.b_isinstance (by decide +kernel) (pa_cons (pv 3) (pa_cons (pe_glob (v := .ref (He.ga K "BadPoly")) rfl T.g_BadPoly rfl) pa_nil))) (pa_cons (pe_callB (cr_isX rfl hz hf) (by rfl) T.b_isinstance (by decide +kernel) (pa_cons (pv 3) (pa_cons (pe_glob (v := .ref (He.ga K "BadNumber")) rfl T.g_BadNumber rfl) pa_nil))) (pa_cons (pe_callB (cr_isX rfl hz hf) (by rfl) T.b_isinstance (by decide +kernel) (pa_cons (pv 3) (pa_cons (pe_glob (v := .ref (He.ga K "Misfit")) rfl T.g_Misfit rfl) pa_nil))) (pa_cons (pe_xfA rfl hz hf (pv 3)) pa_nil))))))))) (MClsOk.cons (MClOk.as (i := 3) (.name ⟨rfl, by decide, Or.inl T.g_TooMany⟩) sc__law_told.nd rfl rfl (fun a oe cls d pn hz hf => (pss_one (ps_ret (pe_tup (pa_cons (pe_xfA rfl hz hf (pv 3)) (pa_cons (pe_xfA rfl hz hf (pv 3)) pa_nil))))))) (MClsOk.cons (MClOk.bare (.name ⟨rfl, by decide, Or.inl T.g_SignsError⟩) (fun a oe cls d pn hz hf => (pss_one (ps_ret pe_str)))) MClsOk.nil))))
      (pss_one (ps_ret pe_str))), ?_⟩
  rcases hh with ⟨way, x, z, rfl, hx, hz, k⟩ | ⟨rfl, a, ns, b, ms, rfl, ha, rfl, hb, hlen, k⟩
  · have rz : Raised K x "part" (.str z) H _ := told_raise T hx (z := z) (D := { nx := tRet (tC (.str "none")) { nx := fun x H' => Q V.non H', rt := Q }, rt := Q }) (s0 := some (.int (way : Nat))) (s1 := some one) (s2 := some other) (s3 := none) (rest := [([.ref (He.ga K "TooMany")], some 3, fun a cls d => tRet (tTup (tCons (tXfA K a cls d "what" (tVar 3)) (tCons (tXfA K a cls d "most" (tVar 3)) tNil)))), ([.ref (He.ga K "SignsError")], none, fun a cls d => tRet (tC (.str "another")))]) (Wout := fun _ _ _ _ => False) k
    rcases hz with ⟨rfl, rfl, hz⟩ | ⟨rfl, rfl, hz⟩ | ⟨rfl, hz⟩ | ⟨rfl, hz⟩ | ⟨rfl, hz⟩ | ⟨rfl, hz⟩ | ⟨rfl, no, rfl, rfl⟩ | ⟨rfl, no, rfl, rfl⟩ | ⟨rfl, hz⟩ | ⟨rfl, rfl, rfl, a, ns, rfl, ha, kn, hi⟩ | ⟨rfl, rfl, hz⟩
    · walk_at "rd"
      refine ite_t rfl ?_
      walk_at "rd"
      rcases hz with ⟨no, rfl⟩ | ⟨a, ns, rfl, ha, no, rfl⟩
      · exact .inl ⟨no, rz⟩
      · exact .inr ⟨a, ns, rfl, ha, .inl ⟨no, rz⟩⟩
    · walk_at "rd"
      refine ite_f rfl ?_
      walk_at "rd"
      refine ite_t rfl ?_
      walk_at "rd"
      rcases hz with ⟨no, rfl⟩ | ⟨a, ns, rfl, ha, no, rfl⟩
      · exact .inl ⟨no, rz⟩
      · exact .inr ⟨a, ns, rfl, ha, .inl ⟨no, rz⟩⟩
    · walk_at "rd"
      refine ite_f rfl ?_
      walk_at "rd"
      refine ite_f rfl ?_
      walk_at "rd"
      refine ite_t rfl ?_
      walk_at "rd"
      rcases hz with ⟨rfl, ⟨no, rfl⟩ | ⟨a, ns, rfl, ha, no, rfl⟩⟩ | ⟨a, ns, b, ms, rfl, ha, rfl, hb, ne, rfl, rfl⟩
      · exact .inl ⟨no, rz⟩
      · exact .inr ⟨a, ns, rfl, ha, .inl ⟨no, rz⟩⟩
      · exact .inr ⟨a, ns, rfl, ha, .inr ⟨b, ms, rfl, hb, .inr ⟨1, rfl, by decide, .inr ⟨2, rfl, by decide, .inl ⟨ne, rz⟩⟩⟩⟩⟩
    · walk_at "rd"
      refine ite_f rfl ?_
      walk_at "rd"
      refine ite_f rfl ?_
      walk_at "rd"
      refine ite_f rfl ?_
      walk_at "rd"
      refine ite_t rfl ?_
      walk_at "rd"
      rcases hz with ⟨rfl, ⟨no, rfl⟩ | ⟨a, ns, rfl, ha, no, rfl⟩⟩ | ⟨a, ns, b, ms, rfl, ha, rfl, hb, rfl, rfl⟩
      · exact .inl ⟨no, rz⟩
      · exact .inr ⟨a, ns, rfl, ha, .inl ⟨no, rz⟩⟩
      · exact .inr ⟨a, ns, rfl, ha, .inr ⟨b, ms, rfl, hb, .inr ⟨0, rfl, by decide, .inl ⟨kn_int 0, rfl, rz⟩⟩⟩⟩
    · walk_at "rd"
      refine ite_f rfl ?_
      walk_at "rd"
      refine ite_f rfl ?_
      walk_at "rd"
      refine ite_f rfl ?_
      walk_at "rd"
      refine ite_f rfl ?_
      walk_at "rd"
      refine ite_t rfl ?_
      walk_at "rd"
      rcases hz with ⟨rfl, ⟨no, rfl⟩ | ⟨a, ns, rfl, ha, no, rfl⟩⟩ | ⟨a, ns, b, ms, rfl, ha, rfl, hb, rfl, rfl⟩
      · exact .inl ⟨no, rz⟩
      · exact .inr ⟨a, ns, rfl, ha, .inl ⟨no, rz⟩⟩
      · exact .inr ⟨a, ns, rfl, ha, .inr ⟨b, ms, rfl, hb, .inl ⟨kn_int (-1), rfl, rz⟩⟩⟩
    · walk_at "rd"
      refine ite_f rfl ?_
      walk_at "rd"
      refine ite_f rfl ?_
      walk_at "rd"
      refine ite_f rfl ?_
      walk_at "rd"
      refine ite_f rfl ?_
      walk_at "rd"
      refine ite_f rfl ?_
      walk_at "rd"
      refine ite_t rfl ?_
      walk_at "rd"
      rcases hz with ⟨no, rfl, rfl⟩ | ⟨a, ns, rfl, ha, l, rfl, rfl⟩
      · exact .inl ⟨no, rz⟩
      · exact .inr ⟨a, ns, rfl, ha, .inl ⟨l, rz⟩⟩
    · walk_at "rd"
      refine ite_f rfl ?_
      walk_at "rd"
      refine ite_f rfl ?_
      walk_at "rd"
      refine ite_f rfl ?_
      walk_at "rd"
      refine ite_f rfl ?_
      walk_at "rd"
      refine ite_f rfl ?_
      walk_at "rd"
      refine ite_f rfl ?_
      walk_at "rd"
      refine ite_t rfl ?_
      walk_at "rd"
      exact .inl ⟨no, rz⟩
    · walk_at "rd"
      refine ite_f rfl ?_
      walk_at "rd"
      refine ite_f rfl ?_
      walk_at "rd"
      refine ite_f rfl ?_
      walk_at "rd"
      refine ite_f rfl ?_
      walk_at "rd"
      refine ite_f rfl ?_
      walk_at "rd"
      refine ite_f rfl ?_
      walk_at "rd"
      refine ite_f rfl ?_
      walk_at "rd"
      refine ite_t rfl ?_
      walk_at "rd"
      exact ⟨no, rz⟩
    · walk_at "rd"
      refine ite_f rfl ?_
      walk_at "rd"
      refine ite_f rfl ?_
      walk_at "rd"
      refine ite_f rfl ?_
      walk_at "rd"
      refine ite_f rfl ?_
      walk_at "rd"
      refine ite_f rfl ?_
      walk_at "rd"
      refine ite_f rfl ?_
      walk_at "rd"
      refine ite_f rfl ?_
      walk_at "rd"
      refine ite_f rfl ?_
      walk_at "rd"
      refine ite_t rfl ?_
      walk_at "rd"
      rcases hz with ⟨no, rfl, rfl⟩ | ⟨a, ns, rfl, ha, no, rfl, rfl⟩
      · exact .inl ⟨no, rz⟩
      · exact .inr ⟨a, ns, rfl, ha, .inl ⟨no, rz⟩⟩
    · walk_at "rd"
      refine ite_f rfl ?_
      walk_at "rd"
      refine ite_f rfl ?_
      walk_at "rd"
      refine ite_f rfl ?_
      walk_at "rd"
      refine ite_f rfl ?_
      walk_at "rd"
      refine ite_f rfl ?_
      walk_at "rd"
      refine ite_f rfl ?_
      walk_at "rd"
      refine ite_f rfl ?_
      walk_at "rd"
      refine ite_f rfl ?_
      walk_at "rd"
      refine ite_f rfl ?_
      walk_at "rd"
      refine ite_t rfl ?_
      walk_at "rd"
      obtain ⟨_, _, _, dx, t, h4, _⟩ := id ha
      refine ⟨_, rfl, a, dx, _, rfl, h4, rfl, ?_⟩
      walk_at "rd"
      exact ⟨a, ns, rfl, ha, .inr ⟨kn, hi, rz⟩⟩
    · walk_at "rd"
      refine ite_f rfl ?_
      walk_at "rd"
      refine ite_f rfl ?_
      walk_at "rd"
      refine ite_f rfl ?_
      walk_at "rd"
      refine ite_f rfl ?_
      walk_at "rd"
      refine ite_f rfl ?_
      walk_at "rd"
      refine ite_f rfl ?_
      walk_at "rd"
      refine ite_f rfl ?_
      walk_at "rd"
      refine ite_f rfl ?_
      walk_at "rd"
      refine ite_f rfl ?_
      walk_at "rd"
      refine ite_f rfl ?_
      walk_at "rd"
      exact r_PolyNo hz rz
  · walk_at "rd"
    refine ite_t rfl ?_
    walk_at "rd"
    refine .inr ⟨a, ns, rfl, ha, .inr ⟨b, ms, rfl, hb, .inl ⟨hlen, fun d H1 e1 hd => ?_⟩⟩⟩
    have p := T.e_TooMany
    refine r_m0 (exm_two (p.n "BadPoly" (by simp)) (p.n "BadNumber" (by simp)) (p.n "BadBound" (by simp)) (p.n "Misfit" (by simp))) ?_
    refine r_m1 (exm_one (p.y "TooMany" (by simp))) fun x hx => r_mAs ?_
    walk_at "rd"
    refine ⟨_, rfl, rfl, _, d, _, _, rfl, p.xf, p.no_ "what" (by simp), rfl, hd, rfl, ?_⟩
    walk_at "rd"
    refine ⟨_, rfl, rfl, _, d, _, _, rfl, p.xf, p.no_ "most" (by simp), rfl, hd, rfl, ?_⟩
    walk_at "rd"
    exact r_newT (sz_le (by simp)) fun t H2 ht e2 h2 => k t H2 (e1.trans e2) h2
def spShares (K : PySem.W.Frag) : Sp := sp3 fun v x y H Q _ => ∃ (a : Addr) (ns : List Int) (z : Str), v = .ref a ∧ Pl K H a ns ∧ ((Kn K H x ∧ inB x (some 0) none = false ∧ z = "mine") ∨ ∃ i, x = .int i ∧ 0 ≤ i ∧ Kn K H y ∧ inB y (some (if i = 0 then 1 else 0)) none = false ∧ z = "its") ∧ ∀ t H', Ex H H' → H' t = some (.tup [.str "number", .str z]) → Q (.ref t) H'
theorem ok__law_shares {P : Program} {w : World} {K : PySem.W.Frag} {mg : Str → Option Value} {base : Heap} (T : Txt K mg) : ∃ fd, FnOk P w K mg base (L2.CX P w) 6 (He.ga K "_law_shares") fd ["poly", "mine", "its"] (spShares K) ∧ Binds K fd ["poly", "mine", "its"] [] := by
  obtain ⟨fd, F⟩ := T.d__law_shares
  obtain ⟨fd_mixed, F_mixed, B_mixed, kb_mixed_0⟩ := ok_mixed (P := P) (w := w) (base := base) T
  refine ⟨fd, F.ok sc__law_shares sp3_len (fun cdv A outer s H vs Q E hr h => ?_), F.bindsN fun _ _ _ _ _ _ us hl => match us, hl with | [_, _, _], _ => rfl⟩
  have hr_mixed : Room 5 _ := hr.mono (by decide)
  obtain ⟨v, x, y, rfl, a, ns, z, rfl, ha, hz, k⟩ := sp3_is h
  refine ⟨_, (pss_cons (ps_try_m (Wout := fun _ _ _ _ => False) rfl rfl takes0 (fun W pn xe tk po => (pss_one (ps_expr (pe_callS F_mixed hr_mixed (by rfl) T.g_mixed T.k_mixed B_mixed (fun σ => passAt tk σ) (pa_cons (pv 0) (pa_cons (pv 0) (pa_cons (pv 1) (pa_cons (pv 2) pa_nil)))))))) (MClsOk.cons (MClOk.as (i := 3) (.name ⟨rfl, by decide, Or.inl T.g_BadNumber⟩) sc__law_shares.nd rfl rfl (fun a oe cls d pn hz hf => (pss_one (ps_ret (pe_tup (pa_cons pe_str (pa_cons (pe_xfA rfl hz hf (pv 3)) pa_nil))))))) (MClsOk.cons (MClOk.bare (.name ⟨rfl, by decide, Or.inl T.g_SignsError⟩) (fun a oe cls d pn hz hf => (pss_one (ps_ret (pe_tup (pa_cons pe_str pa_nil)))))) MClsOk.nil)))
      (pss_one (ps_ret (pe_tup (pa_cons pe_str pa_nil))))), ?_⟩
  have p := T.e_BadNumber
  have rz : ∀ {D : Ends} {s0 s1 s2 s3 : Option V} {rest : List MCl} {Wout : WX}, (∀ t H', Ex H H' → H' t = some (.tup [.str "number", .str z]) → D.rt (.ref t) H') → Raised K "BadNumber" "part" (.str z) H fun cls d H' => wMCls K Wout D (([.ref (He.ga K "BadNumber")], some 3, fun a cls d => tRet (tTup (tCons (tC (V.str "number")) (tCons (tXfA K a cls d "part" (tVar 3)) tNil)))) :: rest) cls d [s0, s1, s2, s3] H' := by
    intro D s0 s1 s2 s3 rest Wout hk d H1 e1 hd
    refine r_m1 (exm_one (p.y "BadNumber" (by simp))) fun x hx => r_mAs ?_
    walk_at "rd"
    refine ⟨_, rfl, rfl, _, d, _, _, rfl, p.xf, p.no_ "part" (by simp), rfl, hd, rfl, ?_⟩
    walk_at "rd"
    exact r_newT (sz_le (by simp)) fun t H2 ht e2 h2 => hk t H2 (e1.trans e2) h2
  walk_at "rd"
  rcases hz with ⟨kn, hi, rfl⟩ | ⟨i, rfl, i0, kn, hi, rfl⟩
  · exact .inr ⟨a, ns, rfl, ha, .inr ⟨a, ns, rfl, ha, .inl ⟨kn, hi, rz k⟩⟩⟩
  · exact .inr ⟨a, ns, rfl, ha, .inr ⟨a, ns, rfl, ha, .inr ⟨i, rfl, i0, .inl ⟨kn, hi, rz k⟩⟩⟩⟩

end K04
namespace K04
open PySem PySem.Spec PyProof.Rows L2 GS TL
local macro_rules | `(tactic| walk_at "rd") => `(tactic| (repeat (first
  | with_reducible refine r_next ?_
  | with_reducible refine r_seq ?_
  | with_reducible refine r_ret ?_
  | with_reducible refine r_ifS ?_
  | with_reducible refine r_asg ?_
  | with_reducible refine r_drop ?_
  | with_reducible refine r_op ?_
  | with_reducible refine r_un ?_
  | with_reducible refine r_cbInt ?_
  | with_reducible refine r_cbAbs ?_
  | with_reducible refine r_cbLen ?_
  | with_reducible refine r_cbList ?_
  | with_reducible refine r_cbTup ?_
  | with_reducible refine r_iEnT ?_
  | with_reducible refine r_iEnL ?_
  | with_reducible refine r_zipA ?_
  | with_reducible refine r_augS ?_
  | with_reducible refine r_cb ?_
  | with_reducible refine r_call ?_
  | with_reducible refine r_make ?_
  | with_reducible refine r_callN0 ?_
  | with_reducible refine r_makeK0 ?_
  | with_reducible refine r_makeS ?_
  | with_reducible refine r_callS ?_
  | with_reducible refine r_cons ?_
  | with_reducible refine r_nil ?_
  | with_reducible refine r_test ?_
  | with_reducible refine r_B ?_
  | with_reducible refine r_and ?_
  | with_reducible refine r_or ?_
  | with_reducible refine r_not ?_
  | with_reducible refine r_andV ?_
  | with_reducible refine r_orV ?_
  | with_reducible refine r_notV ?_
  | with_reducible refine r_if ?_
  | with_reducible refine r_tup ?_
  | with_reducible refine r_lst ?_
  | with_reducible refine r_c ?_
  | with_reducible refine r_lc ?_
  | with_reducible refine r_chain ?_
  | with_reducible refine r_iT ?_
  | with_reducible refine r_iL ?_
  | with_reducible refine r_iR1 ?_
  | with_reducible refine r_iR2 ?_
  | with_reducible refine r_iR3 ?_
  | with_reducible refine r_asgG ?_
  | with_reducible refine r_gSub ?_
  | with_reducible refine r_for ?_
  | with_reducible refine r_smeth ?_
  | with_reducible refine r_par ?_
  | with_reducible refine r_parK ?_
  | with_reducible refine r_gCons ?_
  | with_reducible refine r_gNil ?_
  | with_reducible refine r_gName ?_
  | with_reducible refine r_intI ?_
  | with_reducible refine r_intB ?_
  | with_reducible refine r_absI ?_
  | with_reducible refine r_k ?_
  | with_reducible refine r_kV ?_
  | ((with_reducible show tVar _ _ _ _); refine r_var3 ?_ (by rfl))
  | with_reducible refine r_I0 ?_
  | with_reducible refine r_U ?_
  | with_reducible refine r_eqI ?_
  | with_reducible refine r_neI ?_
  | dsimp only)))
local macro_rules | `(tactic| walk_at "rx") => `(tactic| (repeat (first
  | with_reducible refine r_next ?_
  | with_reducible refine r_ret ?_
  | with_reducible refine r_ifS ?_
  | with_reducible refine r_asg ?_
  | with_reducible refine r_drop ?_
  | with_reducible refine r_op ?_
  | with_reducible refine r_un ?_
  | with_reducible refine r_cbInt ?_
  | with_reducible refine r_cbAbs ?_
  | with_reducible refine r_cbLen ?_
  | with_reducible refine r_cbList ?_
  | with_reducible refine r_cbTup ?_
  | with_reducible refine r_iEnT ?_
  | with_reducible refine r_iEnL ?_
  | with_reducible refine r_zipA ?_
  | with_reducible refine r_augS ?_
  | with_reducible refine r_cb ?_
  | with_reducible refine r_call ?_
  | with_reducible refine r_make ?_
  | with_reducible refine r_callN0 ?_
  | with_reducible refine r_makeK0 ?_
  | with_reducible refine r_makeS ?_
  | with_reducible refine r_callS ?_
  | with_reducible refine r_cons ?_
  | with_reducible refine r_nil ?_
  | with_reducible refine r_test ?_
  | with_reducible refine r_B ?_
  | with_reducible refine r_and ?_
  | with_reducible refine r_or ?_
  | with_reducible refine r_not ?_
  | with_reducible refine r_andV ?_
  | with_reducible refine r_orV ?_
  | with_reducible refine r_notV ?_
  | with_reducible refine r_if ?_
  | with_reducible refine r_tup ?_
  | with_reducible refine r_lst ?_
  | with_reducible refine r_c ?_
  | with_reducible refine r_lc ?_
  | with_reducible refine r_chain ?_
  | with_reducible refine r_iT ?_
  | with_reducible refine r_iL ?_
  | with_reducible refine r_iR1 ?_
  | with_reducible refine r_iR2 ?_
  | with_reducible refine r_iR3 ?_
  | with_reducible refine r_asgG ?_
  | with_reducible refine r_gSub ?_
  | with_reducible refine r_for ?_
  | with_reducible refine r_smeth ?_
  | with_reducible refine r_par ?_
  | with_reducible refine r_parK ?_
  | with_reducible refine r_gCons ?_
  | with_reducible refine r_gNil ?_
  | with_reducible refine r_gName ?_
  | with_reducible refine r_intI ?_
  | with_reducible refine r_intB ?_
  | with_reducible refine r_absI ?_
  | with_reducible refine r_k ?_
  | with_reducible refine r_kV ?_
  | ((with_reducible show tVar _ _ _ _); refine r_var3 ?_ (by rfl))
  | with_reducible refine r_I0 ?_
  | with_reducible refine r_U ?_
  | with_reducible refine r_eqI ?_
  | with_reducible refine r_neI ?_
  | dsimp only)))
/-! ### what is refused -/
theorem no5 {K : PySem.W.Frag} {mg : Str → Option Value} (T : Txt K mg) : ∀ t ∈ ["int", "str", "NoneType", "list", "tuple"], PySem.W.kitOne K (.ref (He.ga K "Poly")) (.type t) = some false := fun t ht => (T.cc_Poly.ty t (by revert ht; simp [tys]; intro h; rcases h with h | h | h | h | h <;> simp [h])).2.1
def spBEq (K : PySem.W.Frag) : Sp := sp2 fun v o H Q E => ∃ a w p u, v = .ref a ∧ Bd K H a w p u ∧ No K "Bound" H o ∧ Q (.bl false) H
theorem ok_Bound_eq {P : Program} {w : World} {K : PySem.W.Frag} {mg : Str → Option Value} {base : Heap} (T : Txt K mg) : ∃ fd, FnOk P w K mg base (L2.CX P w) 1 (He.ma K (He.ga K "Bound") "__eq__") fd ["self", "other"] (spBEq K) ∧ Binds K fd ["self", "other"] [] := by
  obtain ⟨fd, F⟩ := T.d_Bound_eq
  refine ⟨fd, F.ok sc_Bound_eq sp2_len (fun cdv A outer s H vs Q E hr h => ?_), F.bindsN fun _ _ _ _ _ _ us hl => match us, hl with | [_, _], _ => rfl⟩
  obtain ⟨v, o, rfl, a, w1, p, u, rfl, hb, no, k⟩ := sp2_is h
  refine ⟨_, (pss_cons (ps_if (pt_not (pt_val (pe_callB (cr_isi rfl) (by rfl) T.b_isinstance (by decide +kernel) (pa_cons (pv 1) (pa_cons (pe_glob (v := .ref (He.ga K "Bound")) rfl T.g_Bound rfl) pa_nil))))) (pss_one (ps_ret pe_bl)) pss_nil)
      (pss_one (ps_ret (pe_and (pe_cmpR op_eq (kx_fld rfl (pv 0) rfl) (kx_fld rfl (pv 1) rfl) (nomark _)) (pe_and (pe_cmpR op_eq (kx_fld rfl (pv 0) rfl) (kx_fld rfl (pv 1) rfl) (nomark _)) (pe_one (pe_cmpR op_eq (kx_fld rfl (pv 0) rfl) (kx_fld rfl (pv 1) rfl) (nomark _)))))))), ?_⟩
  walk_at "rd"
  obtain ⟨t, ht, hk, _⟩ := no_not T (by decide) no
  refine ⟨_, _, _, _, false, rfl, .own _, ht, hk, ?_⟩
  walk_at "rd"
  refine ite_t rfl ?_
  walk_at "rd"
  exact k
/-! ### lists of tuples of plain values -/
def toD : V → PyData
  | .non => .none
  | .bl b => .bool b
  | .int i => .int i
  | .str z => .str z
  | _ => .none
def scB : V → Bool
  | .non => true
  | .bl _ => true
  | .int _ => true
  | .str _ => true
  | _ => false
theorem dp_toD {K : PySem.W.Frag} {H : Hp} {v : V} (h : scB v = true) : Dp K H v (toD v) := by
  cases v with
  | non => exact .non
  | bl b => exact .bl b
  | int i => exact .int i
  | str z => exact .str z
  | _ => cases h
theorem dpA_toD {K : PySem.W.Frag} {H : Hp} : ∀ {t : List V}, t.all scB = true → DpAll K H t (t.map toD)
  | [], _ => .nil
  | v :: t, h => by
    obtain ⟨h1, h2⟩ := Bool.and_eq_true_iff.mp (show (scB v && t.all scB) = true from h)
    exact .cons (dp_toD h1) (dpA_toD h2)
def TRs (H : Hp) : List V → List (List V) → Prop
  | [], [] => True
  | y :: ys, t :: ts => (∃ a, y = .ref a ∧ H a = some (.tup t)) ∧ TRs H ys ts
  | _, _ => False
theorem TRs.ex {H H' : Hp} : ∀ {ys : List V} {ts : List (List V)}, TRs H ys ts → Ex H H' → TRs H' ys ts
  | [], [], _, _ => trivial
  | _ :: _, _ :: _, ⟨⟨t, h1, h2⟩, r⟩, e => ⟨⟨t, h1, e _ _ h2⟩, TRs.ex r e⟩
theorem TRs.append {H : Hp} : ∀ {ys zs : List V} {ps qs : List (List V)}, TRs H ys ps → TRs H zs qs → TRs H (ys ++ zs) (ps ++ qs)
  | [], _, [], _, _, b => b
  | _ :: _, _, _ :: _, _, ⟨h, r⟩, b => ⟨h, TRs.append r b⟩
theorem TRs.len {H : Hp} : ∀ {ys : List V} {ts : List (List V)}, TRs H ys ts → ys.length = ts.length
  | [], [], _ => rfl
  | _ :: _, _ :: _, ⟨_, r⟩ => by rw [List.length_cons, List.length_cons, TRs.len r]
theorem TRs.one {H : Hp} {a : Addr} {t : List V} (h : H a = some (.tup t)) : TRs H [.ref a] [t] := ⟨⟨a, rfl, h⟩, trivial⟩
theorem TRs.of_ix {H : Hp} : ∀ {ys : List V} {ts : List (List V)}, ys.length = ts.length → (∀ (i : Nat) (y : V) (t : List V), ys[i]? = some y → ts[i]? = some t → ∃ a, y = .ref a ∧ H a = some (.tup t)) → TRs H ys ts
  | [], [], _, _ => trivial
  | y :: ys, t :: ts, l, h => ⟨h 0 y t rfl rfl, TRs.of_ix (Nat.succ.inj l) fun i y' t' a b => h (i + 1) y' t' a b⟩
def rowD' (ts : List (List V)) : List PyData := ts.map fun t => .tuple (t.map toD)
theorem TRs.dp {K : PySem.W.Frag} {H : Hp} : ∀ {ys : List V} {ts : List (List V)}, TRs H ys ts → ts.all (fun t => t.all scB) = true → DpAll K H ys (rowD' ts)
  | [], [], _, _ => .nil
  | _ :: _, t :: ts, ⟨⟨a, h1, h2⟩, r⟩, sc => by
    obtain ⟨s1, s2⟩ := Bool.and_eq_true_iff.mp (show (t.all scB && ts.all fun t => t.all scB) = true from sc)
    subst h1
    exact .cons (.tup (SqT.of h2) (dpA_toD s1)) (TRs.dp r s2)
theorem r_neRows {K : PySem.W.Frag} {H : Hp} {Q : VK} {p q : Addr} {ys zs : List V} (ts : List (List V)) (h1 : H p = some (.lst ys)) (h2 : H q = some (.lst zs)) (a : TRs H ys ts) (b : TRs H zs ts) (sc : ts.all (fun t => t.all scB) = true) (hs : SeqAt.shaped (.list (rowD' ts)) = true) (he : PyData.eqv (.list (rowD' ts)) (.list (rowD' ts)) = true) (k : Q (.bl false) H) : rNeD K (.ref p) (.ref q) H Q :=
  ⟨_, _, .lst (SqL.of h1) (a.dp sc), .lst (SqL.of h2) (b.dp sc), hs, hs, by rw [he]; exact k⟩
theorem r_catT {K : PySem.W.Frag} {H : Hp} {Q : VK} {a b : Addr} {xs ys : List V} (h1 : H a = some (.tup xs)) (h2 : H b = some (.tup ys)) (n1 : xs ≠ []) (n2 : ys ≠ []) (hz : xs.length + ys.length ≤ 1000) (q : ∀ p H', H p = none → Ex H H' → H' p = some (.tup (xs ++ ys)) → Q (.ref p) H') : rCatT K (.ref a) (.ref b) H Q :=
  ⟨a, b, xs, ys, rfl, rfl, SqT.of h1, SqT.of h2, n1, sz_le (by omega), fun z => absurd z n2, fun _ p hp => q p _ hp (Ex.new hp) upd_same⟩
theorem r_rep4 {H : Hp} {Q : VK} {q : Addr} {x : V} (h : H q = some (.lst [x])) (g : ∀ p H', H p = none → Ex H H' → H' p = some (.lst [x, x, x, x]) → Q (.ref p) H') : rRep (.ref q) (.int 4) H Q :=
  ⟨q, 4, [x], rfl, rfl, h, by decide, by decide, sz_le (by show 1 * 4 ≤ _; decide), fun p hp => g p _ hp (Ex.new hp) upd_same⟩
theorem r_Told {K : PySem.W.Frag} {H : Hp} {Q : VK} {E : XK} {one other : V} {way : Nat} {v : V} {x z : Str} (hv : v = .int ((way : Nat) : Int)) (hx : x ∈ four) (hz : Rz K H one other way x z) (q : ∀ t H', Ex H H' → H' t = some (.tup (tR x z)) → Q (.ref t) H') : spTold K ([v, one, other] ++ []) H Q E := .inl ⟨way, x, z, hv, hx, hz, q⟩
/-- a row of words, each put behind a tuple of three -/
theorem words_lc {K : PySem.W.Frag} {L P : Addr} {ws : List Str} {tp : List V} {σ : L2.St} {H1 : Hp} {Q : VK} {ip : Nat} (hL : H1 L = some (.lst (ws.map V.str))) (hP : H1 P = some (.tup tp)) (np : tp ≠ []) (lp : tp.length ≤ 10) (lw : ws.length ≤ 100)
    (hw : ∀ x, wipe ((wipe σ [8]).set 8 (some x)) [8] = wipe σ [8]) (hv : ∀ x, ((wipe σ [8]).set 8 (some x))[ip]? = some (some (.ref P)) ∧ ((wipe σ [8]).set 8 (some x))[8]? = some (some x))
    (q : ∀ p ys H', H1 p = none → Ex H1 H' → H' p = some (.lst ys) → TRs H' ys (ws.map fun z => tp ++ [.str z]) → Q (.ref p) H') : lcB (Itl K L) (gName 8) tYes (tOp (rCatT K) (tVar ip) (tTup (tCons (tVar 8) tNil))) [8] σ Q H1 := by
  refine r_lcI (k := 8) (walk_list (xs := ws.map V.str)) (fun i => tp ++ [(ws.map V.str).getD i .non]) (by simp; omega) (fun H' e => e.sql (SqL.of hL)) hw ?_ ?_
  · rintro j z H0 H' hj e0 ⟨rfl, hz⟩
    refine ⟨Ex.refl _, fun R r => ?_⟩
    have g : (ws.map V.str).getD j .non = z := by rw [List.getD_eq_getElem?_getD, hz]; rfl
    rw [g] at r
    refine ⟨_, (hv z).1, ?_⟩
    show tTup _ _ _ _
    refine r_tup (r_cons ⟨_, (hv z).2, r_nil (r_newT (sz_le (by simp)) fun t H3 _ e3 h3 => ?_)⟩)
    exact r_catT ((e0.trans e3) _ _ hP) h3 np (by simp) (by simp; omega) fun t2 H4 _ e4 h4 => r t2 H4 (e3.trans e4) h4
  · intro p ys H' hp e h l it
    refine q p ys H' hp e h (TRs.of_ix (by simp [l]) fun i y t h1 h2 => ?_)
    obtain ⟨a, h3, h4⟩ := it i y h1
    refine ⟨a, h3, ?_⟩
    rw [List.getElem?_map] at h2
    have il := (List.getElem?_eq_some_iff.mp h1).1
    rw [l, List.length_map] at il
    rw [List.getElem?_eq_getElem il] at h2
    cases h2
    rw [h4, List.getD_eq_getElem?_getD, List.getElem?_map, List.getElem?_eq_getElem il]
    rfl
theorem tr_poly (z : Str) : [V.bl true, .bl false, .bl false] ++ [.str z] = tR "BadPoly" z := by
  have h1 : flag "BadPoly" "BadPoly" = .bl true := by decide +kernel
  have h2 : flag "BadPoly" "BadNumber" = .bl false := by decide +kernel
  have h3 : flag "BadPoly" "Misfit" = .bl false := by decide +kernel
  rw [tR, h1, h2, h3]
  rfl
theorem tr_num (z : Str) : [V.bl false, .bl true, .bl false] ++ [.str z] = tR "BadNumber" z := by
  have h1 : flag "BadNumber" "BadPoly" = .bl false := by decide +kernel
  have h2 : flag "BadNumber" "BadNumber" = .bl true := by decide +kernel
  have h3 : flag "BadNumber" "Misfit" = .bl false := by decide +kernel
  rw [tR, h1, h2, h3]
  rfl
theorem tr_mis (z : Str) : [V.bl false, .bl false, .bl true] ++ [.str z] = tR "Misfit" z := by
  have h1 : flag "Misfit" "BadPoly" = .bl false := by decide +kernel
  have h2 : flag "Misfit" "BadNumber" = .bl false := by decide +kernel
  have h3 : flag "Misfit" "Misfit" = .bl true := by decide +kernel
  rw [tR, h1, h2, h3]
  rfl
theorem tr_bnd (z : Str) : [V.bl false, .bl false, .bl false, .str z] = tR "BadBound" z := by
  have h1 : flag "BadBound" "BadPoly" = .bl false := by decide +kernel
  have h2 : flag "BadBound" "BadNumber" = .bl false := by decide +kernel
  have h3 : flag "BadBound" "Misfit" = .bl false := by decide +kernel
  rw [tR, h1, h2, h3]
def wo : List Str := ["one", "poly", "one", "one", "one", "poly", "poly", "poly", "poly"]
def wm : List Str := ["other", "by", "other", "other", "other"]
theorem rz_odd {K : PySem.W.Frag} {H : Hp} {v : V} (no : No K "Poly" H v) : ∀ i, i < 9 → ∀ z, wo[i]? = some z → Rz K H v v i "BadPoly" z
  | 0, _, z, h => by cases h; exact .inl ⟨rfl, rfl, .inl ⟨no, rfl⟩⟩
  | 1, _, z, h => by cases h; exact .inr (.inl ⟨rfl, rfl, .inl ⟨no, rfl⟩⟩)
  | 2, _, z, h => by cases h; exact .inr (.inr (.inl ⟨rfl, .inl ⟨rfl, .inl ⟨no, rfl⟩⟩⟩))
  | 3, _, z, h => by cases h; exact .inr (.inr (.inr (.inl ⟨rfl, .inl ⟨rfl, .inl ⟨no, rfl⟩⟩⟩)))
  | 4, _, z, h => by cases h; exact .inr (.inr (.inr (.inr (.inl ⟨rfl, .inl ⟨rfl, .inl ⟨no, rfl⟩⟩⟩))))
  | 5, _, z, h => by cases h; exact .inr (.inr (.inr (.inr (.inr (.inl ⟨rfl, .inl ⟨no, rfl, rfl⟩⟩)))))
  | 6, _, z, h => by cases h; exact .inr (.inr (.inr (.inr (.inr (.inr (.inl ⟨rfl, no, rfl, rfl⟩))))))
  | 7, _, z, h => by cases h; exact .inr (.inr (.inr (.inr (.inr (.inr (.inr (.inl ⟨rfl, no, rfl, rfl⟩)))))))
  | 8, _, z, h => by cases h; exact .inr (.inr (.inr (.inr (.inr (.inr (.inr (.inr (.inl ⟨rfl, .inl ⟨no, rfl, rfl⟩⟩))))))))
theorem rz_mine {K : PySem.W.Frag} {H : Hp} {a : Addr} {ns : List Int} {v : V} (ha : Pl K H a ns) (no : No K "Poly" H v) : ∀ i, i < 5 → ∀ z, wm[i]? = some z → Rz K H (.ref a) v i "BadPoly" z
  | 0, _, z, h => by cases h; exact .inl ⟨rfl, rfl, .inr ⟨a, ns, rfl, ha, no, rfl⟩⟩
  | 1, _, z, h => by cases h; exact .inr (.inl ⟨rfl, rfl, .inr ⟨a, ns, rfl, ha, no, rfl⟩⟩)
  | 2, _, z, h => by cases h; exact .inr (.inr (.inl ⟨rfl, .inl ⟨rfl, .inr ⟨a, ns, rfl, ha, no, rfl⟩⟩⟩))
  | 3, _, z, h => by cases h; exact .inr (.inr (.inr (.inl ⟨rfl, .inl ⟨rfl, .inr ⟨a, ns, rfl, ha, no, rfl⟩⟩⟩)))
  | 4, _, z, h => by cases h; exact .inr (.inr (.inr (.inr (.inl ⟨rfl, .inl ⟨rfl, .inr ⟨a, ns, rfl, ha, no, rfl⟩⟩⟩))))
/-- told, way by way -/
theorem ways_lc {K : PySem.W.Frag} {n : Nat} {one other : V} {ws : List Str} {σ : L2.St} {H1 : Hp} {Q : VK} {i1 i2 : Nat} (ln : ws.length = n) (hn : n ≤ 20)
    (rz : ∀ H', Ex H1 H' → ∀ i, i < n → ∀ z, ws[i]? = some z → Rz K H' one other i "BadPoly" z)
    (hw : ∀ x, wipe ((wipe σ [7]).set 7 (some x)) [7] = wipe σ [7]) (hv : ∀ x, ((wipe σ [7]).set 7 (some x))[7]? = some (some x) ∧ ((wipe σ [7]).set 7 (some x))[i1]? = some (some one) ∧ ((wipe σ [7]).set 7 (some x))[i2]? = some (some other))
    (q : ∀ p ys H', H1 p = none → Ex H1 H' → H' p = some (.lst ys) → TRs H' ys (ws.map (tR "BadPoly")) → Q (.ref p) H') : lcB (Itr 0 n) (gName 7) tYes (tCall (spTold K) [] E0 (tCons (tVar 7) (tCons (tVar i1) (tCons (tVar i2) tNil)))) [7] σ Q H1 := by
  refine r_lcI (k := 7) (walk_range (lo := 0) (n := n)) (fun i => tR "BadPoly" (ws.getD i "")) (by omega) (fun _ _ => trivial) hw ?_ ?_
  · rintro j z H0 H' hj e0 ⟨rfl, rfl⟩
    refine ⟨Ex.refl _, fun R r => ?_⟩
    have hj' : j < ws.length := by omega
    refine r_call (r_cons ⟨_, (hv _).1, r_cons ⟨_, (hv _).2.1, r_cons ⟨_, (hv _).2.2, r_nil ?_⟩⟩⟩)
    refine r_Told (by show V.int (0 + (j : Int)) = _; rw [Int.zero_add]) (by simp) (rz _ e0 j hj ws[j] (by simp)) fun t H4 e4 h4 => r t H4 e4 ?_
    rw [h4, List.getD_eq_getElem?_getD, List.getElem?_eq_getElem hj']
    rfl
  · intro p ys H' hp e h l it
    refine q p ys H' hp e h (TRs.of_ix (by simp [l, ln]) fun i y t h1 h2 => ?_)
    obtain ⟨a, h3, h4⟩ := it i y h1
    refine ⟨a, h3, ?_⟩
    have il := (List.getElem?_eq_some_iff.mp h1).1
    rw [l, ← ln] at il
    rw [List.getElem?_map, List.getElem?_eq_getElem il] at h2
    cases h2
    rw [h4, List.getD_eq_getElem?_getD, List.getElem?_eq_getElem il]
    rfl
/-- pairs of shares, one after the other -/
theorem shares_lc {K : PySem.W.Frag} {L a : Addr} {ns : List Int} {ts : List (V × V)} {zs : List Str} {σ : L2.St} {H1 : Hp} {Q : VK} {xs : List V} (hL : H1 L = some (.lst xs)) (ha : Pl K H1 a ns) (hT : TRs H1 xs (ts.map fun t => [t.1, t.2])) (lz : zs.length = ts.length) (lt : ts.length ≤ 100)
    (rz : ∀ (i : Nat) (t : V × V) (z : Str), ts[i]? = some t → zs[i]? = some z → ∀ H', (Kn K H' t.1 ∧ inB t.1 (some 0) none = false ∧ z = "mine") ∨ ∃ i, t.1 = .int i ∧ 0 ≤ i ∧ Kn K H' t.2 ∧ inB t.2 (some (if i = 0 then 1 else 0)) none = false ∧ z = "its")
    (hw : ∀ x y, wipe (((wipe σ [10, 11]).set 10 (some x)).set 11 (some y)) [10, 11] = wipe σ [10, 11]) (hv : ∀ x y, (((wipe σ [10, 11]).set 10 (some x)).set 11 (some y))[2]? = some (some (.ref a)) ∧ (((wipe σ [10, 11]).set 10 (some x)).set 11 (some y))[10]? = some (some x) ∧ (((wipe σ [10, 11]).set 10 (some x)).set 11 (some y))[11]? = some (some y))
    (q : ∀ p ys H', H1 p = none → Ex H1 H' → H' p = some (.lst ys) → TRs H' ys (zs.map fun z => [.str "number", .str z]) → Q (.ref p) H') : lcB (Itl K L) (gTup K 2 (gCons (gName 10) (gCons (gName 11) gNil))) tYes (tCall (spShares K) [] E0 (tCons (tVar 2) (tCons (tVar 10) (tCons (tVar 11) tNil)))) [10, 11] σ Q H1 := by
  have ix : ∀ {xs : List V} {ts : List (List V)}, TRs H1 xs ts → ∀ {i : Nat} {y : V}, xs[i]? = some y → ∃ a t, y = .ref a ∧ ts[i]? = some t ∧ H1 a = some (.tup t) := by
    intro xs
    induction xs with
    | nil => intro ts _ i y h; simp at h
    | cons x xs ih =>
      intro ts hT i y h
      cases ts with
      | nil => exact absurd hT id
      | cons t ts =>
        obtain ⟨⟨a, rfl, h2⟩, r⟩ := hT
        cases i with
        | zero => cases h; exact ⟨a, t, rfl, rfl, h2⟩
        | succ i => exact ih r h
  have lx : xs.length = ts.length := by rw [hT.len, List.length_map]
  refine r_lcP (n := ts.length) (by rw [← lx]; exact walk_list (xs := xs)) (fun D i ys H' => ys.length = i ∧ ∀ j, j < i → ∃ t z, ys[j]? = some (.ref t) ∧ t ≠ D ∧ zs[j]? = some z ∧ H' t = some (.tup [.str "number", .str z])) (by omega) (fun H' e => e.sql (SqL.of hL)) (fun _ _ _ => ⟨rfl, fun j hj => absurd hj (by omega)⟩) ?_ ?_ ?_
  · rintro D i ys H2 H3 ⟨l, g⟩ bu
    exact ⟨l, fun j hj => let ⟨t, z, h1, h2, h3, h4⟩ := g j hj; ⟨t, z, h1, h2, h3, bu _ _ h2 h4⟩⟩
  · rintro D i x ys H2 H3 hi hD e2 hd ⟨l, g⟩ ⟨rfl, hx⟩ N hN
    obtain ⟨b, t, rfl, ht, hb⟩ := ix hT hx
    rw [List.getElem?_map] at ht
    cases hti : ts[i]? with
    | none => rw [hti] at ht; cases ht
    | some tt =>
      rw [hti] at ht
      cases ht
      have hz : zs[i]? = some zs[i] := by rw [List.getElem?_eq_getElem]
      refine r_gTup (e2 _ _ hb) rfl (r_gCons (r_gName (r_gCons (r_gName (r_gNil ⟨hw _ _, ?_⟩)))))
      refine r_call (r_cons ⟨_, (hv _ _).1, r_cons ⟨_, (hv _ _).2.1, r_cons ⟨_, (hv _ _).2.2, r_nil ?_⟩⟩⟩)
      refine ⟨a, ns, zs[i], rfl, ha.ex e2, rz i tt _ hti hz _, fun t H4 e4 h4 => hN _ H4 e4 ⟨by rw [List.length_append, l]; rfl, fun j hj => ?_⟩⟩
      by_cases cj : j < i
      · obtain ⟨t', z', h1, h2, h3, h5⟩ := g j cj
        exact ⟨t', z', by rw [List.getElem?_append_left (by omega)]; exact h1, h2, h3, e4 _ _ h5⟩
      · obtain rfl : j = i := by omega
        refine ⟨t, _, by rw [List.getElem?_append_right (by omega), l, Nat.sub_self]; rfl, ?_, hz, h4⟩
        rintro rfl
        rw [e4 _ _ hd] at h4
        cases h4
  · rintro D ys H2 hD e2 hl l ⟨_, g⟩
    refine q D ys H2 hD e2 hl (TRs.of_ix (by rw [List.length_map]; omega) fun i y t h1 h2 => ?_)
    have il := (List.getElem?_eq_some_iff.mp h1).1
    obtain ⟨t', z', h3, _, h5, h6⟩ := g i (by omega)
    rw [h1] at h3
    cases h3
    rw [List.getElem?_map, h5] at h2
    cases h2
    exact ⟨t', rfl, h6⟩
/-- the shares that are refused -/
def shs : List (V × V) := [(.int 1, .int (-1)), (.int 2, .bl true), (.int 0, .int 0), (.int 0, .non), (.bl true, .int 1), (.non, .int 0), (.int (-1), .int 1), (.str "1", .int 2)]
def shz : List Str := ["its", "its", "its", "its", "mine", "mine", "mine", "mine"]
theorem shs_rz {K : PySem.W.Frag} : ∀ (i : Nat) (t : V × V) (z : Str), shs[i]? = some t → shz[i]? = some z → ∀ H', (Kn K H' t.1 ∧ inB t.1 (some 0) none = false ∧ z = "mine") ∨ ∃ i, t.1 = .int i ∧ 0 ≤ i ∧ Kn K H' t.2 ∧ inB t.2 (some (if i = 0 then 1 else 0)) none = false ∧ z = "its"
  | 0, _, _, h1, h2, _ => by cases h1; cases h2; exact .inr ⟨1, rfl, by decide, kn_int _, rfl, rfl⟩
  | 1, _, _, h1, h2, _ => by cases h1; cases h2; exact .inr ⟨2, rfl, by decide, .inl ⟨"bool", by decide, .bl _⟩, rfl, rfl⟩
  | 2, _, _, h1, h2, _ => by cases h1; cases h2; exact .inr ⟨0, rfl, by decide, kn_int _, rfl, rfl⟩
  | 3, _, _, h1, h2, _ => by cases h1; cases h2; exact .inr ⟨0, rfl, by decide, .inl ⟨"NoneType", by decide, .non⟩, rfl, rfl⟩
  | 4, _, _, h1, h2, _ => by cases h1; cases h2; exact .inl ⟨.inl ⟨"bool", by decide, .bl _⟩, rfl, rfl⟩
  | 5, _, _, h1, h2, _ => by cases h1; cases h2; exact .inl ⟨.inl ⟨"NoneType", by decide, .non⟩, rfl, rfl⟩
  | 6, _, _, h1, h2, _ => by cases h1; cases h2; exact .inl ⟨kn_int _, rfl, rfl⟩
  | 7, _, _, h1, h2, _ => by cases h1; cases h2; exact .inl ⟨kn_str _, rfl, rfl⟩
  | i + 8, _, _, h1, _, _ => by cases h1

end K04
namespace K04
open PySem PySem.Spec PyProof.Rows L2 GS TL
local macro_rules | `(tactic| walk_at "rd") => `(tactic| (repeat (first
  | with_reducible refine r_next ?_
  | with_reducible refine r_seq ?_
  | with_reducible refine r_ret ?_
  | with_reducible refine r_ifS ?_
  | with_reducible refine r_asg ?_
  | with_reducible refine r_drop ?_
  | with_reducible refine r_op ?_
  | with_reducible refine r_un ?_
  | with_reducible refine r_cbInt ?_
  | with_reducible refine r_cbAbs ?_
  | with_reducible refine r_cbLen ?_
  | with_reducible refine r_cbList ?_
  | with_reducible refine r_cbTup ?_
  | with_reducible refine r_iEnT ?_
  | with_reducible refine r_iEnL ?_
  | with_reducible refine r_zipA ?_
  | with_reducible refine r_augS ?_
  | with_reducible refine r_cb ?_
  | with_reducible refine r_call ?_
  | with_reducible refine r_make ?_
  | with_reducible refine r_callN0 ?_
  | with_reducible refine r_makeK0 ?_
  | with_reducible refine r_makeS ?_
  | with_reducible refine r_callS ?_
  | with_reducible refine r_cons ?_
  | with_reducible refine r_nil ?_
  | with_reducible refine r_test ?_
  | with_reducible refine r_B ?_
  | with_reducible refine r_and ?_
  | with_reducible refine r_or ?_
  | with_reducible refine r_not ?_
  | with_reducible refine r_andV ?_
  | with_reducible refine r_orV ?_
  | with_reducible refine r_notV ?_
  | with_reducible refine r_if ?_
  | with_reducible refine r_tup ?_
  | with_reducible refine r_lst ?_
  | with_reducible refine r_c ?_
  | with_reducible refine r_lc ?_
  | with_reducible refine r_chain ?_
  | with_reducible refine r_iT ?_
  | with_reducible refine r_iL ?_
  | with_reducible refine r_iR1 ?_
  | with_reducible refine r_iR2 ?_
  | with_reducible refine r_iR3 ?_
  | with_reducible refine r_asgG ?_
  | with_reducible refine r_gSub ?_
  | with_reducible refine r_for ?_
  | with_reducible refine r_smeth ?_
  | with_reducible refine r_par ?_
  | with_reducible refine r_parK ?_
  | with_reducible refine r_gCons ?_
  | with_reducible refine r_gNil ?_
  | with_reducible refine r_gName ?_
  | with_reducible refine r_intI ?_
  | with_reducible refine r_intB ?_
  | with_reducible refine r_absI ?_
  | with_reducible refine r_k ?_
  | with_reducible refine r_kV ?_
  | ((with_reducible show tVar _ _ _ _); refine r_var3 ?_ (by rfl))
  | with_reducible refine r_I0 ?_
  | with_reducible refine r_U ?_
  | with_reducible refine r_eqI ?_
  | with_reducible refine r_neI ?_
  | dsimp only)))
local macro_rules | `(tactic| walk_at "rx") => `(tactic| (repeat (first
  | with_reducible refine r_next ?_
  | with_reducible refine r_ret ?_
  | with_reducible refine r_ifS ?_
  | with_reducible refine r_asg ?_
  | with_reducible refine r_drop ?_
  | with_reducible refine r_op ?_
  | with_reducible refine r_un ?_
  | with_reducible refine r_cbInt ?_
  | with_reducible refine r_cbAbs ?_
  | with_reducible refine r_cbLen ?_
  | with_reducible refine r_cbList ?_
  | with_reducible refine r_cbTup ?_
  | with_reducible refine r_iEnT ?_
  | with_reducible refine r_iEnL ?_
  | with_reducible refine r_zipA ?_
  | with_reducible refine r_augS ?_
  | with_reducible refine r_cb ?_
  | with_reducible refine r_call ?_
  | with_reducible refine r_make ?_
  | with_reducible refine r_callN0 ?_
  | with_reducible refine r_makeK0 ?_
  | with_reducible refine r_makeS ?_
  | with_reducible refine r_callS ?_
  | with_reducible refine r_cons ?_
  | with_reducible refine r_nil ?_
  | with_reducible refine r_test ?_
  | with_reducible refine r_B ?_
  | with_reducible refine r_and ?_
  | with_reducible refine r_or ?_
  | with_reducible refine r_not ?_
  | with_reducible refine r_andV ?_
  | with_reducible refine r_orV ?_
  | with_reducible refine r_notV ?_
  | with_reducible refine r_if ?_
  | with_reducible refine r_tup ?_
  | with_reducible refine r_lst ?_
  | with_reducible refine r_c ?_
  | with_reducible refine r_lc ?_
  | with_reducible refine r_chain ?_
  | with_reducible refine r_iT ?_
  | with_reducible refine r_iL ?_
  | with_reducible refine r_iR1 ?_
  | with_reducible refine r_iR2 ?_
  | with_reducible refine r_iR3 ?_
  | with_reducible refine r_asgG ?_
  | with_reducible refine r_gSub ?_
  | with_reducible refine r_for ?_
  | with_reducible refine r_smeth ?_
  | with_reducible refine r_par ?_
  | with_reducible refine r_parK ?_
  | with_reducible refine r_gCons ?_
  | with_reducible refine r_gNil ?_
  | with_reducible refine r_gName ?_
  | with_reducible refine r_intI ?_
  | with_reducible refine r_intB ?_
  | with_reducible refine r_absI ?_
  | with_reducible refine r_k ?_
  | with_reducible refine r_kV ?_
  | ((with_reducible show tVar _ _ _ _); refine r_var3 ?_ (by rfl))
  | with_reducible refine r_I0 ?_
  | with_reducible refine r_U ?_
  | with_reducible refine r_eqI ?_
  | with_reducible refine r_neI ?_
  | dsimp only)))
/-! ### refused -/
def EachV (K : PySem.W.Frag) (H : Hp) (a1 : Addr) (v : V) : Prop := (∀ Q : VK, Q (.bl false) H → rEqOwn K (He.ga K "Poly") (spPEq K) E0 (.ref a1) v H Q) ∧
  ∀ Q : VK, Q (.bl false) H → (rEqR (He.ga K "Poly") (spPEq K) E0 v (.ref a1) H Q ∨ rEqOwn K (He.ga K "Poly") (spPEq K) E0 v (.ref a1) H Q ∨ rEqOwn K (He.ga K "Bound") (spBEq K) E0 v (.ref a1) H Q)
theorem eq_no {K : PySem.W.Frag} {mg : Str → Option Value} {H : Hp} {a1 : Addr} {ns : List Int} {v : V} (T : Txt K mg) (ha : Pl K H a1 ns) (no : No K "Poly" H v) (Q : VK) (q : Q (.bl false) H) : rEqOwn K (He.ga K "Poly") (spPEq K) E0 (.ref a1) v H Q := by
  obtain ⟨dx, fs, h1⟩ := ha.inst
  obtain ⟨t, ht, _, hn⟩ := no_not T (by decide) no
  exact ⟨a1, dx, fs, t, rfl, h1, ht, hn, a1, ns, rfl, ha, .inr ⟨no, q⟩⟩
theorem each_left {K : PySem.W.Frag} {mg : Str → Option Value} {H : Hp} {a1 : Addr} {ns : List Int} {v : V} (T : Txt K mg) (ha : Pl K H a1 ns) (no : No K "Poly" H v) (lv : LeftV H v) : EachV K H a1 v := by
  obtain ⟨dx, fs, h1⟩ := ha.inst
  exact ⟨eq_no T ha no, fun Q q => .inl ⟨a1, dx, fs, rfl, h1, lv, a1, ns, rfl, ha, .inr ⟨no, q⟩⟩⟩
theorem each_bound {K : PySem.W.Frag} {mg : Str → Option Value} {H : Hp} {a1 b : Addr} {ns : List Int} {w p u : Int} (T : Txt K mg) (ha : Pl K H a1 ns) (hb : Bd K H b w p u) (no1 : No K "Bound" H (.ref a1)) (no2 : No K "Poly" H (.ref b)) : EachV K H a1 (.ref b) := by
  obtain ⟨dx2, fs2, h2⟩ := hb.inst
  obtain ⟨t, ht, _, hn⟩ := no_not T (by decide) no1
  exact ⟨eq_no T ha no2, fun Q q => .inr (.inr ⟨b, dx2, fs2, t, rfl, h2, ht, hn, b, w, p, u, rfl, hb, no1, q⟩)⟩
theorem each_poly {K : PySem.W.Frag} {mg : Str → Option Value} {H : Hp} {a1 b : Addr} {ns ms : List Int} (T : Txt K mg) (ha : Pl K H a1 ns) (hb : Pl K H b ms) (ne : ns ≠ ms) : EachV K H a1 (.ref b) :=
  ⟨fun Q q => r_PEq T ha hb (by rw [decide_eq_false ne]; exact q), fun Q q => .inr (.inl (r_PEq T hb ha (by rw [decide_eq_false (Ne.symm ne)]; exact q)))⟩
theorem cut_one (x : V) (xs : List V) : cutV (x :: xs) (some 1) none = xs := by
  unfold cutV
  simp [HT.sIx]
theorem Pl.no {K : PySem.W.Frag} {H : Hp} {a : Addr} {ns : List Int} (h : Pl K H a ns) : No K "Bound" H (.ref a) := let ⟨_, _, _, dx, t, h4, _⟩ := h; .inr ⟨a, "Poly", dx, _, rfl, by decide, by decide, h4⟩
theorem Bd.no {K : PySem.W.Frag} {H : Hp} {a : Addr} {w p u : Int} (h : Bd K H a w p u) : No K "Poly" H (.ref a) := let ⟨_, dx, h4⟩ := h; .inr ⟨a, "Bound", dx, _, rfl, by decide, by decide, h4⟩
theorem r_cut2 {D : Ends} {a b e : TS} {σ : L2.St} {H : Hp} (P : L2.St → Hp → Prop) (h : ∀ N : L2.St → Hp → Prop, (∀ σ' H', P σ' H' → N σ' H') → tSeq a b { D with nx := N } σ H) (h2 : ∀ σ' H', P σ' H' → e D σ' H') : tSeq a (tSeq b e) D σ H := h (e D) h2
theorem r_cut4 {D : Ends} {a b c d e : TS} {σ : L2.St} {H : Hp} (P : L2.St → Hp → Prop) (h : ∀ N : L2.St → Hp → Prop, (∀ σ' H', P σ' H' → N σ' H') → tSeq a (tSeq b (tSeq c d)) { D with nx := N } σ H) (h2 : ∀ σ' H', P σ' H' → e D σ' H') : tSeq a (tSeq b (tSeq c (tSeq d e))) D σ H := h (e D) h2
/-- what stands at each cut -/
theorem r_slL1 {K : PySem.W.Frag} {H : Hp} {Q : VK} {a : Addr} {x : V} {xs : List V} (h : SqL K H a (x :: xs)) (q : ∀ p H', H p = none → Ex H H' → H' p = some (.lst xs) → Q (.ref p) H') : rSlL K (.ref a) (some 1) none H Q :=
  ⟨a, _, rfl, h, fun p hp => by rw [cut_one]; exact q p _ hp (Ex.new hp) upd_same⟩
/-- what is no integer -/
def SV (K : PySem.W.Frag) (H : Hp) (a1 : Addr) (v : V) : Prop := v = .non ∨ v = .bl false ∨ v = .str "2" ∨ (∃ a, v = .ref a ∧ H a = some (.lst [.int 2])) ∨ (∃ a, v = .ref a ∧ H a = some (.tup [.int 3])) ∨ v = .ref a1
theorem SV.ex {K : PySem.W.Frag} {H H' : Hp} {a1 : Addr} {v : V} (h : SV K H a1 v) (e : Ex H H') : SV K H' a1 v := by
  rcases h with h | h | h | ⟨a, h, g⟩ | ⟨a, h, g⟩ | h
  · exact .inl h
  · exact .inr (.inl h)
  · exact .inr (.inr (.inl h))
  · exact .inr (.inr (.inr (.inl ⟨a, h, e _ _ g⟩)))
  · exact .inr (.inr (.inr (.inr (.inl ⟨a, h, e _ _ g⟩))))
  · exact .inr (.inr (.inr (.inr (.inr h))))
theorem SV.kn {K : PySem.W.Frag} {H : Hp} {a1 : Addr} {v : V} {ns : List Int} (h : SV K H a1 v) (ha : Pl K H a1 ns) : Kn K H v ∧ isI v = false := by
  rcases h with rfl | rfl | rfl | ⟨a, rfl, g⟩ | ⟨a, rfl, g⟩ | rfl
  · exact ⟨.inl ⟨"NoneType", by decide, .non⟩, rfl⟩
  · exact ⟨.inl ⟨"bool", by decide, .bl _⟩, rfl⟩
  · exact ⟨kn_str _, rfl⟩
  · exact ⟨.inl ⟨"list", by decide, .lst g⟩, rfl⟩
  · exact ⟨.inl ⟨"tuple", by decide, .tup g⟩, rfl⟩
  · exact ⟨.inr ha.own, rfl⟩
theorem SV.bg {K : PySem.W.Frag} {H H' : Hp} {a1 p : Addr} {n : Int} {v : V} (h : SV K H a1 v) (g : Bg p H H') (hb : Bag H p n) : SV K H' a1 v := by
  rcases h with h | h | h | ⟨a, h, q⟩ | ⟨a, h, q⟩ | h
  · exact .inl h
  · exact .inr (.inl h)
  · exact .inr (.inr (.inl h))
  · exact .inr (.inr (.inr (.inl ⟨a, h, g.at_ (hb.ne q fun _ _ _ z => by cases z) q⟩)))
  · exact .inr (.inr (.inr (.inr (.inl ⟨a, h, g.at_ (hb.ne q fun _ _ _ z => by cases z) q⟩))))
  · exact .inr (.inr (.inr (.inr (.inr h))))
theorem flat_rep {x : V} (m : Nat) : (List.replicate m [x]).flatten = List.replicate m x := by
  induction m with
  | zero => rfl
  | succ m ih => rw [List.replicate_succ, List.flatten_cons, ih, List.replicate_succ]; rfl
theorem r_repG {H : Hp} {Q : VK} {q : Addr} {x : V} {m : Nat} (h : H q = some (.lst [x])) (hm : m ≤ 1000) (g : ∀ p H', H p = none → Ex H H' → H' p = some (.lst (List.replicate m x)) → Q (.ref p) H') : rRep (.ref q) (.int ((m : Nat) : Int)) H Q :=
  ⟨q, m, [x], rfl, rfl, h, by omega, by omega, sz_le (by simp; omega), fun p hp => g p _ hp (Ex.new hp) (by rw [upd_same, Int.toNat_natCast, flat_rep])⟩
theorem r_repI {H : Hp} {Q : VK} {q : Addr} {c : Int} {m : Nat} (h : H q = some (.lst [.int c])) (hm : m ≤ 1000) (g : ∀ p H', H p = none → Ex H H' → H' p = some (.lst ((List.replicate m c).map V.int)) → Q (.ref p) H') : rRep (.ref q) (.int ((m : Nat) : Int)) H Q :=
  r_repG h hm fun p H' h1 h2 h3 => g p H' h1 h2 (by rw [h3, List.map_replicate])
theorem TRs.rep {H : Hp} {a : Addr} {t : List V} (h : H a = some (.tup t)) : ∀ m : Nat, TRs H (List.replicate m (.ref a)) (List.replicate m t)
  | 0 => trivial
  | m + 1 => ⟨⟨a, rfl, h⟩, TRs.rep h m⟩
theorem r_eqSame {K : PySem.W.Frag} {H : Hp} {Q : VK} {x y : V} (d : PyData) (h1 : Dp K H x d) (h2 : Dp K H y d) (hs : SeqAt.shaped d = true) (he : PyData.eqv d d = true) (k : Q (.bl true) H) : rEqD K x y H Q := ⟨d, d, h1, h2, hs, hs, by rw [he]; exact k⟩
theorem r_fldG {K : PySem.W.Frag} {te : TE} {f : Str} {σ : L2.St} {H : Hp} {Q : VK} (q : te σ H fun x H1 => ∃ a C dx fs v, x = .ref a ∧ H1 a = some (.ins C dx fs) ∧ Cls K C ∧ NoAttr K C f ∧ fs.lookup f = some v ∧ Q v H1) : tFld K te f σ H Q := q
def wz : List Str := ["numbers", "numbers", "numbers", "numbers", "numbers", "numbers", "numbers", "numbers", "first", "first", "first"]
theorem rows_lc {K : PySem.W.Frag} {L : Addr} {xs : List V} {σ : L2.St} {H1 : Hp} {Q : VK} (hL : H1 L = some (.lst xs)) (lx : xs.length = 11) (bad : ∀ (i : Nat) (v : V) (z : Str), xs[i]? = some v → wz[i]? = some z → ∀ H', Ex H1 H' → BadR K H' v z)
    (hw : ∀ x, wipe ((wipe σ [18]).set 18 (some x)) [18] = wipe σ [18]) (hv : ∀ x, ((wipe σ [18]).set 18 (some x))[18]? = some (some x))
    (q : ∀ p ys H', H1 p = none → Ex H1 H' → H' p = some (.lst ys) → TRs H' ys (wz.map (tR "BadPoly")) → Q (.ref p) H') : lcB (Itl K L) (gName 18) tYes (tCall (spTold K) [] E0 (tCons (tC (.int 10)) (tCons (tVar 18) (tCons (tC .non) tNil)))) [18] σ Q H1 := by
  refine r_lcI (k := 18) (walk_list (xs := xs)) (fun i => tR "BadPoly" (wz.getD i "")) (by omega) (fun H' e => e.sql (SqL.of hL)) hw ?_ ?_
  · rintro j z H0 H' hj e0 ⟨rfl, hz⟩
    refine ⟨Ex.refl _, fun R r => ?_⟩
    have hj' : j < wz.length := by show j < 11; omega
    have hz' : wz[j]? = some wz[j] := by rw [List.getElem?_eq_getElem]
    refine r_call (r_cons (r_c (r_cons ⟨_, hv _, r_cons (r_c (r_nil ?_))⟩)))
    refine r_Told (way := 10) rfl (by simp) (.inr (.inr (.inr (.inr (.inr (.inr (.inr (.inr (.inr (.inr ⟨rfl, rfl, bad j z _ hz hz' _ e0⟩)))))))))) fun t H4 e4 h4 => r t H4 e4 ?_
    rw [h4, List.getD_eq_getElem?_getD, hz']
    rfl
  · intro p ys H' hp e h l it
    refine q p ys H' hp e h (TRs.of_ix (by rw [l, lx]; rfl) fun i y t h1 h2 => ?_)
    obtain ⟨a, h3, h4⟩ := it i y h1
    refine ⟨a, h3, ?_⟩
    have il := (List.getElem?_eq_some_iff.mp h1).1
    have il' : i < wz.length := by show i < 11; omega
    rw [List.getElem?_map, List.getElem?_eq_getElem il'] at h2
    cases h2
    rw [h4, List.getD_eq_getElem?_getD, List.getElem?_eq_getElem il']
    rfl
theorem kn_two {K : PySem.W.Frag} {H : Hp} {a b : V} (ha : Kn K H a) (hb : Kn K H b) : ∀ x ∈ [a, b], Kn K H x := fun x hx => by
  simp only [List.mem_cons, List.mem_nil_iff, or_false] at hx
  rcases hx with rfl | rfl
  · exact ha
  · exact hb
structure RF (K : PySem.W.Frag) (H : Hp) (p : Addr) (n : Int) (x : Addr) (ns : List Int) (a1 a2 P : Addr) : Prop where
  bag : Bag H p n
  hx : H x = some (.lst (ns.map V.int))
  A1 : Pl K H a1 ns
  A2 : Pl K H a2 [3]
  hP : H P = some (.tup [.bl true, .bl false, .bl false])
theorem RF.ex {K : PySem.W.Frag} {H H' : Hp} {p : Addr} {n : Int} {x : Addr} {ns : List Int} {a1 a2 P : Addr} (h : RF K H p n x ns a1 a2 P) (e : Ex H H') : RF K H' p n x ns a1 a2 P := ⟨h.bag.ex e, e _ _ h.hx, h.A1.ex e, h.A2.ex e, e _ _ h.hP⟩
theorem RF.bg {K : PySem.W.Frag} {H H' : Hp} {p : Addr} {n n' : Int} {x : Addr} {ns : List Int} {a1 a2 P : Addr} (h : RF K H p n x ns a1 a2 P) (g : Bg p H H') (b : Bag H' p n') : RF K H' p n' x ns a1 a2 P := ⟨b, bg_lst g h.bag h.hx, h.A1.bg g h.bag, h.A2.bg g h.bag, g.at_ (h.bag.ne h.hP fun _ _ _ z => by cases z) h.hP⟩
def refS (p x a1 a2 : Addr) (odd : V) (P : Addr) (s6 s9 s13 s14 s15 s16 s17 : Option V) : L2.St := [some (.ref p), some (.ref x), some (.ref a1), some (.ref a2), some odd, some (.ref P), s6, none, none, s9, none, none, none, s13, s14, s15, s16, s17, none, none, none]
def spRefused (K : PySem.W.Frag) : Sp := sp2 fun b v H Q _ => ∃ (p : Addr) (n : Int) (x : Addr) (ns : List Int) (d : Nat), b = .ref p ∧ v = .ref x ∧ n ≤ 50000 ∧ Bag H p n ∧ H x = some (.lst (ns.map V.int)) ∧ dN ns d ∧ 1 ≤ d ∧ d ≤ 5 ∧ ∀ H', Q (.bl true) H'
theorem ok__law_refused {P : Program} {w : World} {K : PySem.W.Frag} {mg : Str → Option Value} {base : Heap} (T : Txt K mg) : ∃ fd, FnOk P w K mg base (L2.CX P w) 8 (He.ga K "_law_refused") fd ["bag", "one"] (spRefused K) ∧ Binds K fd ["bag", "one"] [] := by
  obtain ⟨fd, F⟩ := T.d__law_refused
  obtain ⟨fd_times, F_times, B_times, kb_times_0⟩ := ok_times (P := P) (w := w) (base := base) T
  obtain ⟨fd__law_told, F__law_told, B__law_told⟩ := ok__law_told (P := P) (w := w) (base := base) T
  obtain ⟨fd_Poly_init, F_Poly_init, B_Poly_init, kb_Poly_init_0⟩ := ok_Poly_init (P := P) (w := w) (base := base) T
  obtain ⟨fd__law_great, F__law_great, B__law_great⟩ := ok__law_great (P := P) (w := w) (base := base) T
  obtain ⟨fd__law_pick, F__law_pick, B__law_pick⟩ := ok__law_pick (P := P) (w := w) (base := base) T
  obtain ⟨fd_Bound_init, F_Bound_init, B_Bound_init⟩ := ok_Bound_init (P := P) (w := w) (base := base) T
  obtain ⟨fd_Poly_str, F_Poly_str, B_Poly_str⟩ := ok_Poly_str (P := P) (w := w) (base := base) T
  obtain ⟨fd__law_shares, F__law_shares, B__law_shares⟩ := ok__law_shares (P := P) (w := w) (base := base) T
  obtain ⟨fd_Poly_eq, F_Poly_eq, B_Poly_eq⟩ := ok_Poly_eq (P := P) (w := w) (base := base) T
  obtain ⟨fd_Bound_eq, F_Bound_eq, B_Bound_eq⟩ := ok_Bound_eq (P := P) (w := w) (base := base) T
  refine ⟨fd, F.ok sc__law_refused sp2_len (fun cdv A outer s H vs Q E hr h => ?_), F.bindsN fun _ _ _ _ _ _ us hl => match us, hl with | [_, _], _ => rfl⟩
  have hr_times : Room 5 _ := hr.mono (by decide)
  have hr__law_told : Room 7 _ := hr.mono (by decide)
  have hr_Poly_init : Room 4 _ := hr.mono (by decide)
  have hr__law_great : Room 2 _ := hr.mono (by decide)
  have hr__law_pick : Room 2 _ := hr.mono (by decide)
  have hr_Bound_init : Room 5 _ := hr.mono (by decide)
  have hr_Poly_str : Room 4 _ := hr.mono (by decide)
  have hr__law_shares : Room 6 _ := hr.mono (by decide)
  have hr_Poly_eq : Room 1 _ := hr.mono (by decide)
  have hr_Bound_eq : Room 1 _ := hr.mono (by decide)
  obtain ⟨b0, v0, rfl, p, n, x, ns, d, rfl, rfl, hn, hb, hx, hN, d1, d2, k⟩ := sp2_is h
  refine ⟨_, (pss_cons (ps_asg (pe_tup (pa_cons (pe_make T.mk_Poly F_Poly_init hr_Poly_init (by rfl) T.g_Poly B_Poly_init .nil passL (pa_cons (pv 1) pa_nil)) (pa_cons (pe_make T.mk_Poly F_Poly_init hr_Poly_init (by rfl) T.g_Poly B_Poly_init .nil passL (pa_cons (pe_lst (pa_cons pe_int pa_nil)) pa_nil)) (pa_cons (pe_call F__law_pick hr__law_pick (by rfl) T.g__law_pick T.k__law_pick B__law_pick .nil passL (pa_cons (pv 0) (pa_cons (pe_lst (pa_cons pe_non (pa_cons pe_bl (pa_cons pe_str (pa_cons (pe_callTy call_list_of (by rfl) T.b_list (by decide +kernel) (pa_cons (pv 1) pa_nil)) (pa_cons (pe_callTy call_tuple_of (by rfl) T.b_tuple (by decide +kernel) (pa_cons (pv 1) pa_nil)) (pa_cons pe_int pa_nil))))))) pa_nil))) pa_nil)))) (pg_tup rfl (pgs_cons (pg_name (i := 2) sc__law_refused.nd rfl (Or.inr rfl)) (pgs_cons (pg_name (i := 3) sc__law_refused.nd rfl (Or.inl rfl)) (pgs_cons (pg_name (i := 4) sc__law_refused.nd rfl (Or.inr rfl)) pgs_nil)))))
      (pss_cons (ps_set (i := 5) sc__law_refused.nd rfl (Or.inr rfl) (pe_tup (pa_cons pe_bl (pa_cons pe_bl (pa_cons pe_bl pa_nil)))))
      (pss_cons (ps_setLc (i := 6) (own := [("way", 7)]) (g := gName 7) (tt := tYes)  rfl sc__law_refused.nd rfl rfl (sw_true rfl rfl rfl (by decide +kernel)) (pi_range1 (by rfl) T.b_range (pa_cons pe_int pa_nil)) (blkOk_by (own := [("way", 7)]) (N := ["bag", "one", "mine", "flat", "odd", "poly", "told", "way", "word", "shares", "share", "its", "each", "longer", "number", "misfit", "strange", "rows", "row", "wide", "tight"]) (sc := defScope s__law_refused) (by decide +kernel)) (fun _ _ _ _ _ => (pg_name (i := 7) sc__law_refused.nd rfl (Or.inl rfl))) (fun _ _ _ _ _ => pts_nil) (fun _ _ _ _ _ => (pe_call F__law_told hr__law_told (by rfl) T.g__law_told T.k__law_told B__law_told .nil passL (pa_cons (pv 7) (pa_cons (pv 4) (pa_cons (pv 4) pa_nil))))))
      (pss_cons (ps_if (pt_cmpR (op_neD hr.units) (pv 6) (pe_lc (own := [("word", 8)]) (g := gName 8) (tt := tYes)  rfl sc__law_refused.nd (pi_list (pe_lst (pa_cons pe_str (pa_cons pe_str (pa_cons pe_str (pa_cons pe_str (pa_cons pe_str (pa_cons pe_str (pa_cons pe_str (pa_cons pe_str (pa_cons pe_str pa_nil))))))))))) (blkOk_by (own := [("word", 8)]) (N := ["bag", "one", "mine", "flat", "odd", "poly", "told", "way", "word", "shares", "share", "its", "each", "longer", "number", "misfit", "strange", "rows", "row", "wide", "tight"]) (sc := defScope s__law_refused) (by decide +kernel)) (fun _ _ _ _ _ => (pg_name (i := 8) sc__law_refused.nd rfl (Or.inl rfl))) (fun _ _ _ _ _ => pts_nil) (fun _ _ _ _ _ => (pe_op (kx_catT (K := K) rfl) (pv 5) (pe_tup (pa_cons (pv 8) pa_nil))))) (nomark _)) (pss_one (ps_ret pe_bl)) pss_nil)
      (pss_cons (ps_set (i := 6) sc__law_refused.nd rfl (Or.inl rfl) (pe_op op_cat (pe_lc (own := [("way", 7)]) (g := gName 7) (tt := tYes)  rfl sc__law_refused.nd (pi_range1 (by rfl) T.b_range (pa_cons pe_int pa_nil)) (blkOk_by (own := [("way", 7)]) (N := ["bag", "one", "mine", "flat", "odd", "poly", "told", "way", "word", "shares", "share", "its", "each", "longer", "number", "misfit", "strange", "rows", "row", "wide", "tight"]) (sc := defScope s__law_refused) (by decide +kernel)) (fun _ _ _ _ _ => (pg_name (i := 7) sc__law_refused.nd rfl (Or.inl rfl))) (fun _ _ _ _ _ => pts_nil) (fun _ _ _ _ _ => (pe_call F__law_told hr__law_told (by rfl) T.g__law_told T.k__law_told B__law_told .nil passL (pa_cons (pv 7) (pa_cons (pv 2) (pa_cons (pv 4) pa_nil)))))) (pe_lst (pa_cons (pe_call F__law_told hr__law_told (by rfl) T.g__law_told T.k__law_told B__law_told .nil passL (pa_cons pe_int (pa_cons (pv 2) (pa_cons (pv 4) pa_nil)))) pa_nil))))
      (pss_cons (ps_if (pt_cmpR (op_neD hr.units) (pv 6) (pe_op op_cat (pe_lc (own := [("word", 8)]) (g := gName 8) (tt := tYes)  rfl sc__law_refused.nd (pi_list (pe_lst (pa_cons pe_str (pa_cons pe_str (pa_cons pe_str (pa_cons pe_str (pa_cons pe_str pa_nil))))))) (blkOk_by (own := [("word", 8)]) (N := ["bag", "one", "mine", "flat", "odd", "poly", "told", "way", "word", "shares", "share", "its", "each", "longer", "number", "misfit", "strange", "rows", "row", "wide", "tight"]) (sc := defScope s__law_refused) (by decide +kernel)) (fun _ _ _ _ _ => (pg_name (i := 8) sc__law_refused.nd rfl (Or.inl rfl))) (fun _ _ _ _ _ => pts_nil) (fun _ _ _ _ _ => (pe_op (kx_catT (K := K) rfl) (pv 5) (pe_tup (pa_cons (pv 8) pa_nil))))) (pe_lst (pa_cons (pe_tup (pa_cons pe_bl (pa_cons pe_bl (pa_cons pe_bl (pa_cons pe_str pa_nil))))) pa_nil))) (nomark _)) (pss_one (ps_ret pe_bl)) pss_nil)
      (pss_cons (ps_set (i := 9) sc__law_refused.nd rfl (Or.inl rfl) (pe_lst (pa_cons (pe_tup (pa_cons pe_int (pa_cons (pe_un un_neg pe_int) pa_nil))) (pa_cons (pe_tup (pa_cons pe_int (pa_cons pe_bl pa_nil))) (pa_cons (pe_tup (pa_cons pe_int (pa_cons pe_int pa_nil))) (pa_cons (pe_tup (pa_cons pe_int (pa_cons pe_non pa_nil))) (pa_cons (pe_tup (pa_cons pe_bl (pa_cons pe_int pa_nil))) (pa_cons (pe_tup (pa_cons pe_non (pa_cons pe_int pa_nil))) (pa_cons (pe_tup (pa_cons (pe_un un_neg pe_int) (pa_cons pe_int pa_nil))) (pa_cons (pe_tup (pa_cons pe_str (pa_cons pe_int pa_nil))) pa_nil))))))))))
      (pss_cons (ps_if (pt_cmpR (op_neD hr.units) (pe_lc (own := [("share", 10), ("its", 11)]) (g := gTup K 2 (gCons (gName 10) (gCons (gName 11) (gNil)))) (tt := tYes)  rfl sc__law_refused.nd (pi_list (pv 9)) (blkOk_by (own := [("share", 10), ("its", 11)]) (N := ["bag", "one", "mine", "flat", "odd", "poly", "told", "way", "word", "shares", "share", "its", "each", "longer", "number", "misfit", "strange", "rows", "row", "wide", "tight"]) (sc := defScope s__law_refused) (by decide +kernel)) (fun _ _ _ _ _ => (pg_tup rfl (pgs_cons (pg_name (i := 10) sc__law_refused.nd rfl (Or.inl rfl)) (pgs_cons (pg_name (i := 11) sc__law_refused.nd rfl (Or.inl rfl)) pgs_nil)))) (fun _ _ _ _ _ => pts_nil) (fun _ _ _ _ _ => (pe_call F__law_shares hr__law_shares (by rfl) T.g__law_shares T.k__law_shares B__law_shares .nil passL (pa_cons (pv 2) (pa_cons (pv 10) (pa_cons (pv 11) pa_nil)))))) (pe_op op_cat (pe_op op_rep (pe_lst (pa_cons (pe_tup (pa_cons pe_str (pa_cons pe_str pa_nil))) pa_nil)) pe_int) (pe_op op_rep (pe_lst (pa_cons (pe_tup (pa_cons pe_str (pa_cons pe_str pa_nil))) pa_nil)) pe_int)) (nomark _)) (pss_one (ps_ret pe_bl)) pss_nil)
      (pss_cons (ps_if (pt_cmpR (op_neD hr.units) (pe_lc (own := [("each", 12)]) (g := gName 12)  rfl sc__law_refused.nd (pi_tup (pe_tup (pa_cons (pe_callTy call_tuple_of (by rfl) T.b_tuple (by decide +kernel) (pa_cons (pv 1) pa_nil)) (pa_cons (pe_callTy call_list_of (by rfl) T.b_list (by decide +kernel) (pa_cons (pv 1) pa_nil)) (pa_cons (pe_callTy (call_strOwn F_Poly_str hr_Poly_str T.me_Poly_str.at_ T.me_Poly_str.fn B_Poly_str passL) (by rfl) T.b_str (by decide +kernel) (pa_cons (pv 2) pa_nil)) (pa_cons (pe_make T.mk_Bound F_Bound_init hr_Bound_init (by rfl) T.g_Bound B_Bound_init .nil passL (pa_cons (pe_ix (kx_ixl rfl) (pv 1) pe_int (fun _ _ => rfl)) (pa_cons pe_int (pa_cons pe_int pa_nil)))) (pa_cons pe_non (pa_cons (pe_ix (kx_ixl rfl) (pv 1) pe_int (fun _ _ => rfl)) (pa_cons (pe_make T.mk_Poly F_Poly_init hr_Poly_init (by rfl) T.g_Poly B_Poly_init .nil passL (pa_cons (pe_op op_cat (pe_lst (pa_cons (pe_op op_add (pe_ix (kx_ixl rfl) (pv 1) pe_int (fun _ _ => rfl)) pe_int) pa_nil)) (pe_slice sl_list (pv 1) (po_some pe_int) po_none)) pa_nil)) pa_nil))))))))) (blkOk_by (own := [("each", 12)]) (N := ["bag", "one", "mine", "flat", "odd", "poly", "told", "way", "word", "shares", "share", "its", "each", "longer", "number", "misfit", "strange", "rows", "row", "wide", "tight"]) (sc := defScope s__law_refused) (by decide +kernel)) (fun _ _ _ _ _ => (pg_name (i := 12) sc__law_refused.nd rfl (Or.inl rfl))) (fun _ _ _ _ _ => (pts_one (PW.pt (pw_or (pt_cmpR (kx_eqOwn (K := K) rfl F_Poly_eq hr_Poly_eq T.me_Poly_eq.at_ T.me_Poly_eq.fn B_Poly_eq passL) (pv 2) (pv 12) (nomark _)) (pw_or1 (pt_cmpR (op_or (op_eqR F_Poly_eq hr_Poly_eq (no5 T) T.me_Poly_eq.at_ T.me_Poly_eq.fn B_Poly_eq passL) (op_or (kx_eqOwn (K := K) rfl F_Poly_eq hr_Poly_eq T.me_Poly_eq.at_ T.me_Poly_eq.fn B_Poly_eq passL) (kx_eqOwn (K := K) rfl F_Bound_eq hr_Bound_eq T.me_Bound_eq.at_ T.me_Bound_eq.fn B_Bound_eq passL))) (pv 12) (pv 2) (nomark _))))))) (fun _ _ _ _ _ => (pv 12))) (pe_lst pa_nil) (nomark _)) (pss_one (ps_ret pe_bl)) pss_nil)
      (pss_cons (ps_set (i := 13) sc__law_refused.nd rfl (Or.inl rfl) (pe_makeK0 T.mk_Poly F_Poly_init hr_Poly_init (by rfl) T.g_Poly kb_Poly_init_0 passL (pk_cons (pe_op op_cat (pe_callTy call_list_of (by rfl) T.b_list (by decide +kernel) (pa_cons (pv 1) pa_nil)) (pe_lst (pa_cons pe_int pa_nil))) pk_nil)))
      (pss_cons (ps_asg (pe_tup (pa_cons (pe_tup (pa_cons pe_bl (pa_cons pe_bl (pa_cons pe_bl pa_nil)))) (pa_cons (pe_tup (pa_cons pe_bl (pa_cons pe_bl (pa_cons pe_bl pa_nil)))) pa_nil))) (pg_tup rfl (pgs_cons (pg_name (i := 14) sc__law_refused.nd rfl (Or.inl rfl)) (pgs_cons (pg_name (i := 15) sc__law_refused.nd rfl (Or.inl rfl)) pgs_nil))))
      (pss_cons (ps_set (i := 6) sc__law_refused.nd rfl (Or.inl rfl) (pe_lst (pa_cons (pe_call F__law_told hr__law_told (by rfl) T.g__law_told T.k__law_told B__law_told .nil passL (pa_cons pe_int (pa_cons (pv 2) (pa_cons (pv 13) pa_nil)))) (pa_cons (pe_call F__law_told hr__law_told (by rfl) T.g__law_told T.k__law_told B__law_told .nil passL (pa_cons pe_int (pa_cons (pv 2) (pa_cons (pv 13) pa_nil)))) (pa_cons (pe_call F__law_told hr__law_told (by rfl) T.g__law_told T.k__law_told B__law_told .nil passL (pa_cons pe_int (pa_cons (pv 2) (pa_cons (pv 13) pa_nil)))) (pa_cons (pe_call F__law_told hr__law_told (by rfl) T.g__law_told T.k__law_told B__law_told .nil passL (pa_cons pe_int (pa_cons (pv 3) (pa_cons pe_non pa_nil)))) pa_nil))))))
      (pss_cons (ps_if (pt_cmpR (op_neD hr.units) (pv 6) (pe_lst (pa_cons (pe_op (kx_catT (K := K) rfl) (pv 15) (pe_tup (pa_cons pe_str pa_nil))) (pa_cons (pe_op (kx_catT (K := K) rfl) (pv 14) (pe_tup (pa_cons pe_str pa_nil))) (pa_cons (pe_op (kx_catT (K := K) rfl) (pv 14) (pe_tup (pa_cons pe_str pa_nil))) (pa_cons (pe_op (kx_catT (K := K) rfl) (pv 15) (pe_tup (pa_cons pe_str pa_nil))) pa_nil))))) (nomark _)) (pss_one (ps_ret pe_bl)) pss_nil)
      (pss_cons (ps_set (i := 16) sc__law_refused.nd rfl (Or.inl rfl) (pe_call F__law_pick hr__law_pick (by rfl) T.g__law_pick T.k__law_pick B__law_pick .nil passL (pa_cons (pv 0) (pa_cons (pe_lst (pa_cons pe_non (pa_cons pe_bl (pa_cons pe_str (pa_cons (pe_lst (pa_cons pe_int pa_nil)) (pa_cons (pe_tup (pa_cons pe_int pa_nil)) (pa_cons (pv 2) pa_nil))))))) pa_nil))))
      (pss_cons (ps_if (pt_cmpR (op_neD hr.units) (pe_call F__law_told hr__law_told (by rfl) T.g__law_told T.k__law_told B__law_told .nil passL (pa_cons pe_int (pa_cons (pv 2) (pa_cons (pv 16) pa_nil)))) (pe_op (kx_catT (K := K) rfl) (pv 14) (pe_tup (pa_cons pe_str pa_nil))) (nomark _)) (pss_one (ps_ret pe_bl)) pss_nil)
      (pss_cons (ps_set (i := 17) sc__law_refused.nd rfl (Or.inl rfl) (pe_lst (pa_cons (pe_ifExp (PW.pt (pw_or (pt_val (pe_callB (cr_isi rfl) (by rfl) T.b_isinstance (by decide +kernel) (pa_cons (pv 16) (pa_cons (pe_bltn (v := .ty "int") (by rfl) T.b_int (by decide +kernel) rfl) pa_nil)))) (pw_or1 (pt_cmpR op_isN (pv 16) pe_non (nomark _))))) (pv 16) pe_str) (pa_cons (pe_lst pa_nil) (pa_cons (pe_op op_rep (pe_lst (pa_cons pe_int pa_nil)) pe_int) (pa_cons (pe_lst (pa_cons pe_int (pa_cons pe_bl pa_nil))) (pa_cons (pe_lst (pa_cons pe_int (pa_cons pe_str pa_nil))) (pa_cons (pe_lst (pa_cons pe_bl pa_nil)) (pa_cons (pe_disp (pps_cons pe_str pe_int pps_nil) (by rfl) (by rfl) (fun z => by cases z) (by decide)) (pa_cons (pe_lst (pa_cons pe_int (pa_cons (pe_lst (pa_cons pe_int pa_nil)) pa_nil))) (pa_cons (pe_lst (pa_cons pe_int pa_nil)) (pa_cons (pe_lst (pa_cons (pe_op op_sub (pe_un un_neg pe_int) (pe_call F__law_great hr__law_great (by rfl) T.g__law_great T.k__law_great B__law_great .nil passL (pa_cons (pv 0) pa_nil))) (pa_cons pe_int pa_nil))) (pa_cons (pe_tup (pa_cons pe_int (pa_cons pe_int (pa_cons pe_int pa_nil)))) pa_nil)))))))))))))
      (pss_cons (ps_if (pt_cmpR (op_neD hr.units) (pe_lc (own := [("row", 18)]) (g := gName 18) (tt := tYes)  rfl sc__law_refused.nd (pi_list (pv 17)) (blkOk_by (own := [("row", 18)]) (N := ["bag", "one", "mine", "flat", "odd", "poly", "told", "way", "word", "shares", "share", "its", "each", "longer", "number", "misfit", "strange", "rows", "row", "wide", "tight"]) (sc := defScope s__law_refused) (by decide +kernel)) (fun _ _ _ _ _ => (pg_name (i := 18) sc__law_refused.nd rfl (Or.inl rfl))) (fun _ _ _ _ _ => pts_nil) (fun _ _ _ _ _ => (pe_call F__law_told hr__law_told (by rfl) T.g__law_told T.k__law_told B__law_told .nil passL (pa_cons pe_int (pa_cons (pv 18) (pa_cons pe_non pa_nil)))))) (pe_op op_cat (pe_op op_rep (pe_lst (pa_cons (pe_op (kx_catT (K := K) rfl) (pv 5) (pe_tup (pa_cons pe_str pa_nil))) pa_nil)) pe_int) (pe_op op_rep (pe_lst (pa_cons (pe_op (kx_catT (K := K) rfl) (pv 5) (pe_tup (pa_cons pe_str pa_nil))) pa_nil)) pe_int)) (nomark _)) (pss_one (ps_ret pe_bl)) pss_nil)
      (pss_cons (ps_par (i := 19) (j := 20) (by rfl) sc__law_refused.nd rfl rfl (by decide) rfl rfl (pa_cons (pe_make T.mk_Poly F_Poly_init hr_Poly_init (by rfl) T.g_Poly B_Poly_init .nil passL (pa_cons (pe_op op_rep (pe_lst (pa_cons pe_int pa_nil)) pe_int) pa_nil)) (pa_cons (pe_make T.mk_Poly F_Poly_init hr_Poly_init (by rfl) T.g_Poly B_Poly_init .nil passL (pa_cons (pe_op op_cat (pe_lst (pa_cons pe_int pa_nil)) (pe_op op_rep (pe_lst (pa_cons pe_int pa_nil)) pe_int)) pa_nil)) pa_nil)) (by rfl))
      (pss_one (ps_ret (pe_and (pe_cmpR (op_eqD hr.units) (pe_call F__law_told hr__law_told (by rfl) T.g__law_told T.k__law_told B__law_told .nil passL (pa_cons pe_int (pa_cons (pv 19) (pa_cons (pv 19) pa_nil)))) (pe_tup (pa_cons pe_str (pa_cons pe_int pa_nil))) (nomark _)) (pe_one (pe_cmpR (op_eqD hr.units) (kx_fld rfl (pe_call F_times hr_times (by rfl) T.g_times T.k_times B_times .nil passL (pa_cons (pv 19) (pa_cons (pv 20) pa_nil))) rfl) (pe_callTy call_tuple_of (by rfl) T.b_tuple (by decide +kernel) (pa_cons (pe_op op_cat (pe_op op_rep (pe_lst (pa_cons pe_int pa_nil)) pe_int) (pe_op op_rep (pe_lst (pa_cons pe_int pa_nil)) pe_int)) pa_nil)) (nomark _)))))))))))))))))))))))), ?_⟩
  have ok := hN.ok (by omega)
  have ln := hN.1
  refine r_cut4 (fun σ' H' => ∃ a1 a2 odd P s6, σ' = refS p x a1 a2 odd P s6 none none none none none none ∧ RF K H' p (n + 1) x ns a1 a2 P ∧ No K "Poly" H' odd ∧ No K "Bound" H' odd) (fun N hN' => ?_) ?_
  · walk_at "rd"
    refine r_PolyL hx ok fun a1 H1 _ e1 A1 => ?_
    walk_at "rd"
    refine r_newL (sz_le (by simp)) fun L3 H2 _ e2 h2 => ?_
    walk_at "rd"
    refine r_PolyL (ns := [3]) h2 ⟨by decide, by decide, by decide⟩ fun a2 H3 _ e3 A2 => ?_
    walk_at "rd"
    have e13 := e2.trans e3
    refine r_list (.inl (SqL.of (e13 _ _ (e1 _ _ hx)))) fun l1 H4 _ e4 h4 => ?_
    walk_at "rd"
    refine r_tupL (SqL.of (e4 _ _ (e13 _ _ (e1 _ _ hx)))) fun t1 H5 _ e5 h5 => ?_
    walk_at "rd"
    refine r_newL (sz_le (by simp)) fun U H6 _ e6 h6 => ?_
    walk_at "rd"
    have e36 := (e4.trans e5).trans e6
    have b6 := ((hb.ex e1).ex e13).ex e36
    have A16 := (A1.ex e13).ex e36
    have A26 := A2.ex e36
    have hx6 := e36 _ _ (e13 _ _ (e1 _ _ hx))
    have no6 : ∀ v ∈ [V.non, .bl true, .str "1 2", .ref l1, .ref t1, .int 7], ∃ T1 ∈ tys, TyOf K H6 v (.type T1) := fun v hv => by
      simp only [List.mem_cons, List.mem_nil_iff, or_false] at hv
      rcases hv with rfl | rfl | rfl | rfl | rfl | rfl
      · exact ⟨"NoneType", by decide, .non⟩
      · exact ⟨"bool", by decide, .bl _⟩
      · exact ⟨"str", by decide, .str _⟩
      · exact ⟨"list", by decide, .lst ((e5.trans e6) _ _ h4)⟩
      · exact ⟨"tuple", by decide, .tup (e6 _ _ h5)⟩
      · exact ⟨"int", by decide, .int _⟩
    refine ⟨p, n, U, _, rfl, rfl, h6, b6.ne h6 (fun _ _ _ z => by cases z), by simp, by simp, by omega, b6, fun odd H7 hodd g7 b7 => ?_⟩
    have A17 := A16.bg g7 b6
    have A27 := A26.bg g7 b6
    have hx7 := bg_lst g7 b6 hx6
    have no7 : ∃ T1 ∈ tys, TyOf K H7 odd (.type T1) := by
      obtain ⟨T1, hT, hy⟩ := no6 odd hodd
      refine ⟨T1, hT, TyOf.ex' hy fun a ea o ho => g7.at_ (b6.ne ho ?_) ho⟩
      subst ea
      simp only [List.mem_cons, List.mem_nil_iff, or_false] at hodd
      rcases hodd with z | z | z | z | z | z
      · cases z
      · cases z
      · cases z
      · cases z
        rw [(e5.trans e6) _ _ h4] at ho
        cases ho
        exact ints_ne
      · cases z
        rw [e6 _ _ h5] at ho
        cases ho
        exact fun _ _ _ z => by cases z
      · cases z
    clear A1 A2 A16 A26 e1 e2 e3 e13 e4 e5 e6 e36 h2 h4 h5 h6 no6 hodd b6 g7 hx6
    walk_at "rd"
    refine r_newT (sz_le (by simp)) fun W H8 _ e8 h8 => ?_
    refine r_gTup h8 rfl (r_gCons (r_gName (r_gCons (r_gName (r_gCons (r_gName (r_gNil ?_)))))))
    walk_at "rd"
    refine r_newT (sz_le (by simp)) fun P H9 _ e9 hP => ?_
    walk_at "rd"
    have e79 := e8.trans e9
    have noo : No K "Poly" H9 odd := .inl (let ⟨T1, hT, hy⟩ := no7; ⟨T1, hT, TyOf.ex' hy fun a _ o q => e79 a o q⟩)
    have nob : No K "Bound" H9 odd := .inl (let ⟨T1, hT, hy⟩ := no7; ⟨T1, hT, TyOf.ex' hy fun a _ o q => e79 a o q⟩)
    have A19 := A17.ex e79
    have A29 := A27.ex e79
    have hx9 := e79 _ _ hx7
    have b9 := b7.ex e79
    clear A17 A27 hx7 b7 no7 e8 e9 e79 h8
    refine ⟨9, rfl, by decide, by decide, ?_⟩
    refine ways_lc (n := 9) (ws := wo) rfl (by decide) (fun H' e => rz_odd (noo.ex e)) (fun _ => rfl) (fun _ => ⟨rfl, rfl, rfl⟩) fun q1 ys1 H10 _ e10 h10 R1 => ?_
    walk_at "rd"
    refine r_newL (sz_le (by simp)) fun q2 H11 _ e11 h11 => ?_
    refine ⟨q2, rfl, ⟨_, SqL.of h11⟩, ?_⟩
    refine words_lc (ws := wo) h11 ((e10.trans e11) _ _ hP) (by simp) (by simp) (by decide) (fun _ => rfl) (fun _ => ⟨rfl, rfl⟩) fun q3 ys3 H12 _ e12 h12 R3 => ?_
    have ew : wo.map (fun z => [V.bl true, .bl false, .bl false] ++ [.str z]) = wo.map (tR "BadPoly") := List.map_congr_left fun z _ => tr_poly z
    rw [ew] at R3
    refine r_neRows _ ((e11.trans e12) _ _ h10) h12 (R1.ex (e11.trans e12)) R3 (by decide +kernel) (by decide +kernel) (by decide +kernel) ?_
    walk_at "rd"
    refine ite_f rfl ?_
    have e912 := e10.trans (e11.trans e12)
    walk_at "rd"
    exact hN' _ _ ⟨a1, a2, odd, P, _, rfl, ⟨b9.ex e912, e912 _ _ hx9, A19.ex e912, A29.ex e912, e912 _ _ hP⟩, noo.ex e912, nob.ex e912⟩
  rintro σ' H12 ⟨a1, a2, odd, P, s6, rfl, F12, noo12, nob12⟩
  refine r_cut2 (fun σ' H' => ∃ s6, σ' = refS p x a1 a2 odd P s6 none none none none none none ∧ RF K H' p (n + 1) x ns a1 a2 P) (fun N hN' => ?_) ?_
  · have A112 := F12.A1
    have hP12 := F12.hP
    unfold refS
    walk_at "rd"
    refine ⟨5, rfl, by decide, by decide, ?_⟩
    refine ways_lc (n := 5) (ws := wm) rfl (by decide) (fun H' e => rz_mine (A112.ex e) (noo12.ex e)) (fun _ => rfl) (fun _ => ⟨rfl, rfl, rfl⟩) fun q4 ys4 H13 _ e13 h13 R4 => ?_
    walk_at "rd"
    refine r_Told (way := 8) rfl (x := "BadBound") (z := "bound") (by simp) (.inr (.inr (.inr (.inr (.inr (.inr (.inr (.inr (.inl ⟨rfl, .inr ⟨a1, ns, rfl, A112.ex e13, nob12.ex e13, rfl, rfl⟩⟩))))))))) fun t8 H14 e14 h14 => ?_
    walk_at "rd"
    refine r_newL (sz_le (by simp)) fun q5 H15 _ e15 h15 => ?_
    have R4' := R4.ex (e14.trans e15)
    have ll : ys4.length = 5 := by rw [R4.len]; rfl
    refine r_cat ((e14.trans e15) _ _ h13) h15 (by simp; omega) fun q6 H16 _ e16 h16 => ?_
    have R6 : TRs H16 (ys4 ++ [.ref t8]) (wm.map (tR "BadPoly") ++ [tR "BadBound" "bound"]) := (R4'.append (TRs.one (e15 _ _ h14))).ex e16
    have e1216 := e13.trans ((e14.trans e15).trans e16)
    have hP16 := e1216 _ _ hP12
    clear R4 R4' h13 h14 h15 e13 e14 e15 e16 ll
    walk_at "rd"
    refine r_newL (sz_le (by simp)) fun q7 H17 _ e17 h17 => ?_
    refine ⟨q7, rfl, ⟨_, SqL.of h17⟩, ?_⟩
    refine words_lc (ws := wm) h17 (e17 _ _ hP16) (by simp) (by simp) (by decide) (fun _ => rfl) (fun _ => ⟨rfl, rfl⟩) fun q8 ys8 H18 _ e18 h18 R8 => ?_
    have ew : wm.map (fun z => [V.bl true, .bl false, .bl false] ++ [.str z]) = wm.map (tR "BadPoly") := List.map_congr_left fun z _ => tr_poly z
    rw [ew] at R8
    walk_at "rd"
    refine r_newT (sz_le (by simp)) fun t9 H19 _ e19 h19 => ?_
    rw [tr_bnd] at h19
    walk_at "rd"
    refine r_newL (sz_le (by simp)) fun q9 H20 _ e20 h20 => ?_
    have l8 : ys8.length = 5 := by rw [R8.len]; rfl
    refine r_cat ((e19.trans e20) _ _ h18) h20 (by simp; omega) fun q10 H21 _ e21 h21 => ?_
    have R10 : TRs H21 (ys8 ++ [.ref t9]) (wm.map (tR "BadPoly") ++ [tR "BadBound" "bound"]) := ((R8.ex (e19.trans e20)).append (TRs.one (e20 _ _ h19))).ex e21
    have e1621 := (e17.trans e18).trans ((e19.trans e20).trans e21)
    refine r_neRows _ (e1621 _ _ h16) h21 (R6.ex e1621) R10 (by decide +kernel) (by decide +kernel) (by decide +kernel) ?_
    walk_at "rd"
    refine ite_f rfl ?_
    walk_at "rd"
    exact hN' _ _ ⟨_, rfl, F12.ex (e1216.trans e1621)⟩
  clear noo12 nob12 s6 F12
  rintro σ' H21 ⟨s6, rfl, F21⟩
  refine r_cut2 (fun σ' H' => ∃ s9, σ' = refS p x a1 a2 odd P s6 s9 none none none none none ∧ RF K H' p (n + 1) x ns a1 a2 P) (fun N hN' => ?_) ?_
  · have A1 := F21.A1
    unfold refS
    walk_at "rd"
    refine r_newT (sz_le (by simp)) fun s0 H22 _ e22 g0 => ?_
    walk_at "rd"
    refine r_newT (sz_le (by simp)) fun s1 H23 _ e23 g1 => ?_
    walk_at "rd"
    refine r_newT (sz_le (by simp)) fun s2 H24 _ e24 g2 => ?_
    walk_at "rd"
    refine r_newT (sz_le (by simp)) fun s3 H25 _ e25 g3 => ?_
    walk_at "rd"
    refine r_newT (sz_le (by simp)) fun s4 H26 _ e26 g4 => ?_
    walk_at "rd"
    refine r_newT (sz_le (by simp)) fun s5 H27 _ e27 g5 => ?_
    walk_at "rd"
    refine r_newT (sz_le (by simp)) fun s6 H28 _ e28 g6 => ?_
    walk_at "rd"
    refine r_newT (sz_le (by simp)) fun s7 H29 _ e29 g7 => ?_
    walk_at "rd"
    refine r_newL (sz_le (by simp)) fun S8 H30 _ e30 g8 => ?_
    walk_at "rd"
    have f7 := e30
    have f6 := e29.trans f7
    have f5 := e28.trans f6
    have f4 := e27.trans f5
    have f3 := e26.trans f4
    have f2 := e25.trans f3
    have f1 := e24.trans f2
    have f0 := e23.trans f1
    have RS : TRs H30 [.ref s0, .ref s1, .ref s2, .ref s3, .ref s4, .ref s5, .ref s6, .ref s7] (shs.map fun t => [t.1, t.2]) := ⟨⟨s0, rfl, f0 _ _ g0⟩, ⟨s1, rfl, f1 _ _ g1⟩, ⟨s2, rfl, f2 _ _ g2⟩, ⟨s3, rfl, f3 _ _ g3⟩, ⟨s4, rfl, f4 _ _ g4⟩, ⟨s5, rfl, f5 _ _ g5⟩, ⟨s6, rfl, f6 _ _ g6⟩, ⟨s7, rfl, f7 _ _ g7⟩, trivial⟩
    have e2130 := e22.trans f0
    refine ⟨S8, rfl, ⟨_, SqL.of g8⟩, ?_⟩
    refine shares_lc (ts := shs) (zs := shz) g8 (A1.ex e2130) RS rfl (by decide) shs_rz (fun _ _ => rfl) (fun _ _ => ⟨rfl, rfl, rfl⟩) fun q11 ys11 H31 _ e31 h31 R11 => ?_
    clear RS g0 g1 g2 g3 g4 g5 g6 g7 g8 f0 f1 f2 f3 f4 f5 f6 f7 e22 e23 e24 e25 e26 e27 e28 e29 e30
    walk_at "rd"
    refine r_newT (sz_le (by simp)) fun u1 H32 _ e32 i1 => ?_
    walk_at "rd"
    refine r_newL (sz_le (by simp)) fun u2 H33 _ e33 i2 => ?_
    walk_at "rd"
    refine r_rep4 i2 fun u3 H34 _ e34 i3 => ?_
    walk_at "rd"
    refine r_newT (sz_le (by simp)) fun u4 H35 _ e35 i4 => ?_
    walk_at "rd"
    refine r_newL (sz_le (by simp)) fun u5 H36 _ e36 i5 => ?_
    walk_at "rd"
    refine r_rep4 i5 fun u6 H37 _ e37 i6 => ?_
    have e3437 := (e35.trans e36).trans e37
    refine r_cat (e3437 _ _ i3) i6 (by simp) fun u7 H38 _ e38 i7 => ?_
    have ku1 := ((e33.trans e34).trans (e3437.trans e38)) _ _ i1
    have ku4 := ((e36.trans e37).trans e38) _ _ i4
    have R12 : TRs H38 ([.ref u1, .ref u1, .ref u1, .ref u1] ++ [.ref u4, .ref u4, .ref u4, .ref u4]) (shz.map fun z => [.str "number", .str z]) := ⟨⟨u1, rfl, ku1⟩, ⟨u1, rfl, ku1⟩, ⟨u1, rfl, ku1⟩, ⟨u1, rfl, ku1⟩, ⟨u4, rfl, ku4⟩, ⟨u4, rfl, ku4⟩, ⟨u4, rfl, ku4⟩, ⟨u4, rfl, ku4⟩, trivial⟩
    have e3138 := (e32.trans e33).trans (e34.trans (e3437.trans e38))
    refine r_neRows _ (e3138 _ _ h31) i7 (R11.ex e3138) R12 (by decide +kernel) (by decide +kernel) (by decide +kernel) ?_
    walk_at "rd"
    refine ite_f rfl ?_
    walk_at "rd"
    exact hN' _ _ ⟨_, rfl, F21.ex (e2130.trans (e31.trans e3138))⟩
  clear F21
  rintro σ' H38 ⟨s9, rfl, F38⟩
  obtain ⟨n0, tl, rfl⟩ : ∃ n0 tl, ns = n0 :: tl := by
    cases ns with
    | nil => exact absurd rfl ok.ne
    | cons n0 tl => exact ⟨n0, tl, rfl⟩
  have n0p : 0 < n0 := ok.2.2
  refine r_seqJ (fun σ' H' => σ' = refS p x a1 a2 odd P s6 s9 none none none none none ∧ RF K H' p (n + 1) x (n0 :: tl) a1 a2 P) (fun N hN' => ?_) ?_
  · unfold refS
    walk_at "rd"
    refine r_tupL (SqL.of F38.hx) fun T0 H39 _ e39 h39 => ?_
    walk_at "rd"
    refine r_list (.inl (SqL.of (e39 _ _ F38.hx))) fun L0 H40 _ e40 h40 => ?_
    have F40 := F38.ex (e39.trans e40)
    walk_at "rd"
    obtain ⟨dx, fs, hi⟩ := F40.A1.inst
    refine ⟨a1, dx, fs, rfl, hi, a1, n0 :: tl, rfl, F40.A1, fun c hc => Nat.lt_of_le_of_lt (hN.2.2 c hc) (by decide), fun z H41 e41 => ⟨⟨z, rfl⟩, ?_⟩⟩
    have F41 := F40.ex e41
    walk_at "rd"
    refine r_ixL F41.hx (v := .int n0) (atI_nat (j := 0) rfl) ?_
    walk_at "rd"
    refine r_Bound (by decide) fun B H42 _ e42 hB => ?_
    have F42 := F41.ex e42
    walk_at "rd"
    refine r_ixL F42.hx (v := .int n0) (atI_nat (j := 0) rfl) ?_
    walk_at "rd"
    refine r_ixL F42.hx (v := .int n0) (atI_nat (j := 0) rfl) ?_
    walk_at "rd"
    refine r_newL (sz_le (by simp)) fun M1 H43 _ e43 h43 => ?_
    refine r_sl ?_
    walk_at "rd"
    refine r_part ?_
    walk_at "rd"
    refine ⟨_, rfl, r_noPart ?_⟩
    refine r_slL1 (SqL.of (e43 _ _ F42.hx)) fun M2 H44 _ e44 h44 => ?_
    refine r_cat (e44 _ _ h43) h44 (by simp; have := ok.2.1; simp at this; omega) fun M3 H45 _ e45 h45 => ?_
    walk_at "rd"
    refine r_PolyL (ns := (n0 + 1) :: tl) h45 ⟨by simp, by have := ok.2.1; simpa using this, by show 0 < n0 + 1; omega⟩ fun a3 H46 _ e46 A3 => ?_
    walk_at "rd"
    refine r_newT (sz_le (by simp)) fun W H47 _ e47 h47 => ?_
    have e4247 := (e43.trans e44).trans ((e45.trans e46).trans e47)
    have F47 := F42.ex e4247
    have A37 := A3.ex e47
    have hB47 := hB.ex e4247
    have h39' := ((e40.trans e41).trans (e42.trans e4247)) _ _ h39
    have h40' := (e41.trans (e42.trans e4247)) _ _ h40
    refine ⟨W, rfl, ⟨_, SqT.of h47⟩, ?_⟩
    have all : ∀ (i : Nat) (v : V), [V.ref T0, .ref L0, .str z, .ref B, .non, .int n0, .ref a3][i]? = some v → ∀ H', Ex H47 H' → EachV K H' a1 v := fun i v hv H' e => by
      have A := F47.A1.ex e
      match i, hv with
      | 0, hv => cases hv; exact each_left T A (.inl ⟨"tuple", by decide, .tup (e _ _ h39')⟩) (.tup (e _ _ h39'))
      | 1, hv => cases hv; exact each_left T A (.inl ⟨"list", by decide, .lst (e _ _ h40')⟩) (.lst (e _ _ h40'))
      | 2, hv => cases hv; exact each_left T A (.inl ⟨"str", by decide, .str _⟩) (.str _)
      | 3, hv => cases hv; exact each_bound T A (hB47.ex e) A.no (hB47.ex e).no
      | 4, hv => cases hv; exact each_left T A (.inl ⟨"NoneType", by decide, .non⟩) .non
      | 5, hv => cases hv; exact each_left T A (.inl ⟨"int", by decide, .int _⟩) (.int _)
      | 6, hv => cases hv; exact each_poly T A (A37.ex e) (fun z => by have := (List.cons.inj z).1; omega)
    refine r_lcF (k := 12) (walk_tup (xs := [V.ref T0, .ref L0, .str z, .ref B, .non, .int n0, .ref a3])) (fun _ => false) (fun _ => .non) (by simp) (fun H' e => e.sqt (SqT.of h47)) (fun _ => rfl) ?_ (fun _ _ _ _ c => by cases c) ?_
    · rintro j v H0 H' hj e0 ⟨rfl, hv⟩
      obtain ⟨q1, q2⟩ := all j v hv _ e0
      refine ⟨Ex.refl _, fun R r => ?_⟩
      walk_at "rd"
      refine q1 _ ?_
      walk_at "rd"
      refine ite_f rfl ?_
      walk_at "rd"
      refine q2 _ ?_
      walk_at "rd"
      exact r _ (Ex.refl _)
    intro D1 H48 _ e48 hl1
    rw [given_none] at hl1
    walk_at "rd"
    refine r_newL (Nat.zero_le _) fun D2 H49 _ e49 h49 => ?_
    refine r_neInts (xs := []) (ys := []) (e49 _ _ hl1) h49 ?_
    walk_at "rd"
    refine ite_f rfl ?_
    walk_at "rd"
    exact hN' _ _ ⟨rfl, F47.ex (e48.trans e49)⟩
  clear F38
  rintro σ' H49 ⟨rfl, F49⟩
  refine r_cut4 (fun σ' H' => ∃ s6 s13 N1 s15, σ' = refS p x a1 a2 odd P s6 s9 s13 (some (.ref N1)) s15 none none ∧ RF K H' p (n + 1) x (n0 :: tl) a1 a2 P ∧ H' N1 = some (.tup [.bl false, .bl true, .bl false])) (fun N hN' => ?_) ?_
  · unfold refS
    walk_at "rd"
    refine r_list (.inl (SqL.of F49.hx)) fun L1 H50 _ e50 h50 => ?_
    walk_at "rd"
    refine r_newL (sz_le (by simp)) fun L2 H51 _ e51 h51 => ?_
    refine r_cat (e51 _ _ h50) h51 (by simp; have := ok.2.1; simp at this; omega) fun L3 H52 _ e52 h52 => ?_
    walk_at "rd"
    have l7 : tl.length ≤ 5 := by simp at ln; omega
    refine r_mkKN rfl (fun _ => rfl) (r_PolyL (ns := (n0 :: tl) ++ [0]) (by rw [h52, List.map_append]; rfl) ⟨by simp, by simp; omega, by simpa using n0p⟩ fun a3 H53 _ e53 A3 => ?_)
    have F53 := F49.ex ((e50.trans e51).trans (e52.trans e53))
    walk_at "rd"
    refine r_newT (sz_le (by simp)) fun N1 H54 _ e54 h54 => ?_
    walk_at "rd"
    refine r_newT (sz_le (by simp)) fun N2 H55 _ e55 h55 => ?_
    walk_at "rd"
    refine r_newT (sz_le (by simp)) fun N3 H56 _ e56 h56 => ?_
    refine r_gTup h56 rfl (r_gCons (r_gName (r_gCons (r_gName (r_gNil ?_)))))
    have e5356 := e54.trans (e55.trans e56)
    have F56 := F53.ex e5356
    have A36 := A3.ex e5356
    have hN1 := (e55.trans e56) _ _ h54
    have hN2 := e56 _ _ h55
    walk_at "rd"
    refine r_Told (way := 2) rfl (x := "Misfit") (z := "degree") (by simp) (.inr (.inr (.inl ⟨rfl, .inr ⟨a1, _, a3, _, rfl, F56.A1, rfl, A36, by simp, rfl, rfl⟩⟩))) fun t1 H57 e57 h57 => ?_
    have F57 := F56.ex e57
    have A37 := A36.ex e57
    walk_at "rd"
    refine r_Told (way := 3) rfl (x := "BadNumber") (z := "its") (by simp) (.inr (.inr (.inr (.inl ⟨rfl, .inr ⟨a1, _, a3, _, rfl, F57.A1, rfl, A37, rfl, rfl⟩⟩)))) fun t2 H58 e58 h58 => ?_
    have F58 := F57.ex e58
    have A38 := A37.ex e58
    walk_at "rd"
    refine r_Told (way := 4) rfl (x := "BadNumber") (z := "mine") (by simp) (.inr (.inr (.inr (.inr (.inl ⟨rfl, .inr ⟨a1, _, a3, _, rfl, F58.A1, rfl, A38, rfl, rfl⟩⟩))))) fun t3 H59 e59 h59 => ?_
    have F59 := F58.ex e59
    walk_at "rd"
    refine r_Told (way := 5) rfl (x := "Misfit") (z := "degree") (by simp) (.inr (.inr (.inr (.inr (.inr (.inl ⟨rfl, .inr ⟨a2, _, rfl, F59.A2, rfl, rfl, rfl⟩⟩)))))) fun t4 H60 e60 h60 => ?_
    walk_at "rd"
    refine r_newL (sz_le (by simp)) fun q1 H61 _ e61 h61 => ?_
    have F61 := F59.ex (e60.trans e61)
    have R1 : TRs H61 [.ref t1, .ref t2, .ref t3, .ref t4] [tR "Misfit" "degree", tR "BadNumber" "its", tR "BadNumber" "mine", tR "Misfit" "degree"] :=
      ⟨⟨t1, rfl, ((e58.trans e59).trans (e60.trans e61)) _ _ h57⟩, ⟨t2, rfl, (e59.trans (e60.trans e61)) _ _ h58⟩, ⟨t3, rfl, (e60.trans e61) _ _ h59⟩, ⟨t4, rfl, e61 _ _ h60⟩, trivial⟩
    have e5661 := ((e57.trans e58).trans (e59.trans e60)).trans e61
    walk_at "rd"
    refine r_newT (sz_le (by simp)) fun w1 H62 _ e62 i1 => ?_
    refine r_catT ((e5661.trans e62) _ _ hN2) i1 (by simp) (by simp) (by simp) fun v1 H63 _ e63 j1 => ?_
    rw [tr_mis] at j1
    have e5663 := e5661.trans (e62.trans e63)
    walk_at "rd"
    refine r_newT (sz_le (by simp)) fun w2 H64 _ e64 i2 => ?_
    refine r_catT ((e5663.trans e64) _ _ hN1) i2 (by simp) (by simp) (by simp) fun v2 H65 _ e65 j2 => ?_
    rw [tr_num] at j2
    have e5665 := e5663.trans (e64.trans e65)
    walk_at "rd"
    refine r_newT (sz_le (by simp)) fun w3 H66 _ e66 i3 => ?_
    refine r_catT ((e5665.trans e66) _ _ hN1) i3 (by simp) (by simp) (by simp) fun v3 H67 _ e67 j3 => ?_
    rw [tr_num] at j3
    have e5667 := e5665.trans (e66.trans e67)
    walk_at "rd"
    refine r_newT (sz_le (by simp)) fun w4 H68 _ e68 i4 => ?_
    refine r_catT ((e5667.trans e68) _ _ hN2) i4 (by simp) (by simp) (by simp) fun v4 H69 _ e69 j4 => ?_
    rw [tr_mis] at j4
    walk_at "rd"
    refine r_newL (sz_le (by simp)) fun q2 H70 _ e70 h70 => ?_
    have e6970 := e70
    have e6770 := (e68.trans e69).trans e70
    have e6570 := (e66.trans e67).trans e6770
    have e6370 := (e64.trans e65).trans e6570
    have e6170 := (e62.trans e63).trans e6370
    have R2 : TRs H70 [.ref v1, .ref v2, .ref v3, .ref v4] [tR "Misfit" "degree", tR "BadNumber" "its", tR "BadNumber" "mine", tR "Misfit" "degree"] :=
      ⟨⟨v1, rfl, e6370 _ _ j1⟩, ⟨v2, rfl, e6570 _ _ j2⟩, ⟨v3, rfl, e6770 _ _ j3⟩, ⟨v4, rfl, e70 _ _ j4⟩, trivial⟩
    refine r_neRows _ (e6170 _ _ h61) h70 (R1.ex e6170) R2 (by decide +kernel) (by decide +kernel) (by decide +kernel) ?_
    walk_at "rd"
    refine ite_f rfl ?_
    walk_at "rd"
    exact hN' _ _ ⟨_, _, N1, _, rfl, F61.ex e6170, (e5661.trans e6170) _ _ hN1⟩
  clear F49 s6
  rintro σ' H70 ⟨s6, s13, N1, s15, rfl, F70, hN1⟩
  refine r_cut2 (fun σ' H' => ∃ sv, σ' = refS p x a1 a2 odd P s6 s9 s13 (some (.ref N1)) s15 (some sv) none ∧ RF K H' p (n + 2) x (n0 :: tl) a1 a2 P ∧ SV K H' a1 sv) (fun N hN' => ?_) ?_
  · unfold refS
    walk_at "rd"
    refine r_newL (sz_le (by simp)) fun L1 H71 _ e71 h71 => ?_
    walk_at "rd"
    refine r_newT (sz_le (by simp)) fun L2 H72 _ e72 h72 => ?_
    walk_at "rd"
    refine r_newL (sz_le (by simp)) fun L3 H73 _ e73 h73 => ?_
    walk_at "rd"
    have F73 := F70.ex ((e71.trans e72).trans e73)
    refine ⟨p, n + 1, L3, _, rfl, rfl, h73, F73.bag.ne h73 (fun _ _ _ z => by cases z), by simp, by simp, by omega, F73.bag, fun sv H74 hsv g74 b74 => ?_⟩
    have S73 : SV K H73 a1 sv := by
      simp only [List.mem_cons, List.mem_nil_iff, or_false] at hsv
      rcases hsv with h | h | h | h | h | h
      · exact .inl h
      · exact .inr (.inl h)
      · exact .inr (.inr (.inl h))
      · exact .inr (.inr (.inr (.inl ⟨L1, h, (e72.trans e73) _ _ h71⟩)))
      · exact .inr (.inr (.inr (.inr (.inl ⟨L2, h, e73 _ _ h72⟩))))
      · exact .inr (.inr (.inr (.inr (.inr h))))
    have S74 := S73.bg g74 F73.bag
    have F74 := F73.bg (n' := n + 2) g74 (by rw [show n + 2 = n + 1 + 1 by omega]; exact b74)
    have hN74 := g74.at_ (F73.bag.ne (((e71.trans e72).trans e73) _ _ hN1) fun _ _ _ z => by cases z) (((e71.trans e72).trans e73) _ _ hN1)
    obtain ⟨kn, hi⟩ := S74.kn F74.A1
    walk_at "rd"
    refine r_Told (way := 9) rfl (x := "BadNumber") (z := "x") (by simp) (.inr (.inr (.inr (.inr (.inr (.inr (.inr (.inr (.inr (.inl ⟨rfl, rfl, rfl, a1, _, rfl, F74.A1, kn, hi⟩)))))))))) fun t1 H75 e75 h75 => ?_
    walk_at "rd"
    refine r_newT (sz_le (by simp)) fun w1 H76 _ e76 i1 => ?_
    refine r_catT ((e75.trans e76) _ _ hN74) i1 (by simp) (by simp) (by simp) fun v1 H77 _ e77 j1 => ?_
    rw [tr_num] at j1
    refine r_neSame (.tuple ((tR "BadNumber" "x").map toD)) (.tup (SqT.of ((e76.trans e77) _ _ h75)) (dpA_toD (by decide +kernel))) (.tup (SqT.of j1) (dpA_toD (by decide +kernel))) (by decide +kernel) (by decide +kernel) ?_
    walk_at "rd"
    refine ite_f rfl ?_
    walk_at "rd"
    have e7477 := e75.trans (e76.trans e77)
    exact hN' _ _ ⟨sv, rfl, F74.ex e7477, S74.ex e7477⟩
  clear F70 hN1
  rintro σ' H77 ⟨sv, rfl, F77, S77⟩
  refine r_cut2 (fun σ' H' => ∃ s17 s6, σ' = refS p x a1 a2 odd P s6 s9 s13 (some (.ref N1)) s15 (some sv) s17 ∧ RF K H' p (n + 5) x (n0 :: tl) a1 a2 P) (fun N hN' => ?_) ?_
  · unfold refS
    have first : ∀ {R : VK}, (∀ v, (v = .non ∨ v = .bl false ∨ v = .str "1 2") → R v H77) → tIf (tOr (tB (tCB (rIsi K) (tCons (tVar 16) (tCons (tC (V.ty "int")) tNil)))) (tTest (tOp (fun x y H Q => y = V.non ∧ Q (V.bl (decide (x = V.non))) H) (tVar 16) (tC V.non)))) (tVar 16) (tC (V.str "1 2"))
        [some (V.ref p), some (V.ref x), some (V.ref a1), some (V.ref a2), some odd, some (V.ref P), s6, none, none, s9, none, none, none, s13, some (V.ref N1), s15, some sv, none, none, none, none] H77 R := by
      intro R hR
      have go : ∀ {t : Value} {b : Bool}, TyX K H77 sv t → PySem.W.kitOne K t (.type "int") = some b → ((b = true ∧ sv = .bl false) ∨ (b = false ∧ sv ≠ .bl false)) → (sv = .non ∨ sv ≠ .non) → tIf (tOr (tB (tCB (rIsi K) (tCons (tVar 16) (tCons (tC (V.ty "int")) tNil)))) (tTest (tOp (fun x y H Q => y = V.non ∧ Q (V.bl (decide (x = V.non))) H) (tVar 16) (tC V.non)))) (tVar 16) (tC (V.str "1 2"))
          [some (V.ref p), some (V.ref x), some (V.ref a1), some (V.ref a2), some odd, some (V.ref P), s6, none, none, s9, none, none, none, s13, some (V.ref N1), s15, some sv, none, none, none, none] H77 R := by
        intro t b ht hk hb hn
        walk_at "rd"
        refine ⟨_, _, _, _, b, rfl, .ty "int", ht, hk, ?_⟩
        walk_at "rd"
        rcases hb with ⟨rfl, rfl⟩ | ⟨rfl, _⟩
        · refine ite_t rfl ?_
          refine ite_t rfl ?_
          walk_at "rd"
          exact hR _ (.inr (.inl rfl))
        · refine ite_f rfl ?_
          walk_at "rd"
          refine ⟨rfl, ?_⟩
          walk_at "rd"
          rcases hn with rfl | hn
          · refine ite_t (decide_eq_true rfl) ?_
            walk_at "rd"
            exact hR _ (.inl rfl)
          · refine ite_f (decide_eq_false hn) ?_
            walk_at "rd"
            exact hR _ (.inr (.inr rfl))
      rcases S77 with h | h | h | ⟨a, h, g⟩ | ⟨a, h, g⟩ | h
      · exact go (t := .type "NoneType") (b := false) (by rw [h]; exact .base .non) (kit_ty (by decide +kernel)) (.inr ⟨rfl, by rw [h]; simp⟩) (.inl h)
      · exact go (t := .type "bool") (b := true) (by rw [h]; exact .base (.bl _)) (kit_ty (by decide +kernel)) (.inl ⟨rfl, h⟩) (.inr (by rw [h]; simp))
      · exact go (t := .type "str") (b := false) (by rw [h]; exact .base (.str _)) (kit_ty (by decide +kernel)) (.inr ⟨rfl, by rw [h]; simp⟩) (.inr (by rw [h]; simp))
      · exact go (t := .type "list") (b := false) (by rw [h]; exact .base (.lst g)) (kit_ty (by decide +kernel)) (.inr ⟨rfl, by rw [h]; simp⟩) (.inr (by rw [h]; simp))
      · exact go (t := .type "tuple") (b := false) (by rw [h]; exact .base (.tup g)) (kit_ty (by decide +kernel)) (.inr ⟨rfl, by rw [h]; simp⟩) (.inr (by rw [h]; simp))
      · obtain ⟨dx, fs, hi⟩ := F77.A1.inst
        exact go (b := false) (by rw [h]; exact ty_own T (C := "Poly") (by decide) hi) (T.cc_Poly.ty "int" (by decide)).2.1 (.inr ⟨rfl, by rw [h]; simp⟩) (.inr (by rw [h]; simp))
    refine r_seq (r_asg (r_lst (r_cons (first fun v0 hv0 => ?_))))
    walk_at "rx"
    refine r_newL (Nat.zero_le _) fun L1 H78 _ e78 h78 => ?_
    walk_at "rx"
    refine r_newL (sz_le (by simp)) fun L2a H79 _ e79 h79 => ?_
    walk_at "rx"
    refine r_repI (m := 65) h79 (by decide) fun L2 H80 _ e80 h80 => ?_
    walk_at "rx"
    refine r_newL (sz_le (by simp)) fun L3 H81 _ e81 h81 => ?_
    walk_at "rx"
    refine r_newL (sz_le (by simp)) fun L4 H82 _ e82 h82 => ?_
    walk_at "rx"
    refine r_newL (sz_le (by simp)) fun L5 H83 _ e83 h83 => ?_
    walk_at "rx"
    refine fun D6 hD6 => ⟨upd_same, [(.inr "a", .int 1)], rfl, by decide, ?_⟩
    have h84 : upd (upd H83 D6 (.dK [])) D6 (.dK (mergeK [] [(.inr "a", .int 1)])) D6 = some (.dK (mergeK [] [(.inr "a", .int 1)])) := upd_same
    have e84 : Ex H83 (upd (upd H83 D6 (.dK [])) D6 (.dK (mergeK [] [(.inr "a", .int 1)]))) := by rw [upd_upd]; exact Ex.new hD6
    generalize upd (upd H83 D6 (.dK [])) D6 (.dK (mergeK [] [(.inr "a", .int 1)])) = H84 at h84 e84 ⊢
    walk_at "rx"
    refine r_newL (sz_le (by simp)) fun L7i H85 _ e85 h85 => ?_
    walk_at "rx"
    refine r_newL (sz_le (by simp)) fun L7 H86 _ e86 h86 => ?_
    walk_at "rx"
    refine r_newL (sz_le (by simp)) fun L8 H87 _ e87 h87 => ?_
    walk_at "rx"
    have k86 := e87
    have k85 := e86.trans k86
    have k84 := e85.trans k85
    have k83 := e84.trans k84
    have k82 := e83.trans k83
    have k81 := e82.trans k82
    have k80 := e81.trans k81
    have k79 := e80.trans k80
    have k78 := e79.trans k79
    have k77 := e78.trans k78
    have F87 := F77.ex k77
    refine r_Great F87.bag (by omega) fun r H88 r0 r1 g88 b88 => ?_
    have F88 := F87.bg g88 b88
    have gi : ∀ {b : Addr} {xs : List Int}, H87 b = some (.lst (xs.map V.int)) → H88 b = some (.lst (xs.map V.int)) := fun h => bg_lst g88 F87.bag h
    have go : ∀ {b : Addr} {o : HO}, (∀ L x y, o ≠ .lst [.ref L, .int x, .int y]) → H87 b = some o → H88 b = some o := fun ho h => g88.at_ (F87.bag.ne h ho) h
    have m1 : H88 L1 = some (.lst (([] : List Int).map V.int)) := gi (k78 _ _ h78)
    have m2 := gi (k80 _ _ h80)
    have m3 := go (fun _ _ _ z => by cases z) (k81 _ _ h81)
    have m4 := go (fun _ _ _ z => by cases z) (k82 _ _ h82)
    have m5 := go (fun _ _ _ z => by cases z) (k83 _ _ h83)
    have m6 := go (fun _ _ _ z => by cases z) (k84 _ _ h84)
    have m7i := go (fun _ _ _ z => by cases z) (k85 _ _ h85)
    have m7 := go (fun _ _ _ z => by cases z) (k86 _ _ h86)
    have m8 : H88 L8 = some (.lst ([(0 : Int)].map V.int)) := gi h87
    clear h78 h79 h80 h81 h82 h83 h84 h85 h86 h87 k86 k85 k84 k83 k82 k81 k80 k79 k78 k77 e78 e79 e80 e81 e82 e83 e84 e85 e86 e87 gi go g88 b88 F87 first S77 F77
    walk_at "rx"
    refine r_newL (sz_le (by simp)) fun L9 H89 _ e89 h89 => ?_
    walk_at "rx"
    refine r_newT (sz_le (by simp)) fun T10 H90 _ e90 h90 => ?_
    walk_at "rx"
    refine r_newL (sz_le (by simp)) fun R H91 _ e91 h91 => ?_
    have f8991 := e90.trans e91
    have f8891 := e89.trans f8991
    have F91 := F88.ex f8891
    walk_at "rd"
    refine ⟨R, rfl, ⟨_, SqL.of h91⟩, ?_⟩
    have bad : ∀ (i : Nat) (v : V) (z : Str), [v0, .ref L1, .ref L2, .ref L3, .ref L4, .ref L5, .ref D6, .ref L7, .ref L8, .ref L9, .ref T10][i]? = some v → wz[i]? = some z → ∀ H', Ex H91 H' → BadR K H' v z := fun i v z hv hz H' e => by
      have q8 := f8891.trans e
      match i, hv, hz with
      | 0, hv, hz =>
        cases hv; cases hz
        rcases hv0 with rfl | rfl | rfl
        · exact .kind (.inl ⟨"NoneType", by decide, .non, by decide⟩)
        · exact .kind (.inl ⟨"bool", by decide, .bl _, by decide⟩)
        · exact .kind (.inl ⟨"str", by decide, .str _, by decide⟩)
      | 1, hv, hz => cases hv; cases hz; exact .len (ns := []) ⟨L1, rfl, .inl (q8 _ _ m1)⟩ (by decide) (by decide)
      | 2, hv, hz => cases hv; cases hz; exact .len (ns := List.replicate 65 1) ⟨L2, rfl, .inl (q8 _ _ m2)⟩ (by simp) (by simp)
      | 3, hv, hz => cases hv; cases hz; exact .items ⟨L3, rfl, .inl (q8 _ _ m3)⟩ (by simp) (kn_two (kn_int _) (.inl ⟨"bool", by decide, .bl _⟩)) rfl
      | 4, hv, hz => cases hv; cases hz; exact .items ⟨L4, rfl, .inl (q8 _ _ m4)⟩ (by simp) (kn_two (kn_int _) (kn_str _)) rfl
      | 5, hv, hz => cases hv; cases hz; exact .items ⟨L5, rfl, .inl (q8 _ _ m5)⟩ (by simp) (fun x hx => by rw [List.mem_singleton.mp hx]; exact .inl ⟨"bool", by decide, .bl _⟩) rfl
      | 6, hv, hz => cases hv; cases hz; exact .kind (.inl ⟨"dict", by decide, .dK (q8 _ _ m6), by decide⟩)
      | 7, hv, hz => cases hv; cases hz; exact .items ⟨L7, rfl, .inl (q8 _ _ m7)⟩ (by simp) (kn_two (kn_int _) (.inl ⟨"list", by decide, .lst (q8 _ _ m7i)⟩)) rfl
      | 8, hv, hz => cases hv; cases hz; exact .head (ns := [0]) ⟨L8, rfl, .inl (q8 _ _ m8)⟩ (by decide) (by decide)
      | 9, hv, hz => cases hv; cases hz; exact .head (ns := [-1 - r, 1]) ⟨L9, rfl, .inl ((f8991.trans e) _ _ h89)⟩ (by simp) (by show ¬ 0 < -1 - r; omega)
      | 10, hv, hz => cases hv; cases hz; exact .head (ns := [0, 0, 1]) ⟨T10, rfl, .inr ((e91.trans e) _ _ h90)⟩ (by decide) (by decide)
    refine rows_lc h91 rfl bad (fun _ => rfl) (fun _ => rfl) fun q1 ys1 H92 _ e92 h92 R1 => ?_
    clear bad m1 m2 m3 m4 m5 m6 m7i m7 m8 h89 h90 h91
    walk_at "rd"
    refine r_newT (sz_le (by simp)) fun w1 H93 _ e93 i1 => ?_
    refine r_catT ((e92.trans e93) _ _ F91.hP) i1 (by simp) (by simp) (by simp) fun v1 H94 _ e94 j1 => ?_
    rw [tr_poly] at j1
    walk_at "rd"
    refine r_newL (sz_le (by simp)) fun u1 H95 _ e95 x1 => ?_
    walk_at "rd"
    refine r_repG (m := 8) x1 (by decide) fun u2 H96 _ e96 x2 => ?_
    have f9296 := (e93.trans e94).trans (e95.trans e96)
    walk_at "rd"
    refine r_newT (sz_le (by simp)) fun w2 H97 _ e97 i2 => ?_
    refine r_catT ((e92.trans (f9296.trans e97)) _ _ F91.hP) i2 (by simp) (by simp) (by simp) fun v2 H98 _ e98 j2 => ?_
    rw [tr_poly] at j2
    walk_at "rd"
    refine r_newL (sz_le (by simp)) fun u3 H99 _ e99 x3 => ?_
    walk_at "rd"
    refine r_repG (m := 3) x3 (by decide) fun u4 H100 _ e100 x4 => ?_
    have f96100 := (e97.trans e98).trans (e99.trans e100)
    refine r_cat (f96100 _ _ x2) x4 (by simp) fun u5 H101 _ e101 x5 => ?_
    have f92101 := f9296.trans (f96100.trans e101)
    have R2 : TRs H101 (List.replicate 8 (.ref v1) ++ List.replicate 3 (.ref v2)) (wz.map (tR "BadPoly")) :=
      TRs.append (ps := List.replicate 8 (tR "BadPoly" "numbers")) (qs := List.replicate 3 (tR "BadPoly" "first")) (TRs.rep (((e95.trans e96).trans (f96100.trans e101)) _ _ j1) 8) (TRs.rep (((e99.trans e100).trans e101) _ _ j2) 3)
    refine r_neRows _ (f92101 _ _ h92) x5 (R1.ex f92101) R2 (by decide +kernel) (by decide +kernel) (by decide +kernel) ?_
    walk_at "rd"
    refine ite_f rfl ?_
    walk_at "rd"
    refine hN' _ _ ⟨_, _, rfl, ?_⟩
    have := F91.ex (e92.trans f92101)
    rw [show n + 2 + 3 = n + 5 by omega] at this
    exact this
  clear F77 S77
  rintro σ' H78 ⟨s17, s6, rfl, F78⟩
  unfold refS
  walk_at "rd"
  refine r_newL (sz_le (by simp)) fun L1 H79 _ e79 h79 => ?_
  walk_at "rd"
  refine r_repI (m := 33) h79 (by decide) fun L2 H80 _ e80 h80 => ?_
  walk_at "rd"
  refine r_PolyL (ns := List.replicate 33 1) h80 ⟨by decide, by decide, by decide⟩ fun wd H81 _ e81 W1 => ?_
  walk_at "rd"
  refine r_newL (sz_le (by simp)) fun L3 H82 _ e82 h82 => ?_
  walk_at "rd"
  refine r_newL (sz_le (by simp)) fun L4 H83 _ e83 h83 => ?_
  walk_at "rd"
  refine r_repI (m := 31) h83 (by decide) fun L5 H84 _ e84 h84 => ?_
  refine r_cat ((e83.trans e84) _ _ h82) h84 (by simp) fun L6 H85 _ e85 h85 => ?_
  walk_at "rd"
  refine r_PolyL (ns := 2 :: List.replicate 31 0) h85 ⟨by decide, by decide, by decide⟩ fun tg H86 _ e86 W2 => ?_
  have W1' := W1.ex ((e82.trans e83).trans (e84.trans (e85.trans e86)))
  walk_at "rd"
  refine .inr ⟨rfl, wd, _, wd, _, rfl, W1', rfl, W1', by decide, fun t1 H87 e87 h87 => ?_⟩
  walk_at "rd"
  refine r_newT (sz_le (by simp)) fun t2 H88 _ e88 h88 => ?_
  refine r_eqSame (.tuple [.str "numbers", .int 64]) (.tup (SqT.of (e88 _ _ h87)) (.cons (.str _) (.cons (.int _) .nil))) (.tup (SqT.of h88) (.cons (.str _) (.cons (.int _) .nil))) (by decide +kernel) (by decide +kernel) ?_
  walk_at "rd"
  refine ite_t rfl ?_
  walk_at "rd"
  refine r_fldG ?_
  walk_at "rd"
  have z1 : ∀ c ∈ List.replicate 33 (1 : Int), Z 200 c := fun c m => by rw [(List.mem_replicate.mp m).2]; unfold Z; decide
  have z2 : ∀ c ∈ 2 :: List.replicate 31 (0 : Int), Z 200 c := fun c m => by
    rcases List.mem_cons.mp m with rfl | m
    · unfold Z; decide
    · rw [(List.mem_replicate.mp m).2]; unfold Z; decide
  refine r_Times (W1'.ex (e87.trans e88)) (W2.ex (e87.trans e88)) (by decide) z1 z2 fun pr H89 _ e89 PR => ?_
  obtain ⟨_, _, _, dx, t3, h4, h5⟩ := PR
  refine ⟨pr, _, dx, _, _, rfl, h4, T.cl_Poly, T.na_Poly_numbers, rfl, ?_⟩
  walk_at "rd"
  refine r_newL (sz_le (by simp)) fun M1 H90 _ e90 i90 => ?_
  walk_at "rd"
  refine r_repI (m := 33) i90 (by decide) fun M2 H91 _ e91 i91 => ?_
  walk_at "rd"
  refine r_newL (sz_le (by simp)) fun M3 H92 _ e92 i92 => ?_
  walk_at "rd"
  refine r_repI (m := 31) i92 (by decide) fun M4 H93 _ e93 i93 => ?_
  refine r_cat ((e92.trans e93) _ _ i91) i93 (by simp) fun M5 H94 _ e94 i94 => ?_
  walk_at "rd"
  refine r_tupL (SqL.of i94) fun M6 H95 _ e95 i95 => ?_
  rw [← List.map_append] at i95
  refine r_eqInts (((e90.trans e91).trans (e92.trans e93)).trans (e94.trans e95) _ _ h5) i95 ?_
  rw [show decide (GM.mulH (List.replicate 33 1) (2 :: List.replicate 31 0) = List.replicate 33 2 ++ List.replicate 31 0) = true by decide +kernel]
  exact k _

end K04
namespace K04
open PySem PySem.Spec PyProof.Rows L2 GS TL
local macro_rules | `(tactic| walk_at "rd") => `(tactic| (repeat (first
  | with_reducible refine r_next ?_
  | with_reducible refine r_seq ?_
  | with_reducible refine r_ret ?_
  | with_reducible refine r_ifS ?_
  | with_reducible refine r_asg ?_
  | with_reducible refine r_drop ?_
  | with_reducible refine r_op ?_
  | with_reducible refine r_un ?_
  | with_reducible refine r_cbInt ?_
  | with_reducible refine r_cbAbs ?_
  | with_reducible refine r_cbLen ?_
  | with_reducible refine r_cbList ?_
  | with_reducible refine r_cbTup ?_
  | with_reducible refine r_iEnT ?_
  | with_reducible refine r_iEnL ?_
  | with_reducible refine r_zipA ?_
  | with_reducible refine r_augS ?_
  | with_reducible refine r_cb ?_
  | with_reducible refine r_call ?_
  | with_reducible refine r_make ?_
  | with_reducible refine r_callN0 ?_
  | with_reducible refine r_makeK0 ?_
  | with_reducible refine r_makeS ?_
  | with_reducible refine r_callS ?_
  | with_reducible refine r_cons ?_
  | with_reducible refine r_nil ?_
  | with_reducible refine r_test ?_
  | with_reducible refine r_B ?_
  | with_reducible refine r_and ?_
  | with_reducible refine r_or ?_
  | with_reducible refine r_not ?_
  | with_reducible refine r_andV ?_
  | with_reducible refine r_orV ?_
  | with_reducible refine r_notV ?_
  | with_reducible refine r_if ?_
  | with_reducible refine r_tup ?_
  | with_reducible refine r_lst ?_
  | with_reducible refine r_c ?_
  | with_reducible refine r_lc ?_
  | with_reducible refine r_chain ?_
  | with_reducible refine r_iT ?_
  | with_reducible refine r_iL ?_
  | with_reducible refine r_iR1 ?_
  | with_reducible refine r_iR2 ?_
  | with_reducible refine r_iR3 ?_
  | with_reducible refine r_asgG ?_
  | with_reducible refine r_gSub ?_
  | with_reducible refine r_for ?_
  | with_reducible refine r_smeth ?_
  | with_reducible refine r_par ?_
  | with_reducible refine r_parK ?_
  | with_reducible refine r_gCons ?_
  | with_reducible refine r_gNil ?_
  | with_reducible refine r_gName ?_
  | with_reducible refine r_intI ?_
  | with_reducible refine r_intB ?_
  | with_reducible refine r_absI ?_
  | with_reducible refine r_k ?_
  | with_reducible refine r_kV ?_
  | ((with_reducible show tVar _ _ _ _); refine r_var3 ?_ (by rfl))
  | with_reducible refine r_I0 ?_
  | with_reducible refine r_U ?_
  | with_reducible refine r_eqI ?_
  | with_reducible refine r_neI ?_
  | dsimp only)))
local macro_rules | `(tactic| walk_at "rx") => `(tactic| (repeat (first
  | with_reducible refine r_next ?_
  | with_reducible refine r_ret ?_
  | with_reducible refine r_ifS ?_
  | with_reducible refine r_asg ?_
  | with_reducible refine r_drop ?_
  | with_reducible refine r_op ?_
  | with_reducible refine r_un ?_
  | with_reducible refine r_cbInt ?_
  | with_reducible refine r_cbAbs ?_
  | with_reducible refine r_cbLen ?_
  | with_reducible refine r_cbList ?_
  | with_reducible refine r_cbTup ?_
  | with_reducible refine r_iEnT ?_
  | with_reducible refine r_iEnL ?_
  | with_reducible refine r_zipA ?_
  | with_reducible refine r_augS ?_
  | with_reducible refine r_cb ?_
  | with_reducible refine r_call ?_
  | with_reducible refine r_make ?_
  | with_reducible refine r_callN0 ?_
  | with_reducible refine r_makeK0 ?_
  | with_reducible refine r_makeS ?_
  | with_reducible refine r_callS ?_
  | with_reducible refine r_cons ?_
  | with_reducible refine r_nil ?_
  | with_reducible refine r_test ?_
  | with_reducible refine r_B ?_
  | with_reducible refine r_and ?_
  | with_reducible refine r_or ?_
  | with_reducible refine r_not ?_
  | with_reducible refine r_andV ?_
  | with_reducible refine r_orV ?_
  | with_reducible refine r_notV ?_
  | with_reducible refine r_if ?_
  | with_reducible refine r_tup ?_
  | with_reducible refine r_lst ?_
  | with_reducible refine r_c ?_
  | with_reducible refine r_lc ?_
  | with_reducible refine r_chain ?_
  | with_reducible refine r_iT ?_
  | with_reducible refine r_iL ?_
  | with_reducible refine r_iR1 ?_
  | with_reducible refine r_iR2 ?_
  | with_reducible refine r_iR3 ?_
  | with_reducible refine r_asgG ?_
  | with_reducible refine r_gSub ?_
  | with_reducible refine r_for ?_
  | with_reducible refine r_smeth ?_
  | with_reducible refine r_par ?_
  | with_reducible refine r_parK ?_
  | with_reducible refine r_gCons ?_
  | with_reducible refine r_gNil ?_
  | with_reducible refine r_gName ?_
  | with_reducible refine r_intI ?_
  | with_reducible refine r_intB ?_
  | with_reducible refine r_absI ?_
  | with_reducible refine r_k ?_
  | with_reducible refine r_kV ?_
  | ((with_reducible show tVar _ _ _ _); refine r_var3 ?_ (by rfl))
  | with_reducible refine r_I0 ?_
  | with_reducible refine r_U ?_
  | with_reducible refine r_eqI ?_
  | with_reducible refine r_neI ?_
  | dsimp only)))
/-! ### the law -/
def spLaw (K : PySem.W.Frag) : Sp := sp1 fun v H Q _ => ∃ (L : Addr) (xs : List Int), v = .ref L ∧ SqL K H L (xs.map V.int) ∧ (∀ x ∈ xs, Z 2000000 x) ∧ ∀ H', Q (.bl true) H'
theorem ok_law {P : Program} {w : World} {K : PySem.W.Frag} {mg : Str → Option Value} {base : Heap} {fd : FuncData} (T : Txt K mg) (F : FunD K "law" "law" (defArgs s_law) (defBody s_law) (defScope s_law) [] [] (He.ga K "law") fd) : FnOk P w K mg base (L2.CX P w) 9 (He.ga K "law") fd ["script"] (spLaw K) := by
  obtain ⟨fd__law_refused, F__law_refused, B__law_refused⟩ := ok__law_refused (P := P) (w := w) (base := base) T
  obtain ⟨fd__law_numbers, F__law_numbers, B__law_numbers⟩ := ok__law_numbers (P := P) (w := w) (base := base) T
  obtain ⟨fd__law_draw, F__law_draw, B__law_draw⟩ := ok__law_draw (P := P) (w := w) (base := base) T
  obtain ⟨fd__law_quotients_right, F__law_quotients_right, B__law_quotients_right⟩ := ok__law_quotients_right (P := P) (w := w) (base := base) T
  obtain ⟨fd__law_shifts_right, F__law_shifts_right, B__law_shifts_right⟩ := ok__law_shifts_right (P := P) (w := w) (base := base) T
  obtain ⟨fd__law_sums_right, F__law_sums_right, B__law_sums_right⟩ := ok__law_sums_right (P := P) (w := w) (base := base) T
  obtain ⟨fd__law_bag, F__law_bag, B__law_bag⟩ := ok__law_bag (P := P) (w := w) (base := base) T
  refine F.ok sc_law sp1_len (fun cdv A outer s H vs Q E hr h => ?_)
  have hr__law_refused : Room 8 _ := hr.mono (by decide)
  have hr__law_numbers : Room 4 _ := hr.mono (by decide)
  have hr__law_draw : Room 1 _ := hr.mono (by decide)
  have hr__law_quotients_right : Room 7 _ := hr.mono (by decide)
  have hr__law_shifts_right : Room 7 _ := hr.mono (by decide)
  have hr__law_sums_right : Room 6 _ := hr.mono (by decide)
  have hr__law_bag : Room 1 _ := hr.mono (by decide)
  obtain ⟨v0, rfl, L, xs, rfl, hL, hz, k⟩ := sp1_is h
  refine ⟨_, (pss_cons (ps_set (i := 1) sc_law.nd rfl (Or.inl rfl) (pe_call F__law_bag hr__law_bag (by rfl) T.g__law_bag T.k__law_bag B__law_bag .nil passL (pa_cons (pv 0) pa_nil)))
      (pss_cons (ps_for (passes_of rfl) rfl (pi_range1 (by rfl) T.b_range (pa_cons pe_int pa_nil)) (pg_name (i := 2) sc_law.nd rfl (Or.inl rfl)) (pss_cons (ps_set (i := 3) sc_law.nd rfl (Or.inl rfl) (pe_call F__law_numbers hr__law_numbers (by rfl) T.g__law_numbers T.k__law_numbers B__law_numbers .nil passL (pa_cons (pv 1) (pa_cons (pe_call F__law_draw hr__law_draw (by rfl) T.g__law_draw T.k__law_draw B__law_draw .nil passL (pa_cons (pv 1) (pa_cons pe_int pa_nil))) (pa_cons (pe_call F__law_draw hr__law_draw (by rfl) T.g__law_draw T.k__law_draw B__law_draw .nil passL (pa_cons (pv 1) (pa_cons pe_int pa_nil))) pa_nil)))))
      (pss_cons (ps_set (i := 4) sc_law.nd rfl (Or.inl rfl) (pe_call F__law_numbers hr__law_numbers (by rfl) T.g__law_numbers T.k__law_numbers B__law_numbers .nil passL (pa_cons (pv 1) (pa_cons (pe_call F__law_draw hr__law_draw (by rfl) T.g__law_draw T.k__law_draw B__law_draw .nil passL (pa_cons (pv 1) (pa_cons pe_int pa_nil))) (pa_cons (pe_call F__law_draw hr__law_draw (by rfl) T.g__law_draw T.k__law_draw B__law_draw .nil passL (pa_cons (pv 1) (pa_cons pe_int pa_nil))) pa_nil)))))
      (pss_cons (ps_if (pt_cmpR op_eq (pe_call F__law_draw hr__law_draw (by rfl) T.g__law_draw T.k__law_draw B__law_draw .nil passL (pa_cons (pv 1) (pa_cons pe_int pa_nil))) pe_int (nomark _)) (pss_one (ps_set (i := 4) sc_law.nd rfl (Or.inl rfl) (pe_op op_cat (pe_lst (pa_cons pe_int pa_nil)) (pe_op op_rep (pe_lst (pa_cons pe_int pa_nil)) (pe_call F__law_draw hr__law_draw (by rfl) T.g__law_draw T.k__law_draw B__law_draw .nil passL (pa_cons (pv 1) (pa_cons pe_int pa_nil))))))) pss_nil)
      (pss_one (ps_if (PW.pt (pw_or (pt_not (pt_val (pe_call F__law_quotients_right hr__law_quotients_right (by rfl) T.g__law_quotients_right T.k__law_quotients_right B__law_quotients_right .nil passL (pa_cons (pv 1) (pa_cons (pv 3) (pa_cons (pv 4) pa_nil)))))) (pw_or (pt_not (pt_val (pe_call F__law_sums_right hr__law_sums_right (by rfl) T.g__law_sums_right T.k__law_sums_right B__law_sums_right .nil passL (pa_cons (pv 1) (pa_cons (pv 3) (pa_cons (pv 4) pa_nil)))))) (pw_or1 (pt_not (pt_val (pe_call F__law_shifts_right hr__law_shifts_right (by rfl) T.g__law_shifts_right T.k__law_shifts_right B__law_shifts_right .nil passL (pa_cons (pv 1) (pa_cons (pv 3) (pa_cons (pv 4) pa_nil)))))))))) (pss_one (ps_ret pe_bl)) pss_nil))))))
      (pss_cons (ps_if (pt_cmpR op_eq (pe_call F__law_draw hr__law_draw (by rfl) T.g__law_draw T.k__law_draw B__law_draw .nil passL (pa_cons (pv 1) (pa_cons pe_int pa_nil))) pe_int (nomark _)) (pss_one (ps_if (pt_not (pt_val (pe_call F__law_quotients_right hr__law_quotients_right (by rfl) T.g__law_quotients_right T.k__law_quotients_right B__law_quotients_right .nil passL (pa_cons (pv 1) (pa_cons (pe_call F__law_numbers hr__law_numbers (by rfl) T.g__law_numbers T.k__law_numbers B__law_numbers .nil passL (pa_cons (pv 1) (pa_cons pe_int (pa_cons pe_int pa_nil)))) (pa_cons (pe_call F__law_numbers hr__law_numbers (by rfl) T.g__law_numbers T.k__law_numbers B__law_numbers .nil passL (pa_cons (pv 1) (pa_cons pe_int (pa_cons pe_int pa_nil)))) pa_nil)))))) (pss_one (ps_ret pe_bl)) pss_nil)) pss_nil)
      (pss_one (ps_ret (pe_call F__law_refused hr__law_refused (by rfl) T.g__law_refused T.k__law_refused B__law_refused .nil passL (pa_cons (pv 1) (pa_cons (pe_call F__law_numbers hr__law_numbers (by rfl) T.g__law_numbers T.k__law_numbers B__law_numbers .nil passL (pa_cons (pv 1) (pa_cons (pe_op op_add pe_int (pe_call F__law_draw hr__law_draw (by rfl) T.g__law_draw T.k__law_draw B__law_draw .nil passL (pa_cons (pv 1) (pa_cons pe_int pa_nil)))) (pa_cons (pe_call F__law_draw hr__law_draw (by rfl) T.g__law_draw T.k__law_draw B__law_draw .nil passL (pa_cons (pv 1) (pa_cons pe_int pa_nil))) pa_nil)))) pa_nil)))))))), ?_⟩
  walk_at "rd"
  refine ⟨L, xs, rfl, hL, hz, fun b H1 e1 hb0 hb => ?_⟩
  walk_at "rd"
  refine ⟨3, rfl, by decide, by decide, ?_⟩
  refine for_of (walk_range (lo := 0) (n := 3)) (fun i σ H => Bag H b (160 * (i : Nat)) ∧ ∃ x y z, σ = [some (.ref L), some (.ref b), x, y, z]) ⟨hb.le (by decide), none, none, none, rfl⟩ (fun _ _ _ _ _ => trivial) ?_ ?_
  · rintro i x σ H2 H' hi ⟨hb2, x', y', z', rfl⟩ ⟨rfl, rfl⟩
    have hi' : (160 * (i : Int)) ≤ 480 := by omega
    refine r_seq ?_
    walk_at "rx"
    refine r_DrawL hb2 (by omega) (by decide) (by decide) fun r1 H3 p0 p1 g3 b3 => ?_
    walk_at "rx"
    refine r_DrawL b3 (by omega) (by decide) (by decide) fun r2 H4 _ _ g4 b4 => ?_
    walk_at "rx"
    obtain ⟨d1, rfl⟩ : ∃ d : Nat, r1 = (d : Int) := ⟨r1.toNat, by omega⟩
    refine ⟨b, _, r2, d1, rfl, rfl, rfl, by omega, by omega, b4, fun ns x H5 hN _ hx g5 b5 => ?_⟩
    walk_at "rx"
    refine r_seq ?_
    walk_at "rx"
    refine r_DrawL b5 (by omega) (by decide) (by decide) fun r3 H6 p2 p3 g6 b6 => ?_
    walk_at "rx"
    refine r_DrawL b6 (by omega) (by decide) (by decide) fun r4 H7 _ _ g7 b7 => ?_
    walk_at "rx"
    obtain ⟨d2, rfl⟩ : ∃ d : Nat, r3 = (d : Int) := ⟨r3.toNat, by omega⟩
    refine ⟨b, _, r4, d2, rfl, rfl, rfl, by omega, by omega, b7, fun ms y H8 hM _ hy g8 b8 => ?_⟩
    have hx8 := bg_lst (g6.trans (g7.trans g8)) b5 hx
    have n8 : 160 * (i : Int) + 1 + 1 + 4 + 5 * (d1 : Nat) + 1 + 1 + 4 + 5 * (d2 : Nat) ≤ 160 * (i : Int) + 67 := by omega
    have b8' := b8.le n8
    clear b8 b7 b6 b5 b4 b3 g3 g4 g5 g6 g7 g8 hx hb2
    walk_at "rx"
    refine r_seqJ (fun σ' H' => ∃ (y : Addr) (ms : List Int) (d2 : Nat), σ' = [some (.ref L), some (.ref b), some (.int (0 + (i : Nat))), some (.ref x), some (.ref y)] ∧ Bag H' b (160 * (i : Nat) + 69) ∧ H' x = some (.lst (ns.map V.int)) ∧ H' y = some (.lst (ms.map V.int)) ∧ dN ms d2 ∧ d2 ≤ 5) (fun N hN' => ?_) ?_
    · walk_at "rd"
      refine r_DrawL b8' (by omega) (by decide) (by decide) fun r5 H9 _ _ g9 b9 => ?_
      walk_at "rd"
      have hx9 := bg_lst g9 b8' hx8
      have hy9 := bg_lst g9 b8' hy
      by_cases c : r5 = 0
      · refine ite_t (decide_eq_true c) ?_
        walk_at "rd"
        refine r_newL (sz_le (by simp)) fun l1 H10 _ e10 h10 => ?_
        walk_at "rd"
        refine r_newL (sz_le (by simp)) fun l2 H11 _ e11 h11 => ?_
        walk_at "rd"
        have b11 := (b9.ex e10).ex e11
        refine r_DrawL b11 (by omega) (by decide) (by decide) fun r6 H12 q0 q1 g12 b12 => ?_
        obtain ⟨d3, rfl⟩ : ∃ d : Nat, r6 = (d : Int) := ⟨r6.toNat, by omega⟩
        have h10' : H11 l1 = some (.lst ([(1 : Int)].map V.int)) := e11 _ _ h10
        have h11' : H11 l2 = some (.lst ([(0 : Int)].map V.int)) := h11
        refine r_repI (m := d3) (bg_lst g12 b11 h11') (by omega) fun l3 H13 _ e13 h13 => ?_
        refine r_cat (e13 _ _ (bg_lst g12 b11 h10')) h13 (by simp; omega) fun l4 H14 _ e14 h14 => ?_
        walk_at "rd"
        have hx14 := (e13.trans e14) _ _ (bg_lst g12 b11 ((e10.trans e11) _ _ hx9))
        refine hN' _ _ ⟨l4, 1 :: List.replicate d3 0, d3, rfl, ((b12.ex e13).ex e14).le (by omega), hx14, by rw [h14]; rfl, ⟨by simp, by simp, fun c hc => ?_⟩, by omega⟩
        rcases List.mem_cons.mp hc with rfl | hc
        · decide
        · rw [(List.mem_replicate.mp hc).2]; decide
      · refine ite_f (decide_eq_false c) ?_
        walk_at "rd"
        exact hN' _ _ ⟨y, ms, d2, rfl, b9.le (by omega), hx9, hy9, hM, by omega⟩
    rintro σ' H9 ⟨y, ms, d2, rfl, b9, hx9, hy9, hM, hd2⟩
    walk_at "rd"
    refine ⟨b, _, x, y, ns, ms, d1, d2, rfl, rfl, rfl, (by omega : 160 * (i : Int) + 69 ≤ 60000), b9, hx9, hy9, hN, hM, by omega, by omega, fun H10 g10 b10 => ?_⟩
    have hx10 := bg_lst g10 b9 hx9
    have hy10 := bg_lst g10 b9 hy9
    walk_at "rd"
    refine ite_f rfl ?_
    walk_at "rd"
    refine ⟨b, _, x, y, ns, ms, d1, d2, rfl, rfl, rfl, (by omega : 160 * (i : Int) + 69 + 2 ≤ 60000), b10, hx10, hy10, hN, hM, by omega, by omega, fun H11 g11 b11 => ?_⟩
    have hx11 := bg_lst g11 b10 hx10
    have hy11 := bg_lst g11 b10 hy10
    walk_at "rd"
    refine ite_f rfl ?_
    walk_at "rd"
    refine ⟨b, _, x, y, ns, ms, d1, d2, rfl, rfl, rfl, (by omega : 160 * (i : Int) + 69 + 2 + 60 ≤ 60000), b11, hx11, hy11, hN, hM, by omega, by omega, fun H12 g12 b12 => ?_⟩
    walk_at "rd"
    refine ite_f rfl ?_
    walk_at "rd"
    exact ⟨b12.le (by omega), _, _, _, rfl⟩
  · rintro σ H2 ⟨hb2, x', y', z', rfl⟩
    dsimp only
    refine r_seqJ (fun σ' H' => ∃ x y z, σ' = [some (.ref L), some (.ref b), x, y, z] ∧ Bag H' b 1000) (fun N hN' => ?_) ?_
    · walk_at "rd"
      refine r_DrawL hb2 (by decide) (by decide) (by decide) fun r1 H3 _ _ g3 b3 => ?_
      walk_at "rd"
      by_cases c : r1 = 0
      · refine ite_t (decide_eq_true c) ?_
        walk_at "rd"
        refine ⟨b, _, 1, 32, rfl, rfl, rfl, by decide, (by decide : 160 * ((3 : Nat) : Int) + 1 ≤ 70000), b3, fun ns x H4 hN _ hx g4 b4 => ?_⟩
        walk_at "rd"
        refine ⟨b, _, 2, 31, rfl, rfl, rfl, by decide, (by decide : 160 * ((3 : Nat) : Int) + 1 + 4 + 5 * ((32 : Nat) : Int) ≤ 70000), b4, fun ms y H5 hM _ hy g5 b5 => ?_⟩
        walk_at "rd"
        refine ⟨b, _, x, y, ns, ms, 32, 31, rfl, rfl, rfl, (by decide : 160 * ((3 : Nat) : Int) + 1 + 4 + 5 * ((32 : Nat) : Int) + 4 + 5 * ((31 : Nat) : Int) ≤ 60000), b5, bg_lst g5 b4 hx, hy, hN, hM, by decide, by decide, fun H6 g6 b6 => ?_⟩
        walk_at "rd"
        refine ite_f rfl ?_
        walk_at "rd"
        exact hN' _ _ ⟨_, _, _, rfl, b6.le (by decide)⟩
      · refine ite_f (decide_eq_false c) ?_
        walk_at "rd"
        exact hN' _ _ ⟨_, _, _, rfl, b3.le (by decide)⟩
    rintro σ' H3 ⟨x, y, z, rfl, b3⟩
    walk_at "rd"
    refine r_DrawL b3 (by decide) (by decide) (by decide) fun r1 H4 p0 p1 g4 b4 => ?_
    walk_at "rd"
    refine r_DrawL b4 (by decide) (by decide) (by decide) fun r2 H5 _ _ g5 b5 => ?_
    walk_at "rd"
    obtain ⟨d, rfl⟩ : ∃ d : Nat, r1 = (d : Int) := ⟨r1.toNat, by omega⟩
    refine ⟨b, _, r2, d + 1, rfl, congrArg V.int (by omega), rfl, by omega, (by decide : (1000 : Int) + 1 + 1 ≤ 70000), b5, fun ns x H6 hN _ hx g6 b6 => ?_⟩
    walk_at "rd"
    exact ⟨b, _, x, ns, d + 1, rfl, rfl, by omega, b6, hx, hN, by omega, by omega, fun H' => k H'⟩

end K04
set_option maxHeartbeats 0
namespace K04
open PySem PySem.Spec PyProof.Rows L2 GS
theorem law_fact {P : Program} {w : World} {K : PySem.W.Frag} {h : Heap} {mg : Str → Option Value} {f : Addr} (X : K.In h) (G : h.Ns mainGlobals mg) (hf : mg ("law" : Str) = some (.ref f)) (c : SaysM fa_all ex_all fn_all K) :
    ∃ fd : FuncData, (∀ (s : Shared) (u : Value), BindsTo s fd ⟨[u], []⟩ [("script", u)]) ∧ ∀ base : Heap, FnOk P w K mg base (L2.CX P w) 9 f fd ["script"] (spLaw K) := by
  have T := txt_of X G c
  obtain ⟨fd, F⟩ := T.d_law
  have e := hf.symm.trans T.g_law
  cases e
  refine ⟨fd, fun s u => ?_, fun base => ok_law T F⟩
  exact F.bindsA (ps := ["script"]) (fun _ _ _ _ _ _ us hl => match us, hl with | [_], _ => rfl) s [u] rfl
theorem nothing_out {P : Program} {w : World} {H : Hp} {s s' : Shared} {e : Value} (c : L2.CX P w [] H s (fun _ _ _ => False) e s') : False := by
  obtain ⟨a, B, H', cls, d, -, -, -, -, -, -, -, z⟩ := c
  exact z
/-- the end of a law: the script's bits are told -/
theorem end_bits {l : PySem.W.OpenLaw} {k n : Nat} {q : Program} {loose : List Str} {XP : (Str → Option Value) → Heap → Prop} {YP : World → Heap → Prop} {d : DefRec} {x : Str} (most : l.most = some n) (line : n ≤ sizeLine) (plain : d.params.defaults = []) (room : Room k callerA)
    (F : ∀ (w : World) (mg : Str → Option Value) (fa : Addr) (h : Heap), YP w h → h.Ns mainGlobals mg → mg d.name = some (.ref fa) → ∃ (K : PySem.W.Frag) (fd : FuncData) (sp : Sp), K.In h ∧ (∀ (s : Shared) (u : Value), BindsTo s fd ⟨[u], []⟩ [(x, u)]) ∧
      (∀ (H : Hp) (a : Addr) (ns : List Int), (∀ z ∈ ns, Builtin.Int.intBits z ≤ 1048576) → SqL K H a (ns.map V.int) → sp [.ref a] H (fun v _ => v = .bl true) fun _ _ _ => False) ∧ ∀ base : Heap, FnOk l.prog w K mg base (L2.CX l.prog w) k fa fd [x] sp) :
    PySem.W.WalkO q loose XP YP l.row.toRowW d [] (fun f vs => PySem.call f vs) := by
  refine Att.attach_callB most plain fun w s₀ s₁ mg mb fa o pm cd doc a vs ns Gr Yp _ _ _ named there numb short bits gens => ?_
  obtain ⟨K, fd, sp, KX, binds, goes, ok⟩ := F w mg fa _ Yp Gr.T.g named
  refine law_call (sp := sp) (CX := L2.CX l.prog w) KX Gr.T.g Gr.T.b Gr.T.builtins Gr.T.nolimit gens there numb ?_ room ?_ binds ?_ ?_
  · exact Nat.le_trans short line
  · exact fun base _ _ => ok base
  · exact fun H _ hs => goes H a ns bits hs
  · exact fun H e s' z => nothing_out z
theorem bits_lt (n : Int) : n.natAbs < 2 ^ Builtin.Int.intBits n := by
  unfold Builtin.Int.intBits
  split
  · rename_i h
    have : n = 0 := by simpa using h
    subst this
    decide
  · exact Nat.lt_log2_self
theorem law_sp {K : PySem.W.Frag} {H : Hp} {a : Addr} {ns : List Int} (bits : ∀ z ∈ ns, Builtin.Int.intBits z ≤ 1048576) (hs : SqL K H a (ns.map V.int)) : spLaw K [.ref a] H (fun v _ => v = .bl true) fun _ _ _ => False := by
  refine ⟨a, ns, rfl, hs, fun x hx => ?_, fun _ => rfl⟩
  exact Nat.lt_of_lt_of_le (bits_lt x) (Nat.pow_le_pow_right (by decide) (Nat.le_trans (bits x hx) (by decide)))
end K04
open PySem PySem.W PySem.Calls PyProof.Rows
theorem PySem.Challenge.cw_goodsigns_k04_polys_multiplied_divided_d_holds : PySem.Challenge.rw_goodsigns_k04_polys_multiplied_divided_d.Holds := by
  w_on; o_law
  refine HandSHeadRun.head_imp (r := K04.R) (q := view K04.R.prog [0, 59]) (H := K04.hk) (ob := K04.ob) (M := 4000) (loose := K04.loose) (d := HandSHeadRun.topDef K04.R.prog 59) (kwd := []) K04.ob_eq K04.run ?a3 ?a4 ?a5 ?a6 ?a7 ?a8 ?a9 ?hw ?hc
  case a3 => kernel_rfl
  case a4 => kernel_rfl
  case a5 => kernel_rfl
  case a6 => rfl
  case a7 => first | assumption | decide +kernel
  case a8 => decide +kernel
  case a9 => exact ⟨rfl, rfl, rfl, rfl, rfl, by decide +kernel⟩
  case hw => w_witness2
  case hc =>
    refine K04.end_bits (l := PySem.Challenge.rw_goodsigns_k04_polys_multiplied_divided_d) (n := 63) (k := 9) (x := "script") rfl (by decide) (by kernel_rfl) ⟨rfl, by decide, by decide⟩ fun w mg fa h Y G named => ?_
    obtain ⟨K, KX, c⟩ := Y
    have hmg : mg ("law" : PySem.Str) = some (.ref fa) := by
      have e : (HandSHeadRun.topDef K04.R.prog 59).name = ("law" : PySem.Str) := by kernel_rfl
      rw [← e]
      exact named
    obtain ⟨fd, hb, hF⟩ := K04.law_fact (P := (PySem.Challenge.rw_goodsigns_k04_polys_multiplied_divided_d).prog) (w := w) KX G hmg c
    exact ⟨K, fd, K04.spLaw K, KX, hb, fun H a ns bits hs => K04.law_sp bits hs, hF⟩
