import PyProof.Rows.All
import Wide.All
import OpenK.AllK
import Wide.FinOn
import HandS.ForMost
import HandS.ForExc
import HandS.ExcInit
import HandS.ExcField
import HandS.TryMany
import HandS.IsInst
import HandS.MakeKw
import HandS.OwnEq
import HandS.Wide
import HandS.Defaults
import HandS.ClsMeth
import KE.KCallOwn
import HandS.Head0
import HandS.Head1
import HandS.Head2
import HandS.HeadEnd
import HandS.HeadHook1
import HandS.HeadHook2
import HandS.HeadNt
import HandS.WideBits
import HandS.StrMore
import HandS.Walk
import HandS.MakeKwOnly
import HandS.TupAny
import HandS.Iter
import HandS.Zip
import HandS.Gcd
import HandS.Style
import PyProof.WalksMore
import KE.GoesMore
import KE.GoesEnum
import KE.KIsAll
import HandS.ExcIs
import Flt.RightSqrt
import PyProof.ReprRoads
import HandS.Lambda
import HandS.EndTab
import HandS.EndBits
import PyProof.StrBlock2
import HandS.SortInts
import HandS.RaiseMore
import HandS.CallLocal
import KE.KMathGC
import KE.KRevSl
import HandS.ExcValue
import HandS.HeadHook4
import KE.GoesZip
import HandS.NoneIn
import KE.GoesRaise
import HandS.SortRule
import HandS.Conv
import PySem.Challenge.RW_goodsigns_k02_texts_bent_anywhere
set_option Elab.async false
set_option linter.all false
set_option maxRecDepth 100000
set_option maxHeartbeats 4000000
/-! What stops a text: bounds, polys, webs, by what the items tell. -/
namespace GX
def ib (i : Int) (l m : Option Int) : Bool := (match l with | none => true | some a => decide (a ≤ i)) && (match m with | none => true | some b => decide (i ≤ b))
def vl (vs : List (Option Int)) (j : Nat) : Int := (vs.getD j none).getD 0
def okJ (vs : List (Option Int)) (j : Nat) (l m : Option Int) : Bool := match vs.getD j none with
  | none => false
  | some i => ib i l m
theorem okJ_lt {vs : List (Option Int)} {j : Nat} {l m : Option Int} (h : okJ vs j l m = true) : j < vs.length := by
  rcases Nat.lt_or_ge j vs.length with c | c
  · exact c
  · unfold okJ at h
    rw [List.getD_eq_getElem?_getD, List.getElem?_eq_none c] at h
    cases h
theorem okJ_is {vs : List (Option Int)} {j : Nat} {l m : Option Int} (h : okJ vs j l m = true) : vs[j]? = some (some (vl vs j)) ∧ ib (vl vs j) l m = true := by
  have lt := okJ_lt h
  unfold vl
  unfold okJ at h
  have e : vs[j]? = some vs[j] := by simp [lt]
  have g : vs.getD j none = vs[j] := by rw [List.getD_eq_getElem?_getD, e]; rfl
  rw [g] at h ⊢
  rw [e]
  generalize vs[j] = o at h
  cases o with
  | none => cases h
  | some i => exact ⟨rfl, h⟩
def bStop (vs : List (Option Int)) : Option Nat := if okJ vs 0 none none = false then some 0 else if okJ vs 1 none none = false then some 1 else if okJ vs 2 (some 0) none = false then some 2 else if vs.length = 3 then none else some 3
def fstBad (f : Nat → Bool) : Nat → Nat → Option Nat
  | 0, _ => none
  | n + 1, j => if f j = true then fstBad f n (j + 1) else some j
theorem fst_none {f : Nat → Bool} : ∀ {n j : Nat}, (∀ k, j ≤ k → k < j + n → f k = true) → fstBad f n j = none
  | 0, _, _ => rfl
  | n + 1, j, h => by
    unfold fstBad
    rw [if_pos (h j (Nat.le_refl _) (by omega))]
    exact fst_none fun k h1 h2 => h k (by omega) (by omega)
theorem fst_some {f : Nat → Bool} : ∀ {n j k : Nat}, j ≤ k → k < j + n → (∀ i, j ≤ i → i < k → f i = true) → f k = false → fstBad f n j = some k
  | 0, j, k, h1, h2, _, _ => by omega
  | n + 1, j, k, h1, h2, h3, h4 => by
    unfold fstBad
    by_cases c : j = k
    · subst c
      rw [if_neg (by rw [h4]; exact Bool.false_ne_true)]
    · rw [if_pos (h3 j (Nat.le_refl _) (by omega))]
      exact fst_some (by omega) (by omega) (fun i h5 h6 => h3 i (by omega) h6) h4
def pOk (vs : List (Option Int)) (j : Nat) : Bool := okJ vs j (if j = 0 then some 1 else none) none
def pStop (vs : List (Option Int)) : Option Nat := match fstBad (pOk vs) (min 64 vs.length) 0 with
  | some j => some j
  | none => if vs.length < 65 then none else some 64
theorem pStop_bad {vs : List (Option Int)} {k : Nat} (hk : k < 64) (hl : k < vs.length) (h : ∀ i, i < k → pOk vs i = true) (b : pOk vs k = false) : pStop vs = some k := by
  unfold pStop
  rw [fst_some (k := k) (by omega) (by omega) (fun i _ hi => h i hi) b]
theorem pStop_all {vs : List (Option Int)} (h : ∀ i, i < min 64 vs.length → pOk vs i = true) : pStop vs = if vs.length < 65 then none else some 64 := by
  unfold pStop
  rw [fst_none fun k _ hk => h k (by omega)]
theorem pStop_none {vs : List (Option Int)} (h : pStop vs = none) : vs.length ≤ 64 ∧ ∀ i, i < vs.length → pOk vs i = true := by
  rcases Nat.lt_or_ge vs.length 65 with c | c
  · refine ⟨by omega, fun i hi => ?_⟩
    cases q : pOk vs i with
    | true => rfl
    | false =>
      exfalso
      have key : ∀ n i, i ≤ n → i < vs.length → pOk vs i = false → False := by
        intro n
        induction n with
        | zero =>
          intro i hn hi q
          have := pStop_bad (vs := vs) (k := i) (by omega) hi (fun j hj => by omega) q
          rw [h] at this; cases this
        | succ n ih =>
          intro i hn hi q
          have := pStop_bad (vs := vs) (k := i) (by omega) hi (fun j hj => by
            cases q2 : pOk vs j with
            | true => rfl
            | false => exact (ih j (by omega) (by omega) q2).elim) q
          rw [h] at this; cases this
      exact key i i (Nat.le_refl _) hi q
  · exfalso
    by_cases a : ∀ i, i < min 64 vs.length → pOk vs i = true
    · have := pStop_all a
      rw [h, if_neg (by omega)] at this
      cases this
    · unfold pStop at h
      cases q : fstBad (pOk vs) (min 64 vs.length) 0 with
      | some j => rw [q] at h; cases h
      | none =>
        rw [q] at h
        simp only at h
        rw [if_neg (by omega)] at h
        cases h
/-! webs -/
def wRun (vs : List (Option Int)) (n : Int) : Nat → Nat → Int → Int → Option Nat
  | 0, _, _, _ => none
  | f + 1, a, x, y => if a < vs.length then
      if okJ vs a (some x) (some (n - 1)) = false then some a
      else if okJ vs (a + 1) (some (if vl vs a = x then y + 1 else vl vs a + 1)) (some (n - 1)) = false then some (a + 1)
      else wRun vs n f (a + 2) (vl vs a) (vl vs (a + 1))
    else none
def wStop (vs : List (Option Int)) (col : Bool) : Option Nat := if okJ vs 0 (some 1) (some 60) = false then some 0 else if vs.length = 1 ∨ col = false then some 1 else wRun vs (vl vs 0) vs.length 2 0 0
/-- the pairs behind the colon -/
def wPs (vs : List (Option Int)) (i : Nat) : List (Int × Int) := (List.range i).map fun k => (vl vs (2 + 2 * k), vl vs (3 + 2 * k))
def lexLt (p q : Int × Int) : Prop := p.1 < q.1 ∨ (p.1 = q.1 ∧ p.2 < q.2)
/-- ties ascending, each the lesser first, within -/
structure Tie (n : Int) (p : Int × Int) : Prop where
  a : 0 ≤ p.1
  b : p.1 < p.2
  c : p.2 ≤ n - 1
def Ties (n : Int) (ps : List (Int × Int)) : Prop := (∀ p ∈ ps, Tie n p) ∧ ps.Pairwise lexLt
theorem lexLt.trans {p q r : Int × Int} (a : lexLt p q) (b : lexLt q r) : lexLt p r := by
  unfold lexLt at *
  omega
theorem lexLt.ne {p q : Int × Int} (a : lexLt p q) : p ≠ q := by
  rintro rfl
  unfold lexLt at a
  omega
/-- behind i steps: what was read -/
structure Went (vs : List (Option Int)) (n : Int) (i : Nat) (x y : Int) : Prop where
  ties : Ties n (wPs vs i)
  last : ∀ p ∈ wPs vs i, lexLt p (x, y) ∨ p = (x, y)
  x0 : 0 ≤ x
  xy : i = 0 → x = 0 ∧ y = 0
  xy2 : 0 < i → x < y
  all : ∀ k, k < i → okJ vs (2 + 2 * k) (some 0) none = true ∧ okJ vs (3 + 2 * k) (some 0) none = true
theorem wPs_succ (vs : List (Option Int)) (i : Nat) : wPs vs (i + 1) = wPs vs i ++ [(vl vs (2 + 2 * i), vl vs (3 + 2 * i))] := by
  unfold wPs
  rw [List.range_succ, List.map_append]
  rfl
theorem Went.zero (vs : List (Option Int)) (n : Int) : Went vs n 0 0 0 := ⟨⟨fun p h => (by cases h), List.Pairwise.nil⟩, fun p h => (by cases h), Int.le_refl _, fun _ => ⟨rfl, rfl⟩, fun h => by omega, fun k h => by omega⟩
theorem Went.step {vs : List (Option Int)} {n : Int} {i : Nat} {x y : Int} (w : Went vs n i x y) (h1 : okJ vs (2 + 2 * i) (some x) (some (n - 1)) = true) (h2 : okJ vs (3 + 2 * i) (some (if vl vs (2 + 2 * i) = x then y + 1 else vl vs (2 + 2 * i) + 1)) (some (n - 1)) = true) : Went vs n (i + 1) (vl vs (2 + 2 * i)) (vl vs (3 + 2 * i)) := by
  obtain ⟨e1, b1⟩ := okJ_is h1
  obtain ⟨e2, b2⟩ := okJ_is h2
  simp only [ib, Bool.and_eq_true, decide_eq_true_eq] at b1 b2
  generalize ha : vl vs (2 + 2 * i) = a at *
  generalize hb : vl vs (3 + 2 * i) = b at *
  have x0 := w.x0
  have key : a < b ∧ (a = x → y < b) ∧ 0 ≤ a ∧ b ≤ n - 1 := by
    have q1 := w.xy
    have q2 := w.xy2
    by_cases c : a = x
    · rw [if_pos c] at b2
      by_cases z : i = 0
      · obtain ⟨r1, r2⟩ := q1 z
        omega
      · have := q2 (by omega)
        omega
    · rw [if_neg c] at b2
      omega
  have lt : ∀ p ∈ wPs vs i, lexLt p (a, b) := fun p hp => by
    have : lexLt (x, y) (a, b) := by
      unfold lexLt
      simp only
      by_cases c : a = x
      · exact .inr ⟨c.symm, key.2.1 c⟩
      · exact .inl (by omega)
    rcases w.last p hp with h | h
    · exact h.trans this
    · rw [h]; exact this
  refine ⟨⟨fun p hp => ?_, ?_⟩, fun p hp => ?_, key.2.2.1, fun z => by omega, fun _ => key.1, fun k hk => ?_⟩
  · rw [wPs_succ, ha, hb] at hp
    rcases List.mem_append.mp hp with h | h
    · exact w.ties.1 p h
    · rw [List.mem_singleton.mp h]
      exact ⟨key.2.2.1, key.1, key.2.2.2⟩
  · rw [wPs_succ, ha, hb, List.pairwise_append]
    refine ⟨w.ties.2, List.pairwise_singleton _ _, fun p hp q hq => ?_⟩
    rw [List.mem_singleton.mp hq]
    exact lt p hp
  · rw [wPs_succ, ha, hb] at hp
    rcases List.mem_append.mp hp with h | h
    · exact .inl (lt p h)
    · exact .inr (List.mem_singleton.mp h)
  · rcases Nat.lt_or_ge k i with c | c
    · exact w.all k c
    · obtain rfl : k = i := by omega
      have g : ∀ {j : Nat} {v : Int}, vs[j]? = some (some v) → 0 ≤ v → okJ vs j (some 0) none = true := fun {j v} h h0 => by
        unfold okJ
        rw [List.getD_eq_getElem?_getD, h]
        simp [ib, h0]
      exact ⟨g e1 key.2.2.1, g e2 (by omega)⟩
/-- the program's and the law's loop, one step at a time -/
theorem wRun_step {vs : List (Option Int)} {n : Int} {f a : Nat} {x y : Int} (hf : a < vs.length) (hfu : vs.length ≤ f + a) : wRun vs n f a x y = (if okJ vs a (some x) (some (n - 1)) = false then some a else if okJ vs (a + 1) (some (if vl vs a = x then y + 1 else vl vs a + 1)) (some (n - 1)) = false then some (a + 1) else wRun vs n (f - 1) (a + 2) (vl vs a) (vl vs (a + 1))) := by
  obtain ⟨g, rfl⟩ : ∃ g, f = g + 1 := ⟨f - 1, by omega⟩
  conv => lhs; unfold wRun
  rw [if_pos hf]
  rfl
theorem wRun_end {vs : List (Option Int)} {n : Int} {f a : Nat} {x y : Int} (hf : vs.length ≤ a) : wRun vs n f a x y = none := by
  cases f with
  | zero => rfl
  | succ f => unfold wRun; rw [if_neg (by omega)]
/-- a run that ends: the pairs, and an even number of items -/
theorem wRun_all {vs : List (Option Int)} {n : Int} : ∀ {f i : Nat} {x y : Int}, Went vs n i x y → 2 + 2 * i ≤ vs.length → vs.length ≤ f + (2 + 2 * i) → wRun vs n f (2 + 2 * i) x y = none → ∃ m x' y', vs.length = 2 + 2 * m ∧ Went vs n m x' y'
  | f, i, x, y, w, hl, hf, h => by
    rcases Nat.lt_or_ge (2 + 2 * i) vs.length with c | c
    · obtain ⟨g, rfl⟩ : ∃ g, f = g + 1 := ⟨f - 1, by omega⟩
      rw [wRun_step c (by omega)] at h
      cases h1 : okJ vs (2 + 2 * i) (some x) (some (n - 1)) with
      | false => rw [h1, if_pos rfl] at h; cases h
      | true =>
        rw [h1, if_neg (by decide)] at h
        have e3 : 2 + 2 * i + 1 = 3 + 2 * i := by omega
        rw [e3] at h
        cases h2 : okJ vs (3 + 2 * i) (some (if vl vs (2 + 2 * i) = x then y + 1 else vl vs (2 + 2 * i) + 1)) (some (n - 1)) with
        | false => rw [h2, if_pos rfl] at h; cases h
        | true =>
          rw [h2, if_neg (by decide)] at h
          have := okJ_lt h2
          exact wRun_all (f := g) (i := i + 1) (w.step h1 h2) (by omega) (by omega) h
    · exact ⟨i, x, y, by omega, w⟩
theorem wStop_none {vs : List (Option Int)} {col : Bool} (h : wStop vs col = none) : okJ vs 0 (some 1) (some 60) = true ∧ col = true ∧ ∃ m x y, vs.length = 2 + 2 * m ∧ Went vs (vl vs 0) m x y := by
  unfold wStop at h
  cases h0 : okJ vs 0 (some 1) (some 60) with
  | false => rw [h0, if_pos rfl] at h; cases h
  | true =>
    rw [h0, if_neg (by decide)] at h
    have l0 := okJ_lt h0
    by_cases c : vs.length = 1 ∨ col = false
    · rw [if_pos c] at h; cases h
    · rw [if_neg c] at h
      have hc : col = true := by cases col with | true => rfl | false => exact absurd (Or.inr rfl) c
      exact ⟨rfl, hc, wRun_all (i := 0) (Went.zero vs _) (by omega) (by omega) h⟩
end GX
/-! Own rules: == and != by an own __eq__, str by an own __str__, a staticmethod of a class. -/
namespace GS
open PySem PySem.Spec PyProof.Rows L2
section
variable {X : Cx}
theorem notImpl_no {v : V} (h : RelV v Value.notImplemented) : False := by
  cases v with
  | non => cases (show Value.notImplemented = Value.none from h)
  | bl b => cases (show Value.notImplemented = Value.bool b from h)
  | int i => obtain ⟨t, q⟩ := (show ∃ t, Value.notImplemented = Value.int i t from h); cases q
  | str i => obtain ⟨t, q⟩ := (show ∃ t, Value.notImplemented = Value.str i t from h); cases q
  | byt i => obtain ⟨t, q⟩ := (show ∃ t, Value.notImplemented = Value.bytes i t from h); cases q
  | flt i => obtain ⟨t, q⟩ := (show ∃ t, Value.notImplemented = Value.float i t from h); cases q
  | ref a => cases (show Value.notImplemented = Value.ref a from h)
  | ty n => cases (show Value.notImplemented = Value.type n from h)
/-- what a call of the def gives, from any place below the body -/
theorem run_at {CX : CXT} {k : Nat} {f : Addr} {fd : FuncData} {ps : List Str} {sp : Sp} {E : XK} {pins : List (Addr × Obj)} {σ : L2.St} {H : Hp} {s : Shared} {Q : VK} {us : List Value} {vs : List V} {A : Around}
    (F : FnOk X.prog X.w X.K X.mg X.base CX k f fd ps sp) (hr : Room k A) (hA : A.frames = X.A.frames) (hb : Binds X.K fd ps []) (hx : Passes CX X E) (I : Inv X pins σ H s) (r : Vals vs us) (hsp : sp vs H Q E) :
    wpAny (model X.prog X.w) A (call (.ref f) us) (EP X pins σ Q) X.xe s := by
  have e0 : Env0 X.prog X.w X.K X.mg X.base A X.stack s H := by
    have e := I.env0
    exact ⟨by rw [hA]; exact e.frames, e.mod, e.bs, e.bsz, e.funs, e.frf, e.hok, e.bare⟩
  have hl := F.len _ _ _ _ hsp
  refine wpAny_call (codeAny_mono (F.run A X.stack s H ⟨us, []⟩ us vs _ E hr e0 (by
    have := hb s us I.kIn (by rw [List.append_nil, ← r.length]; exact hl)
    simpa using this) r hsp) fun r s' hq => ?_)
  cases r with
  | error e => exact hx pins σ H s e s' I hq
  | ok fl =>
    cases fl with
    | ret w => exact I.after hq
    | next => exact False.elim hq
    | brk => exact False.elim hq
    | cont => exact False.elim hq
/-- x == y by the own __eq__ of x's class; y of any kind -/
def rEqOwn (K : PySem.W.Frag) (C : Addr) (sp : Sp) (E : XK) : R2 := fun x y H Q => ∃ a dx fs t, x = .ref a ∧ H a = some (.ins C dx fs) ∧ TyX K H y t ∧ PySem.W.notFirst K C t = true ∧ sp [x, y] H Q E
theorem op_eqOwn {CX : CXT} {k : Nat} {C f : Addr} {fd : FuncData} {ps : List Str} {sp : Sp} {E : XK} (F : FnOk X.prog X.w X.K X.mg X.base CX k f fd ps sp) (hr : Room k X.A)
    (hs : PySem.W.findIn X.K (.ref C) "__eq__" = some (some (.ref f))) (hf : PySem.W.isFn X.K (.ref f) = true) (hb : Binds X.K fd ps []) (hx : Passes CX X E) : OpR X (compareOp .Eq) (rEqOwn X.K C sp E) := by
  intro pins s σ H x y v u Q I rx ry hq
  obtain ⟨a, dx, fs, t, rfl, ha, ty, hn, hsp⟩ := hq
  cases rx
  obtain ⟨mA, J, _⟩ := ins_get I.hok ha
  obtain ⟨od, J, _⟩ := J.look
  obtain ⟨m, hF⟩ := I.fr
  obtain ⟨P, Z, p, _⟩ := kit_of I ry ty
  show wpAny (model X.prog X.w) X.A (richCompare .Eq (.ref a) u) (EP X pins σ Q) X.xe s
  refine PySem.W.cmp_K (op := .Eq) (tb := t) hr.units0 hF I.ok.mod.kin J (Z.ty _ _ I.kIn p) hn hs hf ?_
  refine wpAny_mono (run_at F hr rfl hb hx I (.cons (show L2.RelV (V.ref a) (Value.ref a) from rfl) (.cons ry .nil)) hsp) (fun v s' hv => ?_) fun _ _ z => z
  cases v <;> first | exact hv | (obtain ⟨w, _, _, z, _⟩ := hv; exact (notImpl_no z).elim)
open Builtin in
theorem objNe_K {A : Around} {s : Shared} {a C f : Addr} {ox : Obj} {od : Option Obj} {u : Value} {E : Value → Shared → Prop} {Q : Fin → Shared → Prop} (hu : A.units < cLine) (XI : X.K.In s.heap) (J : PySem.W.InstAt s.heap a ox C od)
    (hs : PySem.W.findIn X.K (.ref C) "__eq__" = some (some (.ref f))) (hf : PySem.W.isFn X.K (.ref f) = true)
    (hcall : wpAny (model X.prog X.w) A (call (.ref f) [.ref a, u]) (fun v s' => ∃ b, v = .bool b ∧ Q (.done (.ret (.bool (!b)))) s') E s) :
    wpAny (model X.prog X.w) A (Builtin.«object.__ne__» ⟨[.ref a, u], []⟩) Q E s := by
  unfold Builtin.«object.__ne__»
  repeat (first
    | with_reducible refine wpAny_cRoomFor hu ?_
    | (refine wpAny_bind (m := callSpecialIfBound? (.ref a) (Str.ofString "__eq__") [u])
        (PySem.W.ifBound_K XI J hs hf (wpAny_mono hcall (fun r s' hr => by
          obtain ⟨b, rfl, hq⟩ := hr
          repeat (first | exact hq | exact wpAny_pure hq | exact wpAny_truthy_bool hq | (refine wpAny_bind (m := truthy (.bool _)) (wpAny_truthy_bool ?_)) | wp_step)) fun _ _ e => e)))
    | wp_step)
/-- x != y, the class says nothing of != -/
def rNeOwn (K : PySem.W.Frag) (C : Addr) (sp : Sp) (E : XK) : R2 := fun x y H Q => ∃ a dx fs t, x = .ref a ∧ H a = some (.ins C dx fs) ∧ TyX K H y t ∧ PySem.W.notFirst K C t = true ∧ sp [x, y] H (fun v H' => ∃ b, v = .bl b ∧ Q (.bl (!b)) H') E

theorem ifBound_B {M : Model} {A : Around} {s : Shared} {a C : Addr} {ox : Obj} {od : Option Obj} {name : Str} {id : String} {args : List Value} {E : Value → Shared → Prop} {Q : Option Value → Shared → Prop} (XI : X.K.In s.heap) (J : PySem.W.InstAt s.heap a ox C od)
    (hs : PySem.W.findIn X.K (.ref C) name = some (some (.builtin id))) (S : Slot "object" name id) (h : wpAny M A (call (.builtin id) (.ref a :: args)) (fun v => Q (some v)) E s) : wpAny M A (callSpecialIfBound? (.ref a) name args) Q E s := by
  have last : wpAny M A (call (.builtin id) ([.ref a] ++ args) >>= fun v => pure (some v)) Q E s := wpAny_bind (wpAny_mono h (fun _ _ z => wpAny_pure z) fun _ _ z => z)
  simp only [callSpecialIfBound?, bindSpecialIfBound?]
  refine wpAny_holding (wpAny_bind (wpAny_bind (wpAny_bind (J.type.here ((PySem.W.looks_findIn XI hs).here ?_)))))
  simp only [S.bind]
  refine wpAny_bind (wpAny_askSetting (wpAny_ite ?_))
  split
  · exact wpAny_bind (wpAny_pure (wpAny_pure last))
  · exact wpAny_tryCatch (wpAny_bind (wpAny_pure (wpAny_pure last)))
theorem op_neOwn {CX : CXT} {k : Nat} {C f : Addr} {fd : FuncData} {ps : List Str} {sp : Sp} {E : XK} (F : FnOk X.prog X.w X.K X.mg X.base CX k f fd ps sp) (hr : Room (k + 2) X.A) (hn0 : PySem.W.findIn X.K (.ref C) "__ne__" = some (some (.builtin "object.__ne__"))) (hm : PySem.W.mroIn X.K C (.type "object") = some true)
    (hs : PySem.W.findIn X.K (.ref C) "__eq__" = some (some (.ref f))) (hf : PySem.W.isFn X.K (.ref f) = true) (hb : Binds X.K fd ps []) (hx : Passes CX X E) : OpR X (compareOp .NotEq) (rNeOwn X.K C sp E) := by
  intro pins s σ H x y v u Q I rx ry hq
  obtain ⟨a, dx, fs, t, rfl, ha, ty, hn, hsp⟩ := hq
  cases rx
  obtain ⟨mA, J, _⟩ := ins_get I.hok ha
  obtain ⟨od, J, _⟩ := J.look
  obtain ⟨P, Z, p, _⟩ := kit_of I ry ty
  have LU := Z.ty (model X.prog X.w) _ I.kIn p
  have sub : PySem.W.Looks (model X.prog X.w) s.heap (isInstance (.ref a) (.type "object")) true := J.type.andThen (PySem.W.looks_mroIn I.kIn hm)
  have try1 : wpAny (model X.prog X.w) X.A (tryCompare (.ref a) "__ne__" u) (fun r s' => ∃ v, r = some v ∧ EP X pins σ Q v s') X.xe s := by
    unfold tryCompare
    refine wpAny_bind (ifBound_B I.kIn J hn0 PySem.F.cmp_object.ne (wpAny_call (codeAny_call_builtin PySem.F.cmp_object.ne.plain PySem.F.cmpEntry_ne
      (PySem.W.check_slot PySem.F.cmpKind_ne PySem.F.cmpSplit_ne sub (PySem.F.cmpArgs_ne _ _) ?_))))
    refine objNe_K (A := X.A.in1) hr.in1.units0 I.kIn J hs hf ?_
    refine wpAny_mono (run_at F (hr.in1.mono (by omega)) rfl hb hx I (.cons (show L2.RelV (V.ref a) (Value.ref a) from rfl) (.cons ry .nil)) hsp) (fun v s' hv => ?_) fun _ _ z => z
    obtain ⟨z, H', I', rz, b, rfl, q⟩ := hv
    have ev : v = .bool b := rz
    have fin : EP X pins σ Q (.bool (!b)) s' := ⟨.bl (!b), H', I', rfl, q⟩
    refine ⟨b, ev, ?_⟩
    first
      | exact wpAny_pure ⟨_, rfl, fin⟩
      | exact ⟨_, wpAny_pure ⟨_, rfl, fin⟩⟩
      | (show _ ∧ _; exact ⟨by simp, wpAny_pure ⟨_, rfl, fin⟩⟩)
  show wpAny (model X.prog X.w) X.A (richCompare .NotEq (.ref a) u) (EP X pins σ Q) X.xe s
  unfold richCompare
  simp only [oneThing_ref]
  refine wpAny_holding (wpAny_bind (wpAny_cRoomFor hr.units0 (wpAny_bind (J.type.here (wpAny_bind (LU.here ?_))))))
  have fin : ∀ r s', (∃ v, r = some v ∧ EP X pins σ Q v s') → wpAny (model X.prog X.w) X.A (match r with | some v => pure v | none => richCompare .NotEq (.ref a) u) (EP X pins σ Q) X.xe s' := fun r s' ⟨v, e, z⟩ => by subst e; exact wpAny_pure z
  split
  · rename_i q
    have e : PySem.W.subIn X.K t (.ref C) = some false := by
      cases Bool.or_eq_true_iff.mp hn with
      | inl e => rw [beq_iff_eq.mp e] at q; simp at q
      | inr e => exact beq_iff_eq.mp e
    refine wpAny_bind ((PySem.W.looks_subIn I.kIn e).here ?_)
    simp only [Bool.false_eq_true, if_false]
    refine wpAny_bind (wpAny_mono try1 (fun r s' ⟨v, e, z⟩ => ?_) fun _ _ z => z)
    subst e
    exact wpAny_pure z
  · refine wpAny_bind (wpAny_pure ?_)
    simp only [Bool.false_eq_true, if_false]
    refine wpAny_bind (wpAny_mono try1 (fun r s' ⟨v, e, z⟩ => ?_) fun _ _ z => z)
    subst e
    exact wpAny_pure z
/-- str(x) by an own __str__ -/
def rStrOwn (C : Addr) (sp : Sp) (E : XK) : List V → Hp → VK → Prop := fun xs H Q => ∃ a dx fs, xs = [.ref a] ∧ H a = some (.ins C dx fs) ∧ sp xs H (fun v H' => (∃ z, v = .str z) ∧ Q v H') E
theorem call_strOwn {CX : CXT} {k : Nat} {C f : Addr} {fd : FuncData} {ps : List Str} {sp : Sp} {E : XK} (F : FnOk X.prog X.w X.K X.mg X.base CX k f fd ps sp) (hr : Room (k + 2) X.A)
    (hs : PySem.W.findIn X.K (.ref C) "__str__" = some (some (.ref f))) (hf : PySem.W.isFn X.K (.ref f) = true) (hb : Binds X.K fd ps []) (hx : Passes CX X E) : CallR X (.type "str") (rStrOwn C sp E) := by
  intro pins s σ H xs us Q I r hq
  obtain ⟨a, dx, fs, rfl, ha, hsp⟩ := hq
  obtain ⟨u, rfl, ru⟩ := vals1 r
  cases ru
  obtain ⟨mA, J, _⟩ := ins_get I.hok ha
  obtain ⟨od, J, _⟩ := J.look
  refine PySem.W.kso_call hr.in1.in1.units0 I.kIn J hs hf ?_
  refine wpAny_mono (run_at F hr.in1.in1 rfl hb hx I r hsp) (fun v s' hv => ?_) fun _ _ z => z
  obtain ⟨w, H', I', rw', ⟨z, rfl⟩, q⟩ := hv
  obtain ⟨tk, e⟩ := rw'
  subst e
  exact ⟨.str z, H', I', ⟨tk, rfl⟩, q⟩
/-! ### a staticmethod of a class -/
structure SMet (K : PySem.W.Frag) (C : Addr) (mc : Value) (m : Str) (p g : Addr) : Prop where
  at_ : PySem.W.findCls K (.ref C) mc m = some (.get (.builtin "staticmethod.__get__") (.ref p) .none (.ref C))
  rc : ∃ rest, PySem.W.recIn K p "staticmethod" = some (.ref g :: rest)
def tSMeth (C : Addr) (sp : Sp) (E : XK) (ta : TE) (t : TA) : TE := fun σ H Q => ta σ H fun x H1 => x = .ref C ∧ t σ H1 fun vs H2 => sp vs H2 Q E
theorem pe_smeth {CX : CXT} {k : Nat} {C p g : Addr} {mc : Value} {fd : FuncData} {ps : List Str} {sp : Sp} {E : XK} {o e : Expr} {es : List Expr} {m : Str} {pos apos : Pos} {ta : TE} {t : TA} {pl : Sem Bool}
    (he : PE X o ta) (r : ClX.CRead X.K C mc) (c : SMet X.K C mc m p g) (F : FnOk X.prog X.w X.K X.mg X.base CX k g fd ps sp) (hk : PySem.W.keepIn X.K (.ref g) = true) (hr : Room k X.A) (hb : Binds X.K fd ps []) (hx : Passes CX X E) (ha : PA X (e :: es) t)
    (hst : starEach (e :: es) X.env = (false, eval e X.env) :: starEach es X.env := by rfl) (hpl : (backTo pos (starEach es X.env)).any (·.1) = false := by rfl)
    (ht : eval (.Call (.Attribute o m apos) (e :: es) [] pos) X.env = (do let ov ← eval o X.env; standAt apos.atName; let (f, first) ← holding [ov] (getMethod ov m pl); callWith pos f first (backTo pos (starEach (e :: es) X.env)) (backToKw pos (keywordEach [] X.env))) := by rfl) :
    PE X (.Call (.Attribute o m apos) (e :: es) [] pos) (tSMeth C sp E ta t) := by
  refine ⟨fun pins s σ H Q I h => PySem.W.methodCall_KW (pl := pl) (thn (he.run pins s σ H _ I h) fun u s1 ⟨x, H1, I1, rx, ex, q⟩ => ?_) ht⟩
  subst ex
  obtain rfl : u = Value.ref C := rx
  obtain ⟨rest, hp⟩ := c.rc
  refine PySem.W.method_cls I1.kIn r.ga (PySem.W.cls_bind I1.kIn r.rd c.at_ (wpAny_call (PySem.W.sm_get (s := { s1 with toks := s1.toks + 1 }) I1.kIn hp (PySem.W.handed_on rfl ?_))))
  have I2 := I1.tok (s1.toks + 1)
  refine PySem.W.callWith_K (h₀ := X.base) I2.ok.mod.kin hk (thn (ha.run pos pins _ σ H1 _ I2 q) fun us s3 ⟨vs, H2, I3, rv, q2⟩ => ⟨I3.kIn, ?_⟩) hst hpl
  exact run_at F hr rfl hb hx I3 rv q2
end
end GS
/-! Own rule: several except clauses, each with or without «as n». -/
namespace GS
open PySem PySem.Spec PyProof.Rows L2
abbrev Cl := Value × Option Nat × (Addr → Value → Option Addr → TS)
/-- the ends and the slots of a suite whose error's name has slot i -/
def asEnds (i : Nat) (D : Ends) : Ends := { nx := fun σ' H' => D.nx (σ'.set i none) H', rt := D.rt, bk := fun σ' H' => D.bk (σ'.set i none) H', ct := fun σ' H' => D.ct (σ'.set i none) H' }
def wCl (D : Ends) (q : Cl) (a : Addr) (cls : Value) (d : Option Addr) (σ : L2.St) (H : Hp) : Prop := match q.2.1 with
  | none => q.2.2 a cls d D σ H
  | some i => q.2.2 a cls d (asEnds i D) (σ.set i (some (.ref a))) H
def wCls (K : PySem.W.Frag) (Wout : WX) (D : Ends) : List Cl → WX
  | [] => Wout
  | q :: r => fun cls d σ H => ∃ b, PySem.W.exmOne K cls q.1 = some b ∧ (b = true → ∀ a, H a = none → wCl D q a cls d σ H) ∧ (b = false → wCls K Wout D r cls d σ H)
/-- one clause is as it is told -/
inductive ClOk (X : Cx) : ExceptHandler → Cl → Prop
  | bare {x : Str} {c : Value} {ts : Addr → Value → Option Addr → TS} {st : Stmt} {sts : List Stmt} {np pos' : Pos} (hc : Names X x c)
      (su : ∀ (a : Addr) (oe : Obj) (cls : Value) (d : Option Addr) (pn : List (Addr × Obj)), Zc cls d oe → (∃ vs, oe.data = .fields vs) → PSs (X.suite a ((a, oe) :: pn)) (st :: sts) (ts a cls d)) :
      ClOk X (.ExceptHandler (some (.Name x np)) none (st :: sts) pos') (c, none, ts)
  | as {x n : Str} {c : Value} {ts : Addr → Value → Option Addr → TS} {st : Stmt} {sts : List Stmt} {np pos' : Pos} {i : Nat} (hc : Names X x c) (hN : X.N.Nodup) (hi : X.N[i]? = some n) (hln : X.env.kindOf n = some .local)
      (su : ∀ (a : Addr) (oe : Obj) (cls : Value) (d : Option Addr) (pn : List (Addr × Obj)), Zc cls d oe → (∃ vs, oe.data = .fields vs) → PSs (X.suite a ((a, oe) :: pn)) (st :: sts) (ts a cls d)) :
      ClOk X (.ExceptHandler (some (.Name x np)) (some n) (st :: sts) pos') (c, some i, ts)
inductive ClsOk (X : Cx) : List ExceptHandler → List Cl → Prop
  | nil : ClsOk X [] []
  | cons {h : ExceptHandler} {q : Cl} {hs : List ExceptHandler} {qs : List Cl} (o : ClOk X h q) (r : ClsOk X hs qs) : ClsOk X (h :: hs) (q :: qs)

/-- the frame holds the error at a; sI: the body's last state -/
structure Caught (X : Cx) (pins : List (Addr × Obj)) (σ : L2.St) (H : Hp) (a : Addr) (B : Heap) (cls : Value) (d : Option Addr) (sI s : Shared) : Prop where
  inv : Inv X pins σ H sI
  nb : ∀ (b : Addr) (o : Obj), sI.heap.get? b = some o → ¬b ∈ frs X.stack → B.get? b = some o
  up : sI.heap.UpToSlots s.heap
  na : H a = none
  os : s.os = sI.os
  ag : AllBare s.gens
  fl : PySem.HandSPX.FlyingZ B (X.env :: X.outer) a (Zc cls d) s.heap
section
variable {X : Cx} {pins : List (Addr × Obj)} {σ : L2.St} {H : Hp} {s sI : Shared} {a : Addr} {B : Heap} {cls : Value} {d : Option Addr} {D : Ends} {Wout : WX}
theorem Caught.here (c : Caught X pins σ H a B cls d sI s) : Inv X pins σ H s := c.inv.landed c.nb c.fl.1 c.up c.os c.ag
theorem Caught.off (c : Caught X pins σ H a B cls d sI s) (hf : X.env.frame = some X.env.locals) : a ≠ X.env.locals ∧ ¬ a ∈ X.fs := by
  obtain ⟨oe, vs, e1, _, e3⟩ := c.fl.there
  have none_of : ∀ b, b ∈ frs (X.env :: X.outer) → b ≠ a := fun b hb z => by
    obtain ⟨_, o, ho, hnf⟩ := c.fl.2.2.1.mem hb
    rw [z, e1] at ho
    exact hnf vs (by rw [← Option.some.inj ho]; exact e3)
  refine ⟨fun z => none_of a ?_ rfl, fun z => none_of a ?_ rfl⟩
  · rw [z]; exact List.mem_filterMap.mpr ⟨X.env, List.mem_cons_self, hf⟩
  · obtain ⟨e, he, q⟩ := List.mem_filterMap.mp z
    exact List.mem_filterMap.mpr ⟨e, List.mem_cons_of_mem _ he, q⟩
/-- it flies again -/
theorem Caught.again {M : Model} {A : Around} {E : Value → Shared → Prop} {Q : Unit → Shared → Prop} (c : Caught X pins σ H a B cls d sI s) (k : ∀ s', Caught X pins σ H a B cls d sI s' → Q () s') : wpAny M A (setFlight (.ref a) none) Q E s :=
  PySem.HandSPX.lands_againZ c.fl fun h' f u => k _ ⟨c.inv, c.nb, c.up.trans u, c.na, c.os, c.ag, f⟩
/-- a suite, from what its reading says, to the ends -/
theorem Caught.suite {M : Model} (c : Caught X pins σ H a B cls d sI s) (hf : X.env.frame = some X.env.locals) : ∃ oe, Zc cls d oe ∧ (∃ vs, oe.data = .fields vs) ∧ Inv (X.suite a ((a, oe) :: (X.pn ++ pins))) [] σ H s := by
  obtain ⟨oe, vs, e1, e2, e3⟩ := c.fl.there
  obtain ⟨n1, n2⟩ := c.off hf
  exact ⟨oe, e2, ⟨vs, e3⟩, c.here.suite e1 e3 c.na n1 n2⟩
/-- the class named in a clause, evaluated -/
theorem names_eval {x : Str} {c0 : Value} {np : Pos} {Q : Value → Shared → Prop} {E : Value → Shared → Prop} (c : Caught X pins σ H a B cls d sI s) (hf : X.env.frame = some X.env.locals) (hc : Names X x c0) (q : Q c0 s) :
    wpAny (model X.prog X.w) (X.A.mark (some (.ref a))) (eval (.Name x np) X.env) Q E s := by
  obtain ⟨oe, _, _, S⟩ := c.suite (M := model X.prog X.w) hf
  obtain ⟨hg, hdb, hh⟩ := hc
  cases hh with
  | inl hm => exact ld_glob (X := X.suite a ((a, oe) :: (X.pn ++ pins))) S hg hm q hdb
  | inr hm => exact ld_blt (X := X.suite a ((a, oe) :: (X.pn ++ pins))) S hg hm.1 hm.2.1 q hm.2.2 hdb
theorem clauses {hs : List ExceptHandler} {qs : List Cl} (k : ClsOk X hs qs) (hst : X.stack = X.env :: X.outer) (hf : X.env.frame = some X.env.locals) (tk : Takes X Wout) :
    ∀ {s : Shared}, Caught X pins σ H a B cls d sI s → wCls X.K Wout D qs cls d σ H → wpAny (model X.prog X.w) X.A (handleBy (.ref a) X.env hs) (SP X pins D) X.xe s := by
  induction k with
  | nil =>
    intro s c w
    refine wpAny_handleBy_nil ?_
    obtain ⟨k1, k2, k3, oe, vs, T, oT, ts', he, hz, hd, h1, hr⟩ := id c.fl
    have out : wpAny (model X.prog X.w) X.A (setFlight (.ref a) X.env.frame) (fun _ s4 => wpAny (model X.prog X.w) X.A (throw (.ref a) : Sem Flow) (SP X pins D) X.xe s4) X.xe s := by
      rw [hf]
      exact PySem.HandSPX.setFlight_upZ c.fl fun h4 hh4 up4 => wpAny_throw (tk _ _ ⟨a, B, sI, pins, σ, H, cls, d, rfl, c.inv, c.nb, c.up.trans up4, .inr (.inr (by rw [hst]; exact hh4)), c.na, c.os, c.ag, w⟩)
    unfold PySem.passOn
    refine wpAny_bind (wpAny_field he hd h1 ?_)
    rw [if_neg (show ¬ ((Value.ref T == Value.none) = true) from by simp)]
    first
      | exact wpAny_bind (wpAny_pure (wpAny_bind out))
      | exact wpAny_bind out
  | @cons h q hs qs o r ih =>
    intro s c w
    obtain ⟨b, hb1, hyes, hno⟩ := w
    obtain ⟨oe0, vs0, e01, e02, e03⟩ := c.fl.there
    have LT : PySem.W.Looks (model X.prog X.w) s.heap (typeOf (.ref a)) cls := fun A Q E s' kk z => wpAny_typeOf_ref (kk _ _ e01) (by rw [e02.1]; exact z)
    have LM := PySem.W.exm_one (M := model X.prog X.w) c.here.kIn LT hb1
    cases o with
    | bare hc su =>
      refine wpAny_handleBy_cons (codeAny_handlers_test ?_) (by intro q; cases q)
      refine names_eval c hf hc (LM.here ?_)
      cases b with
      | false => exact ih c (hno rfl)
      | true =>
        refine codeAny_handlers_suite (c.again fun s4 c4 => ?_)
        obtain ⟨oe, z1, z2, S⟩ := c4.suite (M := model X.prog X.w) hf
        have ok := c4.here.ok
        refine wpAny_mono ((su a oe cls d (X.pn ++ pins) z1 z2).run [] _ _ H _ S (hyes rfl a c.na)) (fun f s6 hsp => ?_) (fun _ _ z => False.elim z)
        cases f with
        | next => exact let ⟨σ6, H6, S6, q6⟩ := hsp; ⟨_, _, S6.unsuite ok, q6⟩
        | brk => exact let ⟨σ6, H6, S6, q6⟩ := hsp; ⟨_, _, S6.unsuite ok, q6⟩
        | cont => exact let ⟨σ6, H6, S6, q6⟩ := hsp; ⟨_, _, S6.unsuite ok, q6⟩
        | ret u => exact let ⟨v6, σ6, H6, S6, r6, q6⟩ := hsp; ⟨_, _, _, S6.unsuite ok, r6, q6⟩
    | @as x n c0 ts st sts np pos' i hc hN hi hln su =>
      refine wpAny_handleBy_cons (codeAny_handlers_test ?_) (by intro q; cases q)
      refine names_eval c hf hc (LM.here ?_)
      cases b with
      | false => exact ih c (hno rfl)
      | true =>
        refine codeAny_handlers_suite_as (c.again fun s4 c4 => ?_)
        obtain ⟨oe, z1, z2, S⟩ := c4.suite (M := model X.prog X.w) hf
        have ok := c4.here.ok
        refine store_ok (X := X.suite a ((a, oe) :: (X.pn ++ pins))) (v := .ref a) S hN hi (.inl hln) rfl (fun s5 S5 => ?_) (.inr hln)
        refine wpAny_mono ((su a oe cls d (X.pn ++ pins) z1 z2).run [] s5 _ H (asEnds i D) S5 (hyes rfl a c.na)) (fun f s6 hsp => ?_) (fun _ _ z => False.elim z)
        cases f with
        | next => exact let ⟨σ6, H6, S6, q6⟩ := hsp; gone_ok (S6.unsuite ok) hN hi hln fun s7 J7 => ⟨_, _, J7, q6⟩
        | brk => exact let ⟨σ6, H6, S6, q6⟩ := hsp; gone_ok (S6.unsuite ok) hN hi hln fun s7 J7 => ⟨_, _, J7, q6⟩
        | cont => exact let ⟨σ6, H6, S6, q6⟩ := hsp; gone_ok (S6.unsuite ok) hN hi hln fun s7 J7 => ⟨_, _, J7, q6⟩
        | ret u => exact let ⟨v6, σ6, H6, S6, r6, q6⟩ := hsp; gone_ok (S6.unsuite ok) hN hi hln fun s7 J7 => ⟨_, _, _, J7, r6, q6⟩
/-- THE RULE: try .. except A as x: .. except B: .. -/
theorem ps_try_cls {body : List Stmt} {h₀ : ExceptHandler} {hds : List ExceptHandler} {qs : List Cl} {pos : Pos} {tb : WX → TS} (hst : X.stack = X.env :: X.outer) (hf : X.env.frame = some X.env.locals) (tk : Takes X Wout)
    (hb : ∀ (W : WX) (pn : List (Addr × Obj)) (xe : Value → Shared → Prop), Takes (X.tr pn xe) W → PassesOwn (model X.prog X.w) X.A X.env xe → PSs (X.tr pn xe) body (tb W)) (hh : ClsOk X (h₀ :: hds) qs) :
    PS X (.Try body (h₀ :: hds) [] [] pos) (fun D σ H => tb (wCls X.K Wout D qs) D σ H) := by
  refine ⟨fun pins s σ H D I h => wpAny_Try_except ?_⟩
  have ok := I.ok
  have fr : X.A.frames = some (X.env :: X.outer) := by rw [ok.frames, hst]
  have B0 := hb (wCls X.K Wout D qs) (X.pn ++ pins) (fun e s₁ => wpAny (model X.prog X.w) X.A (noteFrame e X.env) (fun _ s₂ => wpAny (model X.prog X.w) X.A (setFlight e none) (fun _ s₃ => wpAny (model X.prog X.w) X.A (handleBy e X.env (h₀ :: hds)) (SP X pins D) X.xe s₃) X.xe s₂) X.xe s₁)
    (fun u s' xx => by
      obtain ⟨a, B, sI, pins', σ', H', cls, d, rfl, J', nb, up, sky, na, os, ag, w⟩ := xx
      refine Sky.land Zc.steady fr hf (show Sky B (X.env :: X.outer) a (Zc cls d) X.env.locals s'.heap by rw [← hst]; exact sky) fun h3 fl3 up3 => ?_
      exact clauses hh hst hf tk ⟨J'.ofTry ok, nb, up.trans up3, na, os, ag, fl3⟩ w) PassesOwn.looking
  refine wpAny_mono (B0.run [] s σ H D (I.toTry _) h) (fun f s1 hsp => ?_) (fun _ _ z => z)
  cases f with
  | next => exact let ⟨σ', H', J', q⟩ := hsp; wpAny_execs_nil ⟨σ', H', J'.ofTry ok, q⟩
  | brk => exact let ⟨σ', H', J', q⟩ := hsp; ⟨σ', H', J'.ofTry ok, q⟩
  | cont => exact let ⟨σ', H', J', q⟩ := hsp; ⟨σ', H', J'.ofTry ok, q⟩
  | ret u => exact let ⟨v, σ', H', J', r, q⟩ := hsp; ⟨v, σ', H', J'.ofTry ok, r, q⟩
end
end GS
/-! What the head tells: a list of Bools of the written part, and the defs. -/
namespace GS
open PySem PySem.W PySem.Calls PyProof.Rows He
abbrev Chk := PySem.W.Frag → Bool
def obsM (fa : List He.Fa) (ex : List Chk) (fn : List He5.DefA) (K : PySem.W.Frag) : He.AlD := ((fa.all fun f => f.ok K) && ((ex.all fun f => f K) && fn.all fun d => d.ok K), fn.map fun d => He5.fnA K (d.at_ K))
def SaysM (fa : List He.Fa) (ex : List Chk) (fn : List He5.DefA) (K : PySem.W.Frag) : Prop := obsM fa ex fn K = He5.valA fn
def obsMG (n : Nat) (fa : List He.Fa) (ex : List Chk) (fn : List He5.DefA) (g : Addr → Option Obj) : He.AlD := obsM fa ex fn (frG g (He5.asA g n))
def hookM (n : Nat) (fa : List He.Fa) (ex : List Chk) (fn : List He5.DefA) : PySem.W.Hook where
  α := He.AlD
  obs s := obsMG n fa ex fn s.heap.get?
  val _ := He5.valA fn
  says _ h := ∃ K : PySem.W.Frag, K.In h ∧ SaysM fa ex fn K
  of _ _ e := ⟨_, frG_in, e⟩
  keeps := fun _ _ _ ⟨K, i, c⟩ k => ⟨K, Frag.In.keeps i k, c⟩
theorem obsMG_eq {n : Nat} {fa : List He.Fa} {ex : List Chk} {fn : List He5.DefA} {g : Addr → Option Obj} {s : Shared} (h : ∀ a, g a = s.heap.get? a) : obsMG n fa ex fn g = (hookM n fa ex fn).obs s := by
  obtain rfl : g = s.heap.get? := funext h
  rfl
section
variable {fa : List He.Fa} {ex : List Chk} {fn : List He5.DefA} {K : PySem.W.Frag}
theorem SaysM.fst (c : SaysM fa ex fn K) : (∀ f ∈ fa, f.ok K = true) ∧ (∀ f ∈ ex, f K = true) ∧ ∀ d ∈ fn, d.ok K = true := by
  have e : ((fa.all fun f => f.ok K) && ((ex.all fun f => f K) && fn.all fun d => d.ok K)) = true := congrArg (fun z : He.AlD => z.1) c
  obtain ⟨h1, h2⟩ := ba e
  obtain ⟨h3, h4⟩ := ba h2
  exact ⟨List.all_eq_true.mp h1, List.all_eq_true.mp h3, List.all_eq_true.mp h4⟩
theorem SaysM.fact (c : SaysM fa ex fn K) (i : Nat) {f : He.Fa} (h : fa[i]? = some f := by rfl) : f.ok K = true := c.fst.1 f (List.mem_of_getElem? h)
theorem SaysM.chk (c : SaysM fa ex fn K) (i : Nat) {f : Chk} (h : ex[i]? = some f := by rfl) : f K = true := c.fst.2.1 f (List.mem_of_getElem? h)
theorem SaysM.def_ (c : SaysM fa ex fn K) (i : Nat) {d : He5.DefA} (h : fn[i]? = some d := by rfl) : ∃ fd, L2.FunD K d.name d.qual d.params d.body d.scope (d.dvs K) (d.kws K) (d.at_ K) fd := by
  have e : fn.map (fun d => He5.fnA K (d.at_ K)) = fn.map He5.DefA.val := congrArg (fun z : He.AlD => z.2) c
  have e2 := congrArg (fun l => l[i]?) e
  simp only [List.getElem?_map, h, Option.map_some, Option.some.injEq] at e2
  exact He5.DefA.funD e2 (c.fst.2.2 d (List.mem_of_getElem? h))
end
/-! ### classes of errors -/
def oexB (K : PySem.W.Frag) (C : Addr) : Bool := (match K.lookup C with
    | some ⟨.type t, _, .cls cd, sl⟩ => (match cd.mro, sl.toList with
      | .ref c :: bm, [_, _, _, _, some (.builtin n), _] => decide (t = "type") && (decide (c = C) && (decide (n = "ValueError.__new__") && (!cd.hasDel && (cd.hasDict && PySem.HandSPX.refsVE bm))))
      | _, _ => false)
    | _ => false) && (eqO (findIn K (.ref C) "__setattr__") (some (some (.builtin "object.__setattr__"))) && (decide (subIn K (.ref C) (.type "BaseException") = some true) && (decide (typeIn K (.ref C) = some (.type "type")) && keepIn K (.ref C))))
theorem oexB_ok {K : PySem.W.Frag} {C : Addr} (h : oexB K C = true) : L2.OexC K C := by
  obtain ⟨h0, h⟩ := ba h
  obtain ⟨h1, h⟩ := ba h
  obtain ⟨h2, h⟩ := ba h
  obtain ⟨h3, h4⟩ := ba h
  refine ⟨?_, eqO_ok h1, of_decide_eq_true h2, of_decide_eq_true h3, h4⟩
  clear h1 h2 h3 h4 h
  split at h0
  · rename_i t dd cd sl ho
    split at h0
    · rename_i c bm k0 k1 k2 k3 n k5 hm hs
      obtain ⟨a1, a⟩ := ba h0
      obtain ⟨a2, a⟩ := ba a
      obtain ⟨a3, a⟩ := ba a
      obtain ⟨a4, a⟩ := ba a
      obtain ⟨a5, a6⟩ := ba a
      obtain ⟨nm, bs, mro, ns, qn, hd, sn, sub, ab, col, del⟩ := cd
      obtain ⟨l⟩ := sl
      dsimp only at hm hs a4 a5
      subst hm hs a5
      obtain rfl := of_decide_eq_true a1
      obtain rfl := of_decide_eq_true a2
      obtain rfl := of_decide_eq_true a3
      have a4' : del = false := by simpa using a4
      subst a4'
      exact ⟨nm, qn, ns, bs, bm, sn, sub, ab, col, dd, k0, k1, k2, k3, k5, ho, a6⟩
    · cases h0
  · cases h0
/-- an error class X with the fields fs: made by its own __init__, caught by the classes yes, not by the classes no; its fields are read -/
def errB (x : PySem.Str) (fs : List PySem.Str) (yes no : List PySem.Str) : Chk := fun K => oexB K (ga K x) && (L2.xfB K (ga K x) && ((fs.all fun f => eqO (findIn K (.ref (ga K x)) f) (some none)) &&
  ((yes.all fun y => decide (exmOne K (.ref (ga K x)) (.ref (ga K y)) = some true)) && ((no.all fun y => decide (exmOne K (.ref (ga K x)) (.ref (ga K y)) = some false)) &&
    (eqO (findIn K (.ref (ga K x)) "__init__") (some (some (.ref (ma K (ga K x) "__init__")))) && decide (typeIn K (.ref (ma K (ga K x) "__init__")) = some (.type "function")))))))
structure ErrC (K : PySem.W.Frag) (x : PySem.Str) (fs yes no : List PySem.Str) : Prop where
  o : L2.OexC K (ga K x)
  xf : L2.XfC K (ga K x)
  no_ : ∀ f ∈ fs, findIn K (.ref (ga K x)) f = some none
  y : ∀ c ∈ yes, exmOne K (.ref (ga K x)) (.ref (ga K c)) = some true
  n : ∀ c ∈ no, exmOne K (.ref (ga K x)) (.ref (ga K c)) = some false
  i : findIn K (.ref (ga K x)) "__init__" = some (some (.ref (ma K (ga K x) "__init__")))
  t : typeIn K (.ref (ma K (ga K x) "__init__")) = some (.type "function")
theorem errB_ok {K : PySem.W.Frag} {x : PySem.Str} {fs yes no : List PySem.Str} (h : errB x fs yes no K = true) : ErrC K x fs yes no := by
  obtain ⟨h1, h⟩ := ba h
  obtain ⟨h2, h⟩ := ba h
  obtain ⟨h3, h⟩ := ba h
  obtain ⟨h4, h⟩ := ba h
  obtain ⟨h5, h⟩ := ba h
  obtain ⟨h6, h7⟩ := ba h
  exact ⟨oexB_ok h1, L2.xfB_ok h2, fun f hf => eqO_ok (List.all_eq_true.mp h3 f hf), fun f hf => of_decide_eq_true (List.all_eq_true.mp h4 f hf), fun f hf => of_decide_eq_true (List.all_eq_true.mp h5 f hf), eqO_ok h6, of_decide_eq_true h7⟩
/-! ### own classes -/
/-- a class whose instances are asked by isinstance; values of built-in types are none of it, and it is none of them -/
def clsB (x : PySem.Str) (tys : List String) : Chk := fun K => eqO (findIn K (.ref (ga K x)) "__class__") (some (some (.builtin "object.__class__"))) && (decide (mroIn K (ga K x) (.type "object") = some true) &&
  ((tys.all fun t => decide (kitOne K (.type t) (.ref (ga K x)) = some false) && (decide (kitOne K (.ref (ga K x)) (.type t) = some false) && notFirst K (ga K x) (.type t))) &&
    (decide (kitOne K (.ref (ga K x)) (.ref (ga K x)) = some true) && notFirst K (ga K x) (.ref (ga K x)))))
structure ClsC (K : PySem.W.Frag) (x : PySem.Str) (tys : List String) : Prop where
  ha : findIn K (.ref (ga K x)) "__class__" = some (some (.builtin "object.__class__"))
  hm : mroIn K (ga K x) (.type "object") = some true
  ty : ∀ t ∈ tys, kitOne K (.type t) (.ref (ga K x)) = some false ∧ kitOne K (.ref (ga K x)) (.type t) = some false ∧ notFirst K (ga K x) (.type t) = true
  me : kitOne K (.ref (ga K x)) (.ref (ga K x)) = some true
  nf : notFirst K (ga K x) (.ref (ga K x)) = true
theorem clsB_ok {K : PySem.W.Frag} {x : PySem.Str} {tys : List String} (h : clsB x tys K = true) : ClsC K x tys := by
  obtain ⟨h1, h⟩ := ba h
  obtain ⟨h2, h⟩ := ba h
  obtain ⟨h3, h⟩ := ba h
  obtain ⟨h4, h5⟩ := ba h
  refine ⟨eqO_ok h1, of_decide_eq_true h2, fun t ht => ?_, of_decide_eq_true h4, h5⟩
  obtain ⟨a, b⟩ := ba (List.all_eq_true.mp h3 t ht)
  obtain ⟨b, c⟩ := ba b
  exact ⟨of_decide_eq_true a, of_decide_eq_true b, c⟩
/-- what holds of every program: how __class__ is read -/
def topB : Chk := fun K => eqO (specialIn K (.builtin "object.__class__") "__get__") (some (some (.builtin "getset_descriptor.__get__"))) && decide (takesIn K (.builtin "object.__class__") = some true)
/-- the class says nothing of != -/
def neB (x : PySem.Str) : Chk := fun K => eqO (findIn K (.ref (ga K x)) "__ne__") (some (some (.builtin "object.__ne__")))
/-- a staticmethod -/
def smB (x m : PySem.Str) : Chk := fun K => He5.wrapB K (ga K x) "staticmethod" "staticmethod.__get__" m && (readsIn K (ga K x) (.type "type") && (eqO (specialIn K (.ref (ga K x)) "__getattribute__") (some (some (.builtin "type.__getattribute__"))) && keepIn K (.ref (He5.wf K (ga K x) "staticmethod" m))))
theorem smB_ok {K : PySem.W.Frag} {x m : PySem.Str} (h : smB x m K = true) : SMet K (ga K x) (.type "type") m (ma K (ga K x) m) (He5.wf K (ga K x) "staticmethod" m) ∧ ClX.CRead K (ga K x) (.type "type") ∧ keepIn K (.ref (He5.wf K (ga K x) "staticmethod" m)) = true := by
  obtain ⟨h1, h⟩ := ba h
  obtain ⟨h2, h⟩ := ba h
  obtain ⟨h3, h4⟩ := ba h
  obtain ⟨a, b⟩ := He5.wrapB_ok h1
  exact ⟨⟨a, b⟩, ⟨h2, eqO_ok h3⟩, h4⟩
end GS
/-! Readings, step by step: one lemma a construct, and a step tactic. -/
namespace GS
open PySem PySem.Spec PyProof.Rows L2

/-! ### promises by the number of arguments -/
def sp1 (S : V → Hp → VK → XK → Prop) : Sp := fun vs H Q E => match vs with | [a] => S a H Q E | _ => False
def sp2 (S : V → V → Hp → VK → XK → Prop) : Sp := fun vs H Q E => match vs with | [a, b] => S a b H Q E | _ => False
def sp3 (S : V → V → V → Hp → VK → XK → Prop) : Sp := fun vs H Q E => match vs with | [a, b, c] => S a b c H Q E | _ => False
def sp4 (S : V → V → V → V → Hp → VK → XK → Prop) : Sp := fun vs H Q E => match vs with | [a, b, c, d] => S a b c d H Q E | _ => False
theorem sp1_len {S : V → Hp → VK → XK → Prop} : ∀ vs H Q E, sp1 S vs H Q E → vs.length = 1 := fun vs _ _ _ h => match vs, h with | [_], _ => rfl
theorem sp2_len {S : V → V → Hp → VK → XK → Prop} : ∀ vs H Q E, sp2 S vs H Q E → vs.length = 2 := fun vs _ _ _ h => match vs, h with | [_, _], _ => rfl
theorem sp3_len {S : V → V → V → Hp → VK → XK → Prop} : ∀ vs H Q E, sp3 S vs H Q E → vs.length = 3 := fun vs _ _ _ h => match vs, h with | [_, _, _], _ => rfl
theorem sp4_len {S : V → V → V → V → Hp → VK → XK → Prop} : ∀ vs H Q E, sp4 S vs H Q E → vs.length = 4 := fun vs _ _ _ h => match vs, h with | [_, _, _, _], _ => rfl
theorem sp1_is {S : V → Hp → VK → XK → Prop} {vs H Q E} (h : sp1 S vs H Q E) : ∃ a, vs = [a] ∧ S a H Q E := match vs, h with | [a], h => ⟨a, rfl, h⟩
theorem sp2_is {S : V → V → Hp → VK → XK → Prop} {vs H Q E} (h : sp2 S vs H Q E) : ∃ a b, vs = [a, b] ∧ S a b H Q E := match vs, h with | [a, b], h => ⟨a, b, rfl, h⟩
theorem sp3_is {S : V → V → V → Hp → VK → XK → Prop} {vs H Q E} (h : sp3 S vs H Q E) : ∃ a b c, vs = [a, b, c] ∧ S a b c H Q E := match vs, h with | [a, b, c], h => ⟨a, b, c, rfl, h⟩
theorem sp4_is {S : V → V → V → V → Hp → VK → XK → Prop} {vs H Q E} (h : sp4 S vs H Q E) : ∃ a b c d, vs = [a, b, c, d] ∧ S a b c d H Q E := match vs, h with | [a, b, c, d], h => ⟨a, b, c, d, rfl, h⟩

/-! ### heaps that grow -/
def Ex (H H' : Hp) : Prop := ∀ a o, H a = some o → H' a = some o
theorem Ex.refl (H : Hp) : Ex H H := fun _ _ h => h
theorem Ex.trans {H H1 H2 : Hp} (a : Ex H H1) (b : Ex H1 H2) : Ex H H2 := fun x o h => b x o (a x o h)
theorem Ex.new {H : Hp} {p : Addr} {o : HO} (h : H p = none) : Ex H (upd H p o) := fun a u e => by rw [upd_ne (ne_of_none e h)]; exact e
theorem Ex.get {H H' : Hp} {a : Addr} {o : HO} (e : Ex H H') (h : H a = some o) : H' a = some o := e _ _ h
theorem Ex.free {H H' : Hp} {p : Addr} (e : Ex H H') (h : H' p = none) : H p = none := by
  cases q : H p with
  | none => rfl
  | some o => rw [e _ _ q] at h; cases h
theorem Ex.sql {K : PySem.W.Frag} {H H' : Hp} {a : Addr} {xs : List V} (e : Ex H H') (h : SqL K H a xs) : SqL K H' a xs := Same.seq e h
theorem Ex.sqt {K : PySem.W.Frag} {H H' : Hp} {a : Addr} {xs : List V} (e : Ex H H') (h : SqT K H a xs) : SqT K H' a xs := SqT.ext h e
/-- the heap without what stands at b -/
def wo (H : Hp) (b : Addr) : Hp := fun a => if a = b then none else H a
theorem wo_ex (H : Hp) (b : Addr) : Ex (wo H b) H := fun a o h => by
  unfold wo at h
  split at h
  · cases h
  · exact h
theorem Ex.wo {H H' : Hp} (b : Addr) (e : Ex H H') : Ex (wo H b) (wo H' b) := fun a o h => by
  unfold GS.wo at h ⊢
  split at h
  · cases h
  · rename_i n
    rw [if_neg n]
    exact e _ _ h
theorem wo_at {H : Hp} {a b : Addr} {o u : HO} (h : H a = some o) (hb : H b = some u) (n : o ≠ u) : wo H b a = some o := by
  unfold wo
  rw [if_neg (ne_of h hb n)]
  exact h
theorem wo_upd {H : Hp} {b : Addr} {o : HO} : wo (upd H b o) b = wo H b := by
  funext a
  unfold wo upd
  split <;> rfl

/-- what is wished of a new instance -/
def mkK (C : Addr) (sp : Sp) (E : XK) (Q : VK) : List V → Hp → Prop := fun vs H1 => ∀ x dx, H1 x = none → H1 dx = none → dx ≠ x → sp (.ref x :: (vs ++ [])) (upd (upd H1 dx (.own x)) x (.ins C dx [])) (fun v H2 => v = .non ∧ Q (.ref x) H2) E
/-- what is wished of a new tuple, a new list -/
def newT (Q : VK) : List V → Hp → Prop := fun xs H1 => xs.length ≤ sizeLine ∧ ∀ p, H1 p = none → Q (.ref p) (upd H1 p (.tup xs))
def newL (Q : VK) : List V → Hp → Prop := fun xs H1 => xs.length ≤ sizeLine ∧ ∀ p, H1 p = none → Q (.ref p) (upd H1 p (.lst xs))
theorem r_newT {Q : VK} {xs : List V} {H : Hp} (hz : xs.length ≤ sizeLine) (q : ∀ p H', H p = none → Ex H H' → H' p = some (.tup xs) → Q (.ref p) H') : newT Q xs H := ⟨hz, fun p hp => q p _ hp (Ex.new hp) upd_same⟩
theorem r_newL {Q : VK} {xs : List V} {H : Hp} (hz : xs.length ≤ sizeLine) (q : ∀ p H', H p = none → Ex H H' → H' p = some (.lst xs) → Q (.ref p) H') : newL Q xs H := ⟨hz, fun p hp => q p _ hp (Ex.new hp) upd_same⟩
/-! ### expressions -/
section
variable {K : PySem.W.Frag} {σ : L2.St} {H : Hp} {Q : VK} {ta tb te tc : TE} {t u : TT} {v x y : V} {i j : Int}
theorem r_var {n : Nat} (h : σ[n]? = some (some v)) (q : Q v H) : tVar n σ H Q := ⟨v, h, q⟩
theorem r_var3 {n : Nat} (q : Q v H) (h : σ[n]? = some (some v)) : tVar n σ H Q := ⟨v, h, q⟩
theorem r_c (q : Q v H) : tC v σ H Q := q
theorem r_op {r : R2} (q : ta σ H fun x H1 => tb σ H1 fun y H2 => r x y H2 Q) : tOp r ta tb σ H Q := q
theorem r_un {r : V → Hp → VK → Prop} (q : ta σ H fun x H1 => r x H1 Q) : tUn r ta σ H Q := q
theorem r_I0 {g : Int → Int → V} (q : Q (g i j) H) : rI0 g (.int i) (.int j) H Q := ⟨i, j, rfl, rfl, q⟩
theorem r_I {C : Int → Int → Prop} {g : Int → Int → V} (c : C i j) (q : Q (g i j) H) : rI C g (.int i) (.int j) H Q := ⟨i, j, rfl, rfl, c, q⟩
theorem r_U {g : Int → V} (q : Q (g i) H) : rU g (.int i) H Q := ⟨i, rfl, q⟩
theorem r_eq (h : scal x y = true) (q : Q (.bl (decide (x = y))) H) : rEq x y H Q := ⟨h, q⟩
theorem r_eqI (q : Q (.bl (decide (i = j))) H) : rEq (.int i) (.int j) H Q := ⟨rfl, by rwa [show decide (V.int i = V.int j) = decide (i = j) from by simp]⟩
theorem r_neI (q : Q (.bl (!decide (i = j))) H) : rNe (.int i) (.int j) H Q := ⟨rfl, by rwa [show decide (V.int i = V.int j) = decide (i = j) from by simp]⟩
theorem r_ne (h : scal x y = true) (q : Q (.bl (!decide (x = y))) H) : rNe x y H Q := ⟨h, q⟩
theorem r_test {R : Bool → Hp → Prop} (q : ta σ H fun x H' => ∃ k, x = .bl k ∧ R k H') : tTest ta σ H R := q
theorem r_B {R : Bool → Hp → Prop} (q : ta σ H fun x H' => ∃ k, x = .bl k ∧ R k H') : tB ta σ H R := q
theorem r_k {b : Bool} {R : Bool → Hp → Prop} (q : R b H) : ∃ k, V.bl b = .bl k ∧ R k H := ⟨b, rfl, q⟩
theorem r_and {R : Bool → Hp → Prop} (q : t σ H fun c H1 => if c = true then u σ H1 R else R false H1) : tAnd t u σ H R := q
theorem r_or {R : Bool → Hp → Prop} (q : t σ H fun c H1 => if c = true then R true H1 else u σ H1 R) : tOr t u σ H R := q
theorem r_not {R : Bool → Hp → Prop} (q : t σ H fun c H1 => R (!c) H1) : tNot t σ H R := q
theorem r_andV (q : ta σ H fun x H1 => ∃ c, x = .bl c ∧ if c = true then tb σ H1 Q else Q (.bl false) H1) : tAndV ta tb σ H Q := q
theorem r_orV (q : ta σ H fun x H1 => ∃ c, x = .bl c ∧ if c = true then Q (.bl true) H1 else tb σ H1 Q) : tOrV ta tb σ H Q := q
theorem r_notV (q : ta σ H fun x H1 => ∃ c, x = .bl c ∧ Q (.bl (!c)) H1) : tNotV ta σ H Q := q
theorem r_kV {b : Bool} {R : Bool → Prop} (q : R b) : ∃ c, V.bl b = .bl c ∧ R c := ⟨b, rfl, q⟩
theorem r_if (q : t σ H fun c H1 => if c = true then ta σ H1 Q else tb σ H1 Q) : tIf t ta tb σ H Q := q
theorem r_nil {R : List V → Hp → Prop} (q : R [] H) : tNil σ H R := q
theorem r_cons {tr : TA} {R : List V → Hp → Prop} (q : ta σ H fun x H1 => tr σ H1 fun xs H2 => R (x :: xs) H2) : tCons ta tr σ H R := q
theorem r_cb {r : List V → Hp → VK → Prop} {tr : TA} (q : tr σ H fun vs H1 => r vs H1 Q) : tCB r tr σ H Q := q
theorem r_call {sp : Sp} {E : XK} {tr : TA} (q : tr σ H fun vs H1 => sp (vs ++ []) H1 Q E) : tCall sp [] E tr σ H Q := q
theorem r_make {C : Addr} {sp : Sp} {E : XK} {tr : TA} (q : tr σ H (mkK C sp E Q)) : tMake C sp [] E tr σ H Q := q
theorem r_fld {a C dx : Addr} {fs : List (Str × V)} {f : Str} (h : H a = some (.ins C dx fs)) (c : Cls K C) (n : NoAttr K C f) (l : fs.lookup f = some v) (q : Q v H) : ∃ a' C dx fs v, V.ref a = .ref a' ∧ H a' = some (.ins C dx fs) ∧ Cls K C ∧ NoAttr K C f ∧ fs.lookup f = some v ∧ Q v H :=
  ⟨a, C, dx, fs, v, rfl, h, c, n, l, q⟩
theorem r_tup {tr : TA} (q : tr σ H (newT Q)) : tTup tr σ H Q := q
theorem r_lst {tr : TA} (q : tr σ H (newL Q)) : tLst tr σ H Q := q
/-! ### statements -/
variable {D : Ends} {ts tu : TS}
theorem r_seq (q : ts { D with nx := tu D } σ H) : tSeq ts tu D σ H := q
theorem r_asg {n : Nat} (q : te σ H fun x H1 => D.nx (σ.set n (some x)) H1) : tAsg te (gName n) D σ H := q
theorem r_asgG {g : TG} (q : te σ H fun x H1 => g x σ H1 D.nx) : tAsg te g D σ H := q
theorem r_ret (q : te σ H D.rt) : tRet te D σ H := q
theorem r_drop (q : te σ H fun _ H1 => D.nx σ H1) : tDrop te D σ H := q
theorem r_next (q : D.nx σ H) : tNext D σ H := q
theorem r_ifS (q : t σ H fun b H1 => if b = true then ts D σ H1 else tu D σ H1) : tIfS t ts tu D σ H := q
theorem r_raise {W : WX} {X : L2.St → Hp → XK → Prop} (q : X σ H fun cls d H' => W cls d σ H') : (fun (_ : Ends) σ H => X σ H fun cls d H' => W cls d σ H') D σ H := q
end
theorem ite_t {c : Bool} {A B : Prop} (hc : c = true) (h : A) : if c = true then A else B := by rw [if_pos hc]; exact h
theorem ite_f {c : Bool} {A B : Prop} (hc : c = false) (h : B) : if c = true then A else B := by rw [hc, if_neg Bool.false_ne_true]; exact h
theorem ite_b {c : Bool} {A B : Prop} (h1 : c = true → A) (h2 : c = false → B) : if c = true then A else B := by
  cases c with
  | true => rw [if_pos rfl]; exact h1 rfl
  | false => rw [if_neg Bool.false_ne_true]; exact h2 rfl

/-! ### own rules that the layer lacks -/
section
variable {X : Cx}
theorem pe_gint {x : Str} {pos : Pos} {i : Int} (hg : Gl X x) (h : ∃ t, X.mg x = some (.int i t)) (hd : (x == ("__debug__" : Str)) = false := by decide) : PE X (.Name x pos) (tC (.int i)) := let ⟨t, e⟩ := h; pe_glob hg e ⟨t, rfl⟩ hd
theorem pe_gstr {x : Str} {pos : Pos} {z : Str} (hg : Gl X x) (h : ∃ t, X.mg x = some (.str z t)) (hd : (x == ("__debug__" : Str)) = false := by decide) : PE X (.Name x pos) (tC (.str z)) := let ⟨t, e⟩ := h; pe_glob hg e ⟨t, rfl⟩ hd
def CPowW (i j : Int) : Prop := 0 ≤ j ∧ (Builtin.Int.intBits i : Int) * j ≤ 2 ^ 27
theorem op_powW : OpR X (binaryOp .Pow) (rI CPowW fun i j => .int (i ^ j.toNat)) := opI fun _ _ _ _ _ _ _ hc q => pow_int hc.1 hc.2 q
theorem cpow_of {i : Int} {n k : Nat} (h : i.natAbs < 2 ^ n) (hk : n * k ≤ 2 ^ 27) : CPowW i (k : Int) := by
  refine ⟨by omega, ?_⟩
  have b : Builtin.Int.intBits i ≤ n := by
    unfold Builtin.Int.intBits
    split
    · exact Nat.zero_le _
    · rename_i h0
      have h1 : i ≠ 0 := by simpa using h0
      have : i.natAbs.log2 < n := (Nat.log2_lt (by omega)).mpr h
      omega
  have : Builtin.Int.intBits i * k ≤ 2 ^ 27 := Nat.le_trans (Nat.mul_le_mul_right k b) hk
  exact_mod_cast this
end
end GS
/-! Comprehensions whose turns only let the heap grow; integers as texts. -/
namespace GS
open PySem PySem.Spec PyProof.Rows L2 TL
/-- the body of a comprehension's reading -/
def lcB (J : It) (g : TG) (tt : TT) (te : TE) (vs : List Nat) (σ : L2.St) (Q : VK) : Hp → Prop := fun H1 => ∀ D, H1 D = none → ∃ W : Nat → Nat → Hp → Prop, (∃ m, W 0 m (upd H1 D (.lst []))) ∧ ∀ i m H, W i m H → (J.stop i H ∧ Q (.ref D) H) ∨
  (J.go i H ∧ ∃ Nx : Hp → Prop, (∀ H', Nx H' → ∃ m', m' < m ∧ W (i + 1) m' H') ∧ ∀ x H', J.yld i H x H' → g x (wipe σ vs) H' fun σ2 H2 => wipe σ2 vs = wipe σ vs ∧ tt σ2 H2 fun b H3 => if b = true then te σ2 H3 fun y H4 => ∃ acc, H4 D = some (.lst acc) ∧ acc.length < sizeLine ∧ Nx (upd H4 D (.lst (acc ++ [y]))) else Nx H3)
theorem r_lc {wi : TI} {g : TG} {tt : TT} {te : TE} {vs : List Nat} {σ : L2.St} {H : Hp} {Q : VK} (q : wi σ H fun J H1 => lcB J g tt te vs σ Q H1) : tLc wi g tt te vs σ H Q := q
theorem r_chain {r r' : R2} {ta tb tc : TE} {σ : L2.St} {H : Hp} {Q : VK} (q : ta σ H fun x H1 => tb σ H1 fun y H2 => r x y H2 fun z H3 => ∃ k, z = .bl k ∧ (if k = true then tc σ H3 fun w' H4 => r' y w' H4 Q else Q (.bl false) H3)) : tChain r r' ta tb tc σ H Q := q
theorem all_true {K : PySem.W.Frag} {H : Hp} {p : Addr} {n : Nat} {Q : VK} (h : H p = some (.lst ((List.range n).map fun _ => V.bl true))) (q : Q (.bl true) H) : rAll K [.ref p] H Q := by
  refine ⟨p, (List.range n).map fun _ => true, rfl, SqL.of (by rw [List.map_map]; exact h), ?_⟩
  have e : ((List.range n).map fun _ => true).all id = true := by simp
  rw [e]
  exact q
theorem r_pickS {c : Prop} [Decidable c] {σ : L2.St} {H : Hp} {Q : VK} {ta tb : TE} {i j : Str} (h1 : ∀ Q : VK, Q (.str i) H → ta σ H Q) (h2 : ∀ Q : VK, Q (.str j) H → tb σ H Q) (q : Q (.str (if c then i else j)) H) : if decide c = true then ta σ H Q else tb σ H Q := by
  by_cases h : c
  · rw [if_pos h] at q
    exact ite_t (decide_eq_true h) (h1 Q q)
  · rw [if_neg h] at q
    exact ite_f (decide_eq_false h) (h2 Q q)
theorem r_iT {K : PySem.W.Frag} {tl : TE} {σ : L2.St} {H : Hp} {R : It → Hp → Prop} (q : tl σ H fun x H1 => ∃ a, x = .ref a ∧ (∃ xs, SqT K H1 a xs) ∧ R (Itt K a) H1) : iTup K tl σ H R := q
theorem r_iL {K : PySem.W.Frag} {tl : TE} {σ : L2.St} {H : Hp} {R : It → Hp → Prop} (q : tl σ H fun x H1 => ∃ a, x = .ref a ∧ (∃ xs, SqL K H1 a xs) ∧ R (Itl K a) H1) : iList K tl σ H R := q
theorem r_iR1 {ta : TA} {σ : L2.St} {H : Hp} {R : It → Hp → Prop} (q : ta σ H fun vs H1 => ∃ j : Int, vs = [.int j] ∧ -(2 ^ 62) ≤ j ∧ j < 2 ^ 62 ∧ R (Itr 0 j.toNat) H1) : iRng1 ta σ H R := q
theorem Ex.mut {H H' : Hp} {p : Addr} {o : HO} (e : Ex H H') (h : H p = none) : Ex H (upd H' p o) := fun a u ha => by
  rw [upd_ne (ne_of_none ha h)]
  exact e a u ha
theorem sz_le {n : Nat} (h : n ≤ 100000) : n ≤ sizeLine := Nat.le_trans h (by decide)
theorem sz_lt {n : Nat} (h : n < 100000) : n < sizeLine := Nat.lt_of_lt_of_le h (by decide)
/-- the items that a filtered comprehension gives -/
def given (n : Nat) (t : Nat → Bool) (f : Nat → V) : List V := ((List.range n).filter t).map f
theorem given_len (n : Nat) (t : Nat → Bool) (f : Nat → V) : (given n t f).length ≤ n := by
  unfold given
  rw [List.length_map]
  exact Nat.le_trans (List.length_filter_le _ _) (by rw [List.length_range]; exact Nat.le_refl _)
theorem given_all (n : Nat) (f : Nat → V) : given n (fun _ => true) f = (List.range n).map f := by
  unfold given
  rw [List.filter_eq_self.mpr (fun _ _ => rfl)]
theorem given_succ (n : Nat) (t : Nat → Bool) (f : Nat → V) : given (n + 1) t f = if t n = true then given n t f ++ [f n] else given n t f := by
  unfold given
  rw [List.range_succ, List.filter_append, List.map_append, List.filter_cons]
  split
  · rfl
  · show _ ++ [] = _
    rw [List.append_nil]
/-- one name, k its slot -/
theorem r_lcF {J : It} {n : Nat} {G : Hp → Prop} {Y : Nat → Hp → V → Hp → Prop} {k : Nat} {tt : TT} {te : TE} {σ : L2.St} {H1 : Hp} {Q : VK} (w : Walk J n G Y) (t : Nat → Bool) (f : Nat → V) (hn : n ≤ 50000) (hG : ∀ H' : Hp, Ex H1 H' → G H')
    (hw : ∀ x, wipe ((wipe σ [k]).set k (some x)) [k] = wipe σ [k])
    (hs : ∀ i x H H', i < n → Ex H1 H → Y i H x H' → Ex H H' ∧ ∀ R : Bool → Hp → Prop, (∀ H3, Ex H' H3 → R (t i) H3) → tt ((wipe σ [k]).set k (some x)) H' R)
    (he : ∀ i x H, i < n → t i = true → Ex H1 H → (∃ H0 H2, Y i H0 x H2 ∧ Ex H1 H0 ∧ Ex H0 H2 ∧ Ex H2 H) → ∀ R : VK, (∀ H4, Ex H H4 → R (f i) H4) → te ((wipe σ [k]).set k (some x)) H R)
    (q : ∀ p H', H1 p = none → Ex H1 H' → H' p = some (.lst (given n t f)) → Q (.ref p) H') : lcB J (gName k) tt te [k] σ Q H1 := by
  intro D hD
  refine lc_it w (fun i H => Ex H1 H ∧ H D = some (.lst (given i t f))) ⟨Ex.mut (Ex.refl _) hD, upd_same⟩ (fun i H _ p => hG H p.1) ?_ (fun H p => q D H hD p.1 p.2)
  intro i x H H' hi p y
  obtain ⟨e1, ht⟩ := hs i x H H' hi p.1 y
  refine ⟨hw x, ht _ fun H3 e3 => ?_⟩
  have hD3 : H3 D = some (.lst (given i t f)) := e3 _ _ (e1 _ _ p.2)
  cases c : t i with
  | false =>
    refine ite_f rfl ⟨(p.1.trans e1).trans e3, ?_⟩
    rw [given_succ, c]
    exact hD3
  | true =>
    refine ite_t rfl (he i x H3 hi c ((p.1.trans e1).trans e3) ⟨H, H', y, p.1, e1, e3⟩ _ fun H4 e4 => ?_)
    refine ⟨_, e4 _ _ hD3, sz_lt (by have := given_len i t f; omega), Ex.mut (((p.1.trans e1).trans e3).trans e4) hD, ?_⟩
    rw [given_succ, c]
    exact upd_same
/-- without a test -/
theorem r_lcM {J : It} {n : Nat} {G : Hp → Prop} {Y : Nat → Hp → V → Hp → Prop} {k : Nat} {te : TE} {σ : L2.St} {H1 : Hp} {Q : VK} (w : Walk J n G Y) (f : Nat → V) (hn : n ≤ 50000) (hG : ∀ H' : Hp, Ex H1 H' → G H')
    (hw : ∀ x, wipe ((wipe σ [k]).set k (some x)) [k] = wipe σ [k])
    (he : ∀ i x H H', i < n → Ex H1 H → Y i H x H' → Ex H H' ∧ ∀ H3, Ex H' H3 → ∀ R : VK, (∀ H4, Ex H3 H4 → R (f i) H4) → te ((wipe σ [k]).set k (some x)) H3 R)
    (q : ∀ p H', H1 p = none → Ex H1 H' → H' p = some (.lst ((List.range n).map f)) → Q (.ref p) H') : lcB J (gName k) tYes te [k] σ Q H1 := by
  refine r_lcF w (fun _ => true) f hn hG hw (fun i x H H' hi e y => ⟨(he i x H H' hi e y).1, fun R r => r H' (Ex.refl _)⟩) ?_ (fun p H' h1 h2 h3 => q p H' h1 h2 (by rw [given_all] at h3; exact h3))
  rintro i x H hi - e ⟨H0, H2, y, e0, e1, e2⟩ R r
  exact (he i x H0 H2 hi e0 y).2 H e2 R r
/-! ### integers as texts -/
def nS (i : Int) : Str := Str.ofString (toString i)
def dg (i : Int) : List Nat := numL i.natAbs
theorem tl_nS_nn {i : Int} (h : 0 ≤ i) : tl (nS i) = dg i := by
  obtain ⟨n, rfl⟩ := Int.eq_ofNat_of_zero_le h
  exact tl_num n
theorem tl_nS_neg {i : Int} (h : i < 0) : tl (nS i) = 45 :: dg i := by
  unfold nS dg
  have e : (0 - i) = ((i.natAbs : Nat) : Int) := by omega
  have f := tl_num i.natAbs
  rw [tl_ofString] at f
  rw [toString_neg h, tl_ofString, String.toList_append, List.map_append, e, f]
  rfl
theorem dg_digits (i : Int) : NumText.AllDigits (dg i) := numL_digits _
theorem dg_ne (i : Int) : dg i ≠ [] := numL_ne _
theorem dg_len {i : Int} {k : Nat} (hk : 0 < k) (h : i.natAbs < 10 ^ k) : (dg i).length ≤ k := numL_len hk h
theorem str_ext {a b : Str} (h : tl a = tl b) : a = b := ext_toList h
theorem nS_len {i : Int} {k : Nat} (hk : 0 < k) (h : i.natAbs < 10 ^ k) : (nS i).length ≤ k + 1 := by
  rw [len_tl]
  by_cases c : 0 ≤ i
  · rw [tl_nS_nn c]
    exact Nat.le_trans (dg_len hk h) (Nat.le_succ _)
  · rw [tl_nS_neg (by omega), List.length_cons]
    exact Nat.succ_le_succ (dg_len hk h)
/-- the sign and the digits apart -/
theorem nS_abs (i : Int) : nS i = (if i < 0 then Str.ofString "-" else Str.ofString "") ++ nS i.natAbs := by
  refine str_ext ?_
  have e : tl (nS (i.natAbs : Int)) = dg i := tl_nS_nn (i := (i.natAbs : Int)) (by omega)
  rw [tl_append, e]
  by_cases c : i < 0
  · rw [if_pos c, tl_nS_neg c]
    rfl
  · rw [if_neg c, tl_nS_nn (by omega)]
    rfl
theorem nS_free {i : Int} {s : Nat} (h : s ≠ 45) (h2 : s < 48 ∨ 57 < s) : s ∉ tl (nS i) := by
  by_cases c : 0 ≤ i
  · rw [tl_nS_nn c]
    exact numL_free h2
  · rw [tl_nS_neg (by omega)]
    intro hm
    rcases List.mem_cons.mp hm with e | e
    · exact h e
    · exact numL_free h2 e
theorem nS_int {i : Int} (h : i.natAbs < 10 ^ 600) : intText? (nS i) = some i := by
  have l := nS_len (k := 600) (by decide) h
  have v : ((NumText.digitsVal (dg i) : Nat) : Int) = i.natAbs := by unfold dg; rw [numL_val]
  by_cases c : 0 ≤ i
  · have e : (nS i).cps.toList = dg i := tl_nS_nn c
    rw [intText_digits (by rw [e]; exact dg_digits i) (by rw [e]; exact dg_ne i) (by omega), e, v]
    congr 1
    omega
  · have e : (nS i).cps.toList = 45 :: dg i := tl_nS_neg (by omega)
    rw [intText_neg e (dg_digits i) (dg_ne i) (by omega), v]
    congr 1
    omega
end GS
/-! A law's bag of drawn numbers; more stepping lemmas. -/
namespace GS
open PySem PySem.Spec PyProof.Rows L2 TL
/-! ### * of very great integers -/
def CMulB (i j : Int) : Prop := i.natAbs.log2 + j.natAbs.log2 < 100000000
theorem CMulB.ok {i j : Int} (h : CMulB i j) : IntMulOk i j := by
  have b : ∀ x : Int, Builtin.Int.intBits x ≤ x.natAbs.log2 + 1 := fun x => by
    unfold Builtin.Int.intBits
    split <;> omega
  have h1 := b i
  have h2 := b j
  unfold CMulB at h
  have e : bitsLine = 134217728 := by decide
  unfold IntMulOk
  intro z
  have z2 := (Bool.and_eq_true_iff.mp z).2
  unfold Builtin.Int.intTooBig at z2
  have z3 := of_decide_eq_true z2
  omega
theorem op_mulB {X : Cx} : OpR X (binaryOp .Mult) (rI CMulB fun i j => .int (i * j)) := opI fun _ _ _ _ _ _ _ hc q => mul_int q hc.ok
theorem lg_lt {i : Int} {n : Nat} (h : i.natAbs < 2 ^ n) (hn : 0 < n) : i.natAbs.log2 < n := PySem.Flt.log2_lt_of hn h
theorem mulB_of {i j : Int} {a b : Nat} (ha : i.natAbs < 2 ^ a) (hb : j.natAbs < 2 ^ b) (h0 : 0 < a) (h1 : 0 < b) (h : a + b ≤ 100000000) : CMulB i j := by
  have x := lg_lt ha h0
  have y := lg_lt hb h1
  unfold CMulB
  omega
/-! ### steps -/
section
variable {K : PySem.W.Frag} {σ : L2.St} {H : Hp} {Q : VK} {i j : Int} {b : Bool} {p : Addr} {xs : List V} {v : V}
theorem r_ixL (h : H p = some (.lst xs)) (e : atI xs i = some v) (q : Q v H) : rIxL K (.ref p) (.int i) H Q := ⟨_, _, _, _, rfl, rfl, SqL.of h, e, q⟩
theorem r_ixT (h : H p = some (.tup xs)) (e : atI xs i = some v) (q : Q v H) : rIxT K (.ref p) (.int i) H Q := ⟨_, _, _, _, rfl, rfl, SqT.of h, e, q⟩
theorem r_gSub {to ti : TE} {t : TSet} {N : L2.St → Hp → Prop} (q : to σ H fun o H1 => ti σ H1 fun i H2 => t o i v H2 fun H3 => N σ H3) : gSub to ti t v σ H N := q
theorem r_setL {k : Int} {n : Nat} {N : Hp → Prop} (h : H p = some (.lst xs)) (e : ixN xs.length k = some n) (q : N (upd H p (.lst (xs.set n v)))) : rSetL (.ref p) (.int k) v H N := ⟨p, xs, k, n, rfl, rfl, h, e, q⟩
theorem r_pow {v k : Int} (c : CPowW i k) (e : i ^ k.toNat = v) (q : Q (.int v) H) : rI CPowW (fun i j => .int (i ^ j.toNat)) (.int i) (.int k) H Q := r_I c (by rw [e]; exact q)
/-- what is wished behind int(..), abs(..), len(..) -/
def intK (Q : VK) : List V → Hp → Prop := fun xs H => (∃ i, xs = [V.int i] ∧ Q (.int i) H) ∨ ∃ k, xs = [V.bl k] ∧ Q (.int (if k = true then 1 else 0)) H
def absK (Q : VK) : List V → Hp → Prop := fun xs H => ∃ i, xs = [V.int i] ∧ Q (.int (if i < 0 then -i else i)) H
def lenK (K : PySem.W.Frag) (Q : VK) : List V → Hp → Prop := fun xs H => ∃ p ys, xs = [V.ref p] ∧ (SqL K H p ys ∨ SqT K H p ys) ∧ Q (.int ys.length) H
theorem r_cbInt {tr : TA} (q : tr σ H (intK Q)) : tCB (fun xs H Q => (∃ i, xs = [V.int i] ∧ Q (V.int i) H) ∨ ∃ k, xs = [V.bl k] ∧ Q (V.int (if k = true then 1 else 0)) H) tr σ H Q := q
theorem r_cbAbs {tr : TA} (q : tr σ H (absK Q)) : tCB (fun xs H Q => ∃ i, xs = [V.int i] ∧ Q (V.int (if i < 0 then -i else i)) H) tr σ H Q := q
theorem r_cbLen {tr : TA} (q : tr σ H (lenK K Q)) : tCB (fun xs H Q => ∃ p ys, xs = [V.ref p] ∧ (SqL K H p ys ∨ SqT K H p ys) ∧ Q (V.int ys.length) H) tr σ H Q := q
theorem r_intI (q : Q (.int j) H) : intK Q [.int j] H := .inl ⟨_, rfl, q⟩
theorem r_intB (q : Q (.int (if b = true then 1 else 0)) H) : intK Q [.bl b] H := .inr ⟨_, rfl, q⟩
theorem r_absI (q : Q (.int (if j < 0 then -j else j)) H) : absK Q [.int j] H := ⟨_, rfl, q⟩
theorem r_lenL (h : H p = some (.lst xs)) (q : Q (.int xs.length) H) : lenK K Q [.ref p] H := ⟨_, _, rfl, .inl (SqL.of h), q⟩
end
/-- a place where ways join -/
theorem r_seqJ {D : Ends} {ts tu : TS} {σ : L2.St} {H : Hp} (P : L2.St → Hp → Prop) (h : ∀ N : L2.St → Hp → Prop, (∀ σ' H', P σ' H' → N σ' H') → ts { D with nx := N } σ H) (h2 : ∀ σ' H', P σ' H' → tu D σ' H') : tSeq ts tu D σ H := h (tu D) h2
/-! ### lists of integers against one another -/
theorem dp_ints {K : PySem.W.Frag} {H : Hp} : ∀ xs : List Int, DpAll K H (xs.map V.int) (xs.map PyData.int)
  | [] => .nil
  | x :: xs => .cons (.int x) (dp_ints xs)
theorem can_ints : ∀ xs : List Int, PyData.canLayAll0 (xs.map PyData.int) = true
  | [] => rfl
  | x :: xs => by
    rw [List.map_cons]
    show (PyData.canLay0 (.int x) && PyData.canLayAll0 (xs.map PyData.int)) = true
    rw [can_ints xs]
    rfl
theorem depth_ints : ∀ xs : List Int, PyData.depthAll (xs.map PyData.int) = 0
  | [] => rfl
  | x :: xs => by
    rw [List.map_cons]
    show max (PyData.depth (.int x)) (PyData.depthAll (xs.map PyData.int)) = 0
    rw [depth_ints xs]
    rfl
theorem shaped_ints (xs : List Int) : SeqAt.shaped (.list (xs.map PyData.int)) = true ∧ SeqAt.shaped (.tuple (xs.map PyData.int)) = true := by
  have h1 := can_ints xs
  have h2 := depth_ints xs
  constructor
  · show (PyData.canLayAll0 (xs.map PyData.int) && decide (PyData.depthAll (xs.map PyData.int) + 1 ≤ 64)) = true
    rw [h1, h2]
    rfl
  · show (PyData.canLayAll0 (xs.map PyData.int) && decide (PyData.depthAll (xs.map PyData.int) + 1 ≤ 64)) = true
    rw [h1, h2]
    rfl
theorem eqv_ints : ∀ xs ys : List Int, PyData.eqvAll (xs.map PyData.int) (ys.map PyData.int) = decide (xs = ys)
  | [], [] => rfl
  | [], y :: ys => rfl
  | x :: xs, [] => rfl
  | x :: xs, y :: ys => by
    rw [List.map_cons, List.map_cons]
    show ((x == y) && PyData.eqvAll (xs.map PyData.int) (ys.map PyData.int)) = _
    rw [eqv_ints xs ys]
    by_cases c : x = y <;> simp [c]
/-- xs != ys, lists of integers -/
theorem r_neInts {K : PySem.W.Frag} {H : Hp} {Q : VK} {p q : Addr} {xs ys : List Int} (h1 : H p = some (.lst (xs.map V.int))) (h2 : H q = some (.lst (ys.map V.int))) (k : Q (.bl (!decide (xs = ys))) H) : rNeD K (.ref p) (.ref q) H Q := by
  refine ⟨_, _, .lst (SqL.of h1) (dp_ints xs), .lst (SqL.of h2) (dp_ints ys), (shaped_ints xs).1, (shaped_ints ys).1, ?_⟩
  show Q (.bl (!PyData.eqvAll (xs.map PyData.int) (ys.map PyData.int))) H
  rw [eqv_ints]
  exact k
theorem r_eqInts {K : PySem.W.Frag} {H : Hp} {Q : VK} {p q : Addr} {xs ys : List Int} (h1 : H p = some (.tup (xs.map V.int))) (h2 : H q = some (.tup (ys.map V.int))) (k : Q (.bl (decide (xs = ys))) H) : rEqD K (.ref p) (.ref q) H Q := by
  refine ⟨_, _, .tup (SqT.of h1) (dp_ints xs), .tup (SqT.of h2) (dp_ints ys), (shaped_ints xs).2, (shaped_ints ys).2, ?_⟩
  show Q (.bl (PyData.eqvAll (xs.map PyData.int) (ys.map PyData.int))) H
  rw [eqv_ints]
  exact k
/-! ### all but p is kept -/
def Bu (p : Addr) (H H' : Hp) : Prop := ∀ b o, b ≠ p → H b = some o → H' b = some o
theorem Bu.refl (p : Addr) (H : Hp) : Bu p H H := fun _ _ _ h => h
theorem Bu.trans {p : Addr} {H H1 H2 : Hp} (a : Bu p H H1) (b : Bu p H1 H2) : Bu p H H2 := fun c o n h => b c o n (a c o n h)
theorem Bu.upd {p : Addr} {H : Hp} {o : HO} : Bu p H (upd H p o) := fun b u n h => by rw [upd_ne n]; exact h
theorem Bu.of {p : Addr} {H H' : Hp} (e : Ex H H') : Bu p H H' := fun b o _ h => e b o h
/-- sizes -/
def Z (n : Nat) (i : Int) : Prop := i.natAbs < 2 ^ n
theorem Z.mono {n m : Nat} {i : Int} (h : Z n i) (l : n ≤ m) : Z m i := Nat.lt_of_lt_of_le h (Nat.pow_le_pow_right (by omega) l)
theorem Z.mul {n m : Nat} {i j : Int} (a : Z n i) (b : Z m j) : Z (n + m) (i * j) := wide_lt a b
theorem Z.add {n : Nat} {i j : Int} (a : Z n i) (b : Z n j) : Z (n + 1) (i + j) := by
  unfold Z at *
  have : (2 : Nat) ^ (n + 1) = 2 ^ n + 2 ^ n := by rw [Nat.pow_succ]; omega
  omega
theorem Z.sub {n : Nat} {i j : Int} (a : Z n i) (b : Z n j) : Z (n + 1) (i - j) := by
  unfold Z at *
  have : (2 : Nat) ^ (n + 1) = 2 ^ n + 2 ^ n := by rw [Nat.pow_succ]; omega
  omega
theorem Z.sq {n : Nat} {i : Int} (a : Z n i) : Z (n + n) (i ^ 2) := by rw [int_pow_two]; exact a.mul a
theorem mulOk {n m : Nat} {i j : Int} (a : Z n i) (b : Z m j) (hn : 0 < n) (hm : 0 < m) (h : n + m ≤ 1000000) : CMulW i j := wide_mul a b hn hm h
/-! ### the bag -/
structure Bag (H : Hp) (b : Addr) (n : Int) : Prop where
  is : ∃ (L : Addr) (xs : List Int) (at_ left : Int), H b = some (.lst [.ref L, .int at_, .int left]) ∧ H L = some (.lst (xs.map V.int)) ∧ L ≠ b ∧ 0 ≤ at_ ∧ at_ ≤ n ∧ 0 ≤ left ∧ xs.length ≤ 64 ∧ ∀ x ∈ xs, Z 2000000 x
theorem Bag.ex {H H' : Hp} {b : Addr} {n : Int} (h : Bag H b n) (e : Ex H H') : Bag H' b n := by
  obtain ⟨L, xs, a, l, h1, h2, h3⟩ := h.is
  exact ⟨L, xs, a, l, e _ _ h1, e _ _ h2, h3⟩
theorem Bag.le {H : Hp} {b : Addr} {n m : Int} (h : Bag H b n) (e : n ≤ m) : Bag H b m := by
  obtain ⟨L, xs, a, l, h1, h2, h3, h4, h5, h6⟩ := h.is
  exact ⟨L, xs, a, l, h1, h2, h3, h4, Int.le_trans h5 e, h6⟩
theorem Bag.ne {H : Hp} {b a : Addr} {n : Int} {o : HO} (h : Bag H b n) (ha : H a = some o) (ho : ∀ L x y, o ≠ .lst [.ref L, .int x, .int y]) : a ≠ b := by
  obtain ⟨L, xs, x, y, h1, _⟩ := h.is
  rintro rfl
  rw [ha] at h1
  exact ho _ _ _ (Option.some.inj h1)
/-- what a draw promises -/
def spDraw : Sp := sp2 fun b m H Q _ => ∃ p m' n, b = .ref p ∧ m = .int m' ∧ 0 < m' ∧ Z 1000 m' ∧ n ≤ 100000 ∧ Bag H p n ∧ ∀ r H', 0 ≤ r → r < m' → Bu p H H' → Bag H' p (n + 1) → Q (.int r) H'
theorem r_Draw {H : Hp} {Q : VK} {E : XK} {p : Addr} {m n : Int} (hb : Bag H p n) (hn : n ≤ 100000) (h0 : 0 < m) (hm : Z 1000 m) (k : ∀ r H', 0 ≤ r → r < m → Bu p H H' → Bag H' p (n + 1) → Q (.int r) H') : spDraw ([.ref p, .int m] ++ []) H Q E :=
  ⟨p, m, n, rfl, rfl, h0, hm, hn, hb, k⟩
end GS
/-! Calls by keywords alone; making an instance inside try. -/
namespace GS
open PySem PySem.Spec PyProof.Rows L2 TL
/-- the arguments in the parameters' order -/
def pm (ix : List Nat) {α : Type} (us ws : List α) : List α := ix.filterMap fun i => (us ++ ws)[i]?
theorem pm_vals (ix : List Nat) {vs zs : List V} {us ws : List Value} (a : Vals vs us) (b : Vals zs ws) : Vals (pm ix vs zs) (pm ix us ws) := by
  have c := a.append b
  unfold pm
  generalize vs ++ zs = l at c
  generalize us ++ ws = m at c
  induction ix with
  | nil => exact .nil
  | cons i ix ih =>
    cases h : l[i]? with
    | none =>
      rw [List.filterMap_cons_none h, List.filterMap_cons_none (c.none_of h)]
      exact ih
    | some x =>
      obtain ⟨u, hu, r⟩ := c.get h
      rw [List.filterMap_cons_some h, List.filterMap_cons_some hu]
      exact .cons r ih
theorem kb_of {K : PySem.W.Frag} {x qual : Str} {params : Arguments} {body : List Stmt} {scope : Scope} {kws : List (Str × V)} {f : Addr} {fd : FuncData} {ps : List Str} (F : FunD K x qual params body scope [] kws f fd) (n : Nat) (ks : List Str) (ix : List Nat)
    (h : ∀ (kV doc pmv : Value) (an : Option Addr) (cdv ct : Value) (us ws : List Value), us.length = n → ws.length = ks.length → bindArgs (PySem.W.fnOf x qual params body scope .none kV doc pmv an cdv ct) ⟨us, ks.zip ws⟩ = pure (ps.zip (pm ix us ws))) : KBn K fd ps n ks (pm ix) (pm ix) := by
  obtain ⟨oc, od, dV, kV, doc, pmv, an, cdv, ct, osl, rfl, lk, hcd, hD, hK⟩ := F.ex
  rcases hD with ⟨-, rfl⟩ | ⟨no, -⟩
  · exact ⟨fun s us ws _ l1 l2 => .of_eq (h kV doc pmv an cdv ct us ws l1 l2), pm_vals ix⟩
  · exact absurd rfl no
section
variable {X : Cx} {CX : CXT} {k : Nat} {f C : Addr} {fd : FuncData} {ps ks : List Str} {sp : Sp} {x : Str} {p pos : Pos} {g : List Value → List Value → List Value} {gV : List V → List V → List V}
/-- f(k = v, ..) -/
theorem pe_callK0 {E : XK} {kws : List Keyword} {tk : TA} (F : FnOk X.prog X.w X.K X.mg X.base CX k f fd ps sp) (hr : Room k X.A) (hg : Gl X x) (hm : X.mg x = some (.ref f)) (keep : PySem.W.keepIn X.K (.ref f) = true) (kb : KBn X.K fd ps 0 ks g gV) (hx : Passes CX X E) (hw : PK X kws tk)
    (named : (backToKw pos (keywordEach kws X.env)).all (·.1.isSome) = true := by rfl) (names : (backToKw pos (keywordEach kws X.env)).filterMap (·.1) = ks := by rfl) (nodb : (x == ("__debug__" : Str)) = false := by decide)
    (plain : ((backTo pos (starEach [] X.env)).any (·.1) || (backToKw pos (keywordEach kws X.env)).any (·.1.isNone)) = false := by rfl) : PE X (.Call (.Name x p) [] kws pos) (tCallN 0 ks.length sp gV E tNil tk) := by
  refine ⟨fun pins s σ H Q I h => wpAny_Call_Name_kw (ld_glob I hg hm ?_ nodb)⟩
  refine PySem.W.callWith_KW0 (h₀ := X.base) I.ok.mod.kin keep named (thn (hw.run pos pins s σ H _ I h) fun ws s2 ⟨zs, H2, I2, rz, m1, m2, q⟩ => ⟨I2.kIn, ?_⟩) plain
  rw [names]
  exact run_fnN F hr kb hx I2 .nil rz m1 m2 q
/-- C(e, ..) inside try: what passes may lean on the slots -/
def tMakeS (C : Addr) (sp : Sp) (E : L2.St → XK) (t : TA) : TE := fun σ H Q => t σ H (mkK C sp (E σ) Q)
theorem pe_makeS {E : L2.St → XK} {e : Expr} {es : List Expr} {t : TA} (M : Mk X.K C f) (F : FnOk X.prog X.w X.K X.mg X.base CX k f fd ps sp) (hr : Room (k + 1) X.A) (hg : Gl X x) (hm : X.mg x = some (.ref C)) (hb : Binds X.K fd ps []) (hx : ∀ σ, PassesAt CX X σ (E σ)) (ha : PA X (e :: es) t)
    (nodb : (x == ("__debug__" : Str)) = false := by decide) (st : starEach (e :: es) X.env = (false, eval e X.env) :: starEach es X.env := by rfl) (plain : (backTo pos (starEach es X.env)).any (·.1) = false := by rfl) :
    PE X (.Call (.Name x p) (e :: es) [] pos) (tMakeS C sp E t) := by
  refine ⟨fun pins s σ H Q I h => wpAny_Call_Name_kw (ld_glob I hg hm ?_ nodb)⟩
  refine PySem.W.callWith_K (h₀ := X.base) I.ok.mod.kin M.kp (thn (ha.run pos pins s σ H _ I h) fun us s1 ⟨vs, H1, I1, r, q⟩ => ⟨I1.kIn, ?_⟩) st plain
  have n0 := I1.hok.fresh (Nat.le_refl s1.heap.objs.size)
  have n1 := I1.hok.fresh (Nat.le_succ s1.heap.objs.size)
  have w1 := q _ _ n1 n0 (Nat.ne_of_lt (Nat.lt_succ_self _))
  have J := Inv.made (C := C) I1
  have rs : Vals (V.ref (s1.heap.objs.size + 1) :: (vs ++ [])) (Value.ref (s1.heap.objs.size + 1) :: us) := by
    rw [List.append_nil]
    exact .cons rfl r
  have many : (Value.ref (s1.heap.objs.size + 1) :: us).length = ps.length := rs.length.symm.trans (F.len _ _ _ _ w1)
  have bound := hb _ (Value.ref (s1.heap.objs.size + 1) :: us) J.kIn (by rw [List.append_nil]; exact many)
  rw [List.append_nil] at bound
  refine wpAny_call (make_map (f := f) I1.kIn M.makes M.init (beq_iff_eq.mp M.fn) (codeAny_mono (F.run _ X.stack _ _ ⟨_ :: us, []⟩ _ _ _ (E σ) (hr.make C us []) (J.env0.make C us []) bound rs w1) fun out s' got => ?_))
  match out, got with
  | .error y, got => exact hx σ pins _ _ y s' J got
  | .ok (.ret u), got =>
    obtain ⟨v, H3, J3, rv, ⟨nv, fine⟩⟩ := J.after got
    rw [nv] at rv
    exact ⟨rv, V.ref (s1.heap.objs.size + 1), H3, J3, rfl, fine⟩
/-! steps -/
variable {σ : L2.St} {H : Hp} {Q : VK} {E : XK} {m : Nat} {t tk : TA}
def clKN (m : Nat) (sp : Sp) (gV : List V → List V → List V) (E : XK) (Q : VK) : List V → Hp → Prop := fun zs H2 => ([] : List V).length = 0 ∧ zs.length = m ∧ sp (gV [] zs) H2 Q E
theorem r_callN0 (q : tk σ H (clKN m sp gV E Q)) : tCallN 0 m sp gV E tNil tk σ H Q := q
theorem r_clKN {zs vs : List V} (l : zs.length = m) (e : gV [] zs = vs) (q : sp (vs ++ []) H Q E) : clKN m sp gV E Q zs H := ⟨rfl, l, by rw [e]; rwa [List.append_nil] at q⟩
def mkKN (m : Nat) (C : Addr) (sp : Sp) (gV : List V → List V → List V) (E : XK) (Q : VK) : List V → Hp → Prop := fun zs H2 => ([] : List V).length = 0 ∧ zs.length = m ∧ ∀ x dx, H2 x = none → H2 dx = none → dx ≠ x → sp (gV [.ref x] zs) (upd (upd H2 dx (.own x)) x (.ins C dx [])) (fun v H3 => v = .non ∧ Q (.ref x) H3) E
theorem r_makeK0 (q : tk σ H (mkKN m C sp gV E Q)) : tMakeK C 0 m sp gV E tNil tk σ H Q := q
theorem r_mkKN {zs vs : List V} (l : zs.length = m) (e : ∀ x, gV [.ref x] zs = .ref x :: (vs ++ [])) (q : mkK C sp E Q vs H) : mkKN m C sp gV E Q zs H := ⟨rfl, l, fun x dx h1 h2 h3 => by rw [e]; exact q x dx h1 h2 h3⟩
theorem r_makeS {E : L2.St → XK} (q : t σ H (mkK C sp (E σ) Q)) : tMakeS C sp E t σ H Q := q
theorem r_callS {E : L2.St → XK} (q : t σ H fun vs H1 => sp vs H1 Q (E σ)) : tCallS sp E t σ H Q := q
end
theorem r_gCons {g : TG} {gs : TGs} {x : V} {xs : List V} {σ : L2.St} {H : Hp} {N : L2.St → Hp → Prop} (q : g x σ H fun σ' H' => gs xs σ' H' N) : gCons g gs (x :: xs) σ H N := ⟨x, xs, rfl, q⟩
theorem r_gNil {σ : L2.St} {H : Hp} {N : L2.St → Hp → Prop} (q : N σ H) : gNil [] σ H N := ⟨rfl, q⟩
theorem r_gName {n : Nat} {x : V} {σ : L2.St} {H : Hp} {N : L2.St → Hp → Prop} (q : N (σ.set n (some x)) H) : gName n x σ H N := q
theorem r_gTup {K : PySem.W.Frag} {n : Nat} {gs : TGs} {p : Addr} {xs : List V} {σ : L2.St} {H : Hp} {N : L2.St → Hp → Prop} (h : H p = some (.tup xs)) (l : xs.length = n) (q : gs xs σ H N) : gTup K n gs (.ref p) σ H N := ⟨p, xs, rfl, SqT.of h, l, q⟩
/-- a, b = c, d -/
def parK (i j : Nat) (σ : L2.St) (N : L2.St → Hp → Prop) : List V → Hp → Prop := fun vs H1 => ∃ v w, vs = [v, w] ∧ N ((σ.set i (some v)).set j (some w)) H1
theorem r_par {i j : Nat} {ta : TA} {D : Ends} {σ : L2.St} {H : Hp} (q : ta σ H (parK i j σ D.nx)) : tPar i j ta D σ H := q
theorem r_parK {i j : Nat} {N : L2.St → Hp → Prop} {σ : L2.St} {H : Hp} {v w : V} (q : N ((σ.set i (some v)).set j (some w)) H) : parK i j σ N [v, w] H := ⟨v, w, rfl, q⟩
/-! clauses -/
theorem r_wAs {D : Ends} {c : Value} {i : Nat} {ts : Addr → Value → Option Addr → TS} {a : Addr} {cls : Value} {d : Option Addr} {σ : L2.St} {H : Hp} (q : ts a cls d (asEnds i D) (σ.set i (some (.ref a))) H) : wCl D (c, some i, ts) a cls d σ H := q
theorem r_cl1 {K : PySem.W.Frag} {Wout : WX} {D : Ends} {c : Value} {o : Option Nat} {ts : Addr → Value → Option Addr → TS} {r : List Cl} {cls : Value} {d : Option Addr} {σ : L2.St} {H : Hp} (y : PySem.W.exmOne K cls c = some true) (q : ∀ a, H a = none → wCl D (c, o, ts) a cls d σ H) : wCls K Wout D ((c, o, ts) :: r) cls d σ H := ⟨true, y, fun _ => q, fun z => by cases z⟩
theorem r_cl0 {K : PySem.W.Frag} {Wout : WX} {D : Ends} {c : Value} {o : Option Nat} {ts : Addr → Value → Option Addr → TS} {r : List Cl} {cls : Value} {d : Option Addr} {σ : L2.St} {H : Hp} (n : PySem.W.exmOne K cls c = some false) (q : wCls K Wout D r cls d σ H) : wCls K Wout D ((c, o, ts) :: r) cls d σ H := ⟨false, n, fun z => (by cases z), fun _ => q⟩
theorem r_xf {a C dd : Addr} {f : Str} {te : TE} {σ : L2.St} {H : Hp} {Q : VK} {fs : List (Str × V)} {v : V} (h : H dd = some (.xd fs)) (l : fs.lookup f = some v) (s : te σ H (fun x H1 => x = .ref a ∧ H1 = H)) (m : ∀ {P P' : VK}, te σ H P → (∀ x H1, P x H1 → P' x H1) → te σ H P') (q : Q v H) : tXf a (.ref C) (some dd) C f te σ H Q :=
  m s fun x H1 e => ⟨e.1, rfl, dd, fs, v, rfl, by rw [e.2]; exact h, l, by rw [e.2]; exact q⟩
theorem r_smeth {C : Addr} {sp : Sp} {E : XK} {t : TA} {σ : L2.St} {H : Hp} {Q : VK} (q : t σ H fun vs H2 => sp vs H2 Q E) : tSMeth C sp E (tC (.ref C)) t σ H Q := ⟨rfl, q⟩
theorem r_yes {σ : L2.St} {H : Hp} {R : Bool → Hp → Prop} (q : R true H) : tYes σ H R := q
/-- each turn gives a new tuple of the same items -/
theorem r_lcT {J : It} {n : Nat} {G : Hp → Prop} {Y : Nat → Hp → V → Hp → Prop} {k : Nat} {te : TE} {σ : L2.St} {H1 : Hp} {Q : VK} (w : Walk J n G Y) (o : List V) (hn : n ≤ 50000) (hG : ∀ H' : Hp, Ex H1 H' → G H')
    (hw : ∀ x, wipe ((wipe σ [k]).set k (some x)) [k] = wipe σ [k])
    (he : ∀ i x H H', i < n → Ex H1 H → Y i H x H' → Ex H H' ∧ ∀ R : VK, (∀ t H4, Ex H' H4 → H4 t = some (.tup o) → R (.ref t) H4) → te ((wipe σ [k]).set k (some x)) H' R)
    (q : ∀ p ys H', H1 p = none → Ex H1 H' → H' p = some (.lst ys) → ys.length = n → (∀ y ∈ ys, ∃ t, y = .ref t ∧ H' t = some (.tup o)) → Q (.ref p) H') : lcB J (gName k) tYes te [k] σ Q H1 := by
  intro D hD
  refine lc_it w (fun i H => Ex H1 H ∧ ∃ ys, H D = some (.lst ys) ∧ ys.length = i ∧ ∀ y ∈ ys, ∃ t, y = .ref t ∧ H t = some (.tup o)) ⟨Ex.mut (Ex.refl _) hD, [], upd_same, rfl, fun _ z => by cases z⟩ (fun i H _ p => hG H p.1) ?_ (fun H p => let ⟨ys, h1, h2, h3⟩ := p.2; q D ys H hD p.1 h1 h2 h3)
  intro i x H H' hi p y
  obtain ⟨p1, ys, p2, p3, p4⟩ := p
  obtain ⟨e1, hte⟩ := he i x H H' hi p1 y
  refine ⟨hw x, ?_⟩
  refine r_yes ?_
  rw [if_pos rfl]
  refine hte _ fun t H4 e4 h4 => ⟨ys, e4 _ _ (e1 _ _ p2), sz_lt (by omega), Ex.mut ((p1.trans e1).trans e4) hD, ys ++ [.ref t], upd_same, (by rw [List.length_append, p3]; rfl), fun z hz => ?_⟩
  have keep' : ∀ {t : Addr} (l : List V), H4 t = some (.tup o) → upd H4 D (.lst l) t = some (.tup o) := fun {t} l ht => by
    rw [upd_ne (fun e => ?_)]
    · exact ht
    · rw [e, e4 _ _ (e1 _ _ p2)] at ht
      cases ht
  rcases List.mem_append.mp hz with hz | hz
  · obtain ⟨t', rfl, ht'⟩ := p4 z hz
    exact ⟨t', rfl, keep' _ (e4 _ _ (e1 _ _ ht'))⟩
  · obtain rfl := List.mem_singleton.mp hz
    exact ⟨t, rfl, keep' _ h4⟩
/-- the same, the items told by the turn -/
theorem r_lcI {J : It} {n : Nat} {G : Hp → Prop} {Y : Nat → Hp → V → Hp → Prop} {k : Nat} {te : TE} {σ : L2.St} {H1 : Hp} {Q : VK} (w : Walk J n G Y) (o : Nat → List V) (hn : n ≤ 50000) (hG : ∀ H' : Hp, Ex H1 H' → G H')
    (hw : ∀ x, wipe ((wipe σ [k]).set k (some x)) [k] = wipe σ [k])
    (he : ∀ i x H H', i < n → Ex H1 H → Y i H x H' → Ex H H' ∧ ∀ R : VK, (∀ t H4, Ex H' H4 → H4 t = some (.tup (o i)) → R (.ref t) H4) → te ((wipe σ [k]).set k (some x)) H' R)
    (q : ∀ p ys H', H1 p = none → Ex H1 H' → H' p = some (.lst ys) → ys.length = n → (∀ i y, ys[i]? = some y → ∃ t, y = .ref t ∧ H' t = some (.tup (o i))) → Q (.ref p) H') : lcB J (gName k) tYes te [k] σ Q H1 := by
  intro D hD
  refine lc_it w (fun i H => Ex H1 H ∧ ∃ ys, H D = some (.lst ys) ∧ ys.length = i ∧ ∀ j y, ys[j]? = some y → ∃ t, y = .ref t ∧ H t = some (.tup (o j))) ⟨Ex.mut (Ex.refl _) hD, [], upd_same, rfl, fun j y z => by simp at z⟩ (fun i H _ p => hG H p.1) ?_ (fun H p => let ⟨ys, h1, h2, h3⟩ := p.2; q D ys H hD p.1 h1 h2 h3)
  intro i x H H' hi p y
  obtain ⟨p1, ys, p2, p3, p4⟩ := p
  obtain ⟨e1, hte⟩ := he i x H H' hi p1 y
  refine ⟨hw x, ?_⟩
  refine r_yes ?_
  rw [if_pos rfl]
  refine hte _ fun t H4 e4 h4 => ⟨ys, e4 _ _ (e1 _ _ p2), sz_lt (by omega), Ex.mut ((p1.trans e1).trans e4) hD, ys ++ [.ref t], upd_same, (by rw [List.length_append, p3]; rfl), fun j z hz => ?_⟩
  have keep' : ∀ {t : Addr} {u : List V} (l : List V), H4 t = some (.tup u) → upd H4 D (.lst l) t = some (.tup u) := fun {t u} l ht => by
    rw [upd_ne (fun e => ?_)]
    · exact ht
    · rw [e, e4 _ _ (e1 _ _ p2)] at ht
      cases ht
  by_cases hj : j < ys.length
  · rw [List.getElem?_append_left hj] at hz
    obtain ⟨t', rfl, ht'⟩ := p4 j z hz
    exact ⟨t', rfl, keep' _ (e4 _ _ (e1 _ _ ht'))⟩
  · rw [List.getElem?_append_right (by omega)] at hz
    have : j - ys.length = 0 := by
      have := (List.getElem?_eq_some_iff.mp hz).1
      simp at this
      omega
    rw [this] at hz
    have hz' : V.ref t = z := Option.some.inj hz
    have : j = i := by omega
    subst this
    exact ⟨t, hz'.symm, keep' _ h4⟩
/-- the body of a for's reading -/
def forB (J : It) (g : TG) (tb : TS) (D : Ends) (σ : L2.St) (H1 : Hp) : Prop := ∃ W : Nat → Nat → L2.St → Hp → Prop, (∃ m, W 0 m σ H1) ∧ ∀ i m σ H, W i m σ H →
  (J.stop i H ∧ D.nx σ H) ∨ (J.go i H ∧ ∃ N : L2.St → Hp → Prop, (∀ σ' H', N σ' H' → ∃ m', m' < m ∧ W (i + 1) m' σ' H') ∧ ∀ x H', J.yld i H x H' → g x σ H' fun σ2 H2 => tb { D with nx := N, ct := N, bk := D.nx } σ2 H2)
theorem r_for {wi : TI} {g : TG} {tb : TS} {D : Ends} {σ : L2.St} {H : Hp} (q : wi σ H fun J H1 => forB J g tb D σ H1) : tFor wi g tb D σ H := q
theorem for_of {J : It} {n : Nat} {G : Hp → Prop} {Y : Nat → Hp → V → Hp → Prop} (w : Walk J n G Y) {g : TG} {tb : TS} {D : Ends} {σ : L2.St} {H : Hp} (Pv : Nat → L2.St → Hp → Prop) (h0 : Pv 0 σ H) (hG : ∀ i σ H, i ≤ n → Pv i σ H → G H)
    (hs : ∀ i x σ H H', i < n → Pv i σ H → Y i H x H' → g x σ H' fun σ2 H2 => tb { D with nx := Pv (i + 1), ct := Pv (i + 1), bk := D.nx } σ2 H2) (hd : ∀ σ H, Pv n σ H → D.nx σ H) : forB J g tb D σ H := for_it w Pv h0 hG hs hd
theorem cr_isi {X : Cx} {K : PySem.W.Frag} (h : X.K = K) : CallR X (.builtin "isinstance") (rIsi K) := by
  subst h
  exact call_isi
end GS
/-! any(..) of integers. -/
namespace GS
open PySem PySem.Spec PyProof.Rows L2 TL
theorem truthOf_ints {prog : Program} {w : World} {A : Around} {ns : List Int} {its : List Value} (r : Vals (ns.map V.int) its) : TruthOf prog w A (fun i v => its.toArray[i]? = some v) (fun i => ns.getD i 0 != 0) := fun i v s Q E hv hq => by
  have there : its[i]? = some v := by simpa using hv
  have hl := r.length
  rw [List.length_map] at hl
  have hi : i < ns.length := by have := (List.getElem?_eq_some_iff.mp there).1; omega
  obtain ⟨u, hu, t, e⟩ := r.get (i := i) (x := V.int ns[i]) (by simp [hi])
  rw [there] at hu
  cases hu
  rw [e]
  have g : ns.getD i 0 = ns[i] := by simp [hi]
  simp only [g] at hq
  exact truthy_int hq
theorem any_getD (ns : List Int) : ((List.range ns.length).any fun i => ns.getD i 0 != 0) = ns.any (· != 0) := by
  induction ns with
  | nil => rfl
  | cons n ns ih =>
    rw [List.length_cons, List.range_succ_eq_map, List.any_cons, List.any_map, List.any_cons, ← ih]
    rfl
def rAnyI (K : PySem.W.Frag) : List V → Hp → VK → Prop := fun vs H Q => ∃ (a : Addr) (ns : List Int), vs = [V.ref a] ∧ (SqL K H a (ns.map V.int) ∨ SqT K H a (ns.map V.int)) ∧ Q (.bl (ns.any (· != 0))) H
theorem cr_anyI {X : Cx} {K : PySem.W.Frag} (hk : X.K = K) (calm : X.calm = true) : CallR X (.builtin "any") (rAnyI K) := by
  subst hk
  intro pins s σ H vs us Q I r got
  obtain ⟨a, ns, rfl, hs, q⟩ := got
  rw [Vals.ref1 r]
  have close : ∀ {its : List Value}, Vals (ns.map V.int) its → ∀ (n : Addr) {ob : Obj} (h' : Heap) (tk : Tok), n = s.heap.objs.size → (∀ b o, b ∉ [n] → (s.heap.push ob).get? b = some o → h'.get? b = some o) →
      EP X pins σ Q (.bool ((List.range its.toArray.size).any fun i => ns.getD i 0 != 0)) { s with heap := h', toks := tk } := by
    intro its rv n ob h' tk en kept
    have sz : its.toArray.size = ns.length := by rw [List.size_toArray, ← rv.length, List.length_map]
    rw [sz, any_getD]
    refine ⟨.bl _, H, I.kept fun b o eo => kept b o (fun hm => ?_) (Heap.get?_push_of_some _ eo), rfl, q⟩
    rw [List.mem_singleton.mp hm, en] at eo
    exact absurd (Heap.lt_size eo) (Nat.lt_irrefl _)
  rcases hs with hs | hs
  · obtain ⟨its, rv, hl, _⟩ := I.list hs
    refine call_any_walk (iter_any hl.isList fun s₂ e2 st ne => ?_)
    rw [e2] at st ⊢
    exact ⟨_, _, _, _, _, _, _, rfl, Walks.list (A := X.A.in1) (I.ok.hd calm) _ a ne its.toArray, st, truthOf_ints rv, fun h' tk hk => close rv _ h' tk rfl hk⟩
  · obtain ⟨its, rv, ht, _⟩ := I.tuple hs
    refine call_any_walk (iter_tuple ht ?_)
    exact ⟨_, _, _, _, _, _, _, rfl, Walks.tuple (A := X.A.in1) (I.ok.hd calm) _ a (Nat.ne_of_lt ht.lt) its.toArray, ⟨⟨_, Heap.get?_push_size _ rfl, rfl, rfl⟩, ht.push _⟩, truthOf_ints rv, fun h' tk hk => close rv _ h' tk rfl hk⟩
end GS
/-! enumerate(tuple). -/
namespace GS
open PySem PySem.Spec PyProof.Rows L2 TL
/-- the tuple at a, each item with its place in a new pair -/
def IteT (K : PySem.W.Frag) (a : Addr) : It where
  go := fun i H => ∃ (xs : List V) (x : V), SqT K H a xs ∧ xs[i]? = some x
  yld := fun i H v H' => ∃ T x, v = .ref T ∧ H T = none ∧ H' = upd H T (.tup [.int (i : Nat), x]) ∧ ∀ xs, SqT K H a xs → xs[i]? = some x
  stop := fun i H => ∃ xs : List V, SqT K H a xs ∧ xs.length ≤ i
/-- a tuple's iterator that is at its end -/
theorem draws_end {prog : Program} {w : World} {A : Around} (hh : A.handled = none) (it t : Addr) (items : Array Value) (n : Nat) (hn : items[n]? = none) (ne : t ≠ it) :
    Draws prog w A it [it, t] n (fun _ _ => False) (fun j h => j = n ∧ h.IsTupleIter it t n ∧ h.IsTuple t items) where
  live := fun _ _ st => let ⟨o, ho, _⟩ := st.2.1; ⟨o, ho⟩
  frame := fun _ _ _ st kept => ⟨st.1, st.2.1.at fun o q => kept it (by simp) o q, st.2.2.at fun o q => kept t (by simp) o q⟩
  item := fun i s Q E hi st _ => absurd st.1 (Nat.ne_of_lt hi)
  done := fun s Q E st out => wpAny_nextOf_tuple_end hh st.2.1 st.2.2 hn out
theorem turn_enumT {P : Program} {w : World} {K : PySem.W.Frag} {elts : List Expr} {kk : Nat} {tpos : Pos} (a e it : Addr) :
    Turn P w K (.Tuple elts kk tpos) (IteT K a) [e, it] e (fun i h => (∃ old, IsEnum h e it ((i : Nat) : Int) old) ∧ h.IsTupleIter it a i ∧ e ≠ it ∧ a ≠ it ∧ a ≠ e) where
  mem := by simp
  obj := by
    intro i h st b hb
    obtain ⟨⟨old, he⟩, ⟨o, ho, hc, hd⟩, -, -, -⟩ := st
    rcases List.mem_cons.mp hb with rfl | hb
    · exact ⟨_, he, fun v q => nomatch q⟩
    · rw [List.mem_singleton.mp hb]
      exact ⟨o, ho, fun v q => by rw [hd] at q; cases q⟩
  keep := by
    intro i h h' st k
    obtain ⟨⟨old, he⟩, hi, ns⟩ := st
    exact ⟨⟨old, k e (by simp) _ he⟩, hi.at fun o q => k it (by simp) o q, ns⟩
  item := by
    intro X hP hw hK hc i pins s σ H E I hf st hg
    subst hP hw hK
    obtain ⟨⟨old, he⟩, hit, hne, ha1, ha2⟩ := st
    obtain ⟨xs, x, hq, hx⟩ := hg
    obtain ⟨its, rv, tp, hz⟩ := I.tuple hq
    obtain ⟨u, hu, ru⟩ := rv.get hx
    have hlt : i < its.toArray.size := by
      have := (List.getElem?_eq_some_iff.mp hu).1
      simpa using this
    have elt := Heap.lt_size he
    have ilt : it < s.heap.objs.size := by
      obtain ⟨_, q, _⟩ := hit
      exact Heap.lt_size q
    refine wpAny_pyNext_enum_itemD (Draws.tuple (A := X.A.in1) (I.ok.hd hc) it a ha1 its.toArray) he ⟨hit, tp⟩ hlt hne (by simp [hne, Ne.symm ha2]) fun x' h' tk hp ho st' hT hsz hk => ?_
    have : x' = u := by
      have hp' : its[i]? = some x' := by simpa using hp
      rw [hu] at hp'
      exact (Option.some.inj hp').symm
    subst this
    refine ⟨_, rfl, wpAny_letOwnedTupleGo_enum (s := { s with heap := h', toks := tk + 1 }) ho fun h2 he2 sb => ?_⟩
    have hT2 : h2.get? s.heap.objs.size = some { cls := .type "tuple", data := .seq #[.int i tk, x'] } := (sb.2 _ (Nat.ne_of_gt elt)).trans hT
    have pair : ObjOk X.prog X.w (upd H s.heap.objs.size (.tup [.int (i : Nat), x])) h2 s.heap.objs.size (.tup [.int (i : Nat), x]) := by
      refine ⟨?_, [.int i tk, x'], .cons ⟨_, rfl⟩ (.cons ru .nil), ⟨_, hT2, rfl, _, rfl⟩⟩
      show 2 ≤ sizeLine
      decide
    have J : Inv X pins σ (upd H s.heap.objs.size (.tup [.int (i : Nat), x])) { s with heap := h2, toks := tk + 1 } := by
      refine I.turnedNew (ch := [e, it]) (fun b ob hb q => ?_) hf (Nat.le_refl _) pair
      have n1 : b ≠ e := fun z => hb (by simp [z])
      have n2 : b ≠ it := fun z => hb (by simp [z])
      exact (sb.2 b n1).trans (hk b ob n1 n2 q)
    refine ⟨.ref s.heap.objs.size, _, J, rfl, ⟨_, x, rfl, I.hok.fresh (Nat.le_refl _), rfl, fun ys hy => by rw [I.tuple_inj hy hq]; exact hx⟩, ⟨⟨x', ?_⟩, st'.1.at fun o q => (sb.2 it (Ne.symm hne)).trans q, hne, ha1, ha2⟩, fun b hb => ?_⟩
    · rw [show ((i + 1 : Nat) : Int) = (i : Int) + 1 by omega]
      exact he2
    · have below : b < s.heap.objs.size := by
        rcases List.mem_cons.mp hb with rfl | hb
        · exact elt
        · rw [List.mem_singleton.mp hb]
          exact ilt
      rw [upd_ne (Nat.ne_of_lt below)]
      exact (hf b hb).1
  done := by
    intro X hP hw hK hc i pins s σ H E I hf st hg
    subst hP hw hK
    obtain ⟨⟨old, he⟩, hit, hne, ha1, ha2⟩ := st
    obtain ⟨xs, hq, hx⟩ := hg
    obtain ⟨its, rv, tp, hz⟩ := I.tuple hq
    obtain ⟨f0, f1, f2, f3, f4, f5⟩ := hf it (by simp)
    have hl := rv.length
    have off : its.toArray[i]? = none := by
      rw [List.getElem?_toArray]
      exact List.getElem?_eq_none (by omega)
    refine wpAny_pyNext_enum_endD (draws_end (A := X.A.in1) (I.ok.hd hc) it a its.toArray i off ha1) he ⟨rfl, hit, tp⟩ fun h' eb => ⟨rfl, ?_⟩
    exact I.turned (t' := s.toks) (fun b o hb q => eb b o hb q) f0 f1 f3 f4 f5
  self := fun A i s Q E st h => let ⟨⟨_, he⟩, _⟩ := st; wpAny_pyIter_enum he h
set_option maxHeartbeats 4000000 in
theorem meets_enum1 {v : Value} {o : Obj} {Hp' : Heap → Prop} (B : Begins v o Hp') :
    Meets (Builtin.«enumerate.__new__» ⟨[.type "enumerate", v], []⟩) (fun _ R s => Hp' s.heap ∧
      R (.ok (.ret (.ref (s.heap.push o).objs.size))) { s with heap := (s.heap.push o).push { cls := .type "enumerate", data := .fields #[.none, .bool false, .ref s.heap.objs.size, rawInt 0, .none, .none] } }) :=
  .of_wp fun prog w A R s both => by
    obtain ⟨hp, g, d, tk, os⟩ := s
    obtain ⟨begun, fin⟩ := both
    have sub := sub_enumerate
    have step : ∀ {A' : Around} {E : Value → Shared → Prop} {Q : Value → Shared → Prop}, Q (.ref hp.objs.size) ⟨hp.push o, g, d, tk, os⟩ → wpAny (model prog w) A' (pyIter v) Q E ⟨hp, g, d, tk, os⟩ := fun q => B.iter prog w _ _ ⟨hp, g, d, tk, os⟩ _ begun q
    wp_walk using step
    refine wpAny_stack_any fun st => wpAny_pure ?_
    split
    · rename_i c _ _ _ _ _
      cases (c == Value.type "enumerate") <;> (wp_walk using step; exact ⟨_, rfl, fin⟩)
    · wp_walk using step
      exact ⟨_, rfl, fin⟩
/-- enumerate(v): its two new cells -/
theorem enum1_begins {prog : Program} {w : World} {A : Around} {E : Value → Shared → Prop} {s : Shared} {v : Value} {o : Obj} {Hp' : Heap → Prop} {Q : Value → Shared → Prop} (B : Begins v o Hp') (begun : Hp' s.heap)
    (q : ∀ h', IsEnum h' (s.heap.objs.size + 1) s.heap.objs.size 0 .none → h'.get? s.heap.objs.size = some o → (∀ b o, s.heap.get? b = some o → h'.get? b = some o) → Q (.ref (s.heap.objs.size + 1)) { s with heap := h' }) :
    wpAny (model prog w) A (call (.type "enumerate") [v]) Q E s := by
  refine callType_new F.called_enumerate (by decide) (F.typeCall_enumerate_1 _) (F.newCall_enumerate_1 _) (fun obj => F.args_object_init_2 obj _) F.entry_enumerate_new (meets_enum1 B) ⟨begun, ?_⟩
  have sz : (s.heap.push o).objs.size = s.heap.objs.size + 1 := Heap.size_push ..
  have new := Heap.get?_push_size (s.heap.push o) (o := { cls := .type "enumerate", data := .fields #[.none, .bool false, .ref s.heap.objs.size, rawInt 0, .none, .none] }) rfl
  show _ ∧ _
  rw [sz] at new ⊢
  refine ⟨⟨_, new, rfl⟩, q _ new ?_ fun b o x => ?_⟩
  · exact Heap.get?_push_of_some _ (Heap.get?_push_size _ B.free)
  · exact Heap.get?_push_of_some _ (Heap.get?_push_of_some _ x)
def iEnumT (K : PySem.W.Frag) (ta : TA) : TI := fun σ H R => ta σ H fun vs H1 => ∃ a xs, vs = [.ref a] ∧ SqT K H1 a xs ∧ R (IteT K a) H1
theorem pi_enumT {X : Cx} {e : Expr} {ta : TA} {p pos tpos : Pos} {elts : List Expr} {kk : Nat} (free : Gl X "enumerate") (none : X.mg "enumerate" = none) (ha : PA X [e] ta) (st : starEach [e] X.env = [(false, eval e X.env)] := by rfl) :
    PI X (.Tuple elts kk tpos) (.Call (.Name "enumerate" p) [e] [] pos) (iEnumT X.K ta) := by
  refine ⟨fun pins s σ H R I h => Call_ (ld_blt I free none boot_enumerate (PyProof.Rows.callWith_type1 (thn (ha.run pos pins s σ H _ I h) fun us s1 ⟨vs, H1, I1, r1, q1⟩ => ?_) st rfl))⟩
  obtain ⟨a, xs, rfl, hq, q⟩ := q1
  rw [Vals.ref1 r1]
  obtain ⟨its, rv, tp, hz⟩ := I1.tuple hq
  refine enum1_begins (begins_tuple a its.toArray) tp fun h' he hit hk => wpAny_pyIter_enum he ?_
  have J : Inv X pins σ H1 { s1 with heap := h' } := I1.kept (t' := s1.toks) hk
  have lt := tp.lt
  refine ⟨s1.heap.objs.size + 1, [s1.heap.objs.size + 1, s1.heap.objs.size], _, _, H1, rfl, J, turn_enumT a (s1.heap.objs.size + 1) s1.heap.objs.size, ⟨⟨.none, he⟩, ⟨_, hit, rfl, rfl⟩, Nat.succ_ne_self _, Nat.ne_of_lt lt, Nat.ne_of_lt (Nat.lt_succ_of_lt lt)⟩, fun b hb => ?_, q⟩
  have above : s1.heap.objs.size ≤ b := by
    rcases List.mem_cons.mp hb with rfl | hb
    · exact Nat.le_succ _
    · rw [List.mem_singleton.mp hb]
      exact Nat.le_refl _
  exact I1.fpOk above (I1.hok.fresh above)
theorem walk_enumT {K : PySem.W.Frag} {a : Addr} {xs : List V} : Walk (IteT K a) xs.length (fun H => SqT K H a xs) (YPair (fun i => some (.int (i : Nat))) (fun i => xs[i]?)) :=
  ⟨fun i _ hi q => ⟨xs, xs[i], q, by simp [hi]⟩, fun _ q => ⟨xs, q, Nat.le_refl _⟩, fun i H v H' hi q y => let ⟨T, x, e1, e2, e3, e4⟩ := y; ⟨T, _, x, e1, e2, e3, rfl, e4 xs q⟩⟩
end GS
/-! Several except clauses, each of one class or of a tuple of classes, with or without «as n». -/
namespace GS
open PySem PySem.Spec PyProof.Rows L2 TL
abbrev MCl := List Value × Option Nat × (Addr → Value → Option Addr → TS)
def wMCl (D : Ends) (q : MCl) (a : Addr) (cls : Value) (d : Option Addr) (σ : L2.St) (H : Hp) : Prop := match q.2.1 with
  | none => q.2.2 a cls d D σ H
  | some i => q.2.2 a cls d (asEnds i D) (σ.set i (some (.ref a))) H
def wMCls (K : PySem.W.Frag) (Wout : WX) (D : Ends) : List MCl → WX
  | [] => Wout
  | q :: r => fun cls d σ H => ∃ b, PySem.W.exmAny K cls q.1 = some b ∧ (b = true → ∀ a, H a = none → wMCl D q a cls d σ H) ∧ (b = false → wMCls K Wout D r cls d σ H)
/-- what stands behind except -/
inductive MTest (X : Cx) : Expr → List Value → Prop
  | name {x : Str} {c : Value} {p : Pos} (h : Names X x c) : MTest X (.Name x p) [c]
  | two {x y : Str} {c d : Value} {p1 p2 p : Pos} {k : Nat} (h1 : Names X x c) (h2 : Names X y d) : MTest X (.Tuple [.Name x p1, .Name y p2] k p) [c, d]
  | three {x y z : Str} {c d e : Value} {p1 p2 p3 p : Pos} {k : Nat} (h1 : Names X x c) (h2 : Names X y d) (h3 : Names X z e) : MTest X (.Tuple [.Name x p1, .Name y p2, .Name z p3] k p) [c, d, e]
  | four {x y z u : Str} {c d e f : Value} {p1 p2 p3 p4 p : Pos} {k : Nat} (h1 : Names X x c) (h2 : Names X y d) (h3 : Names X z e) (h4 : Names X u f) : MTest X (.Tuple [.Name x p1, .Name y p2, .Name z p3, .Name u p4] k p) [c, d, e, f]
inductive MClOk (X : Cx) : ExceptHandler → MCl → Prop
  | bare {t : Expr} {cs : List Value} {ts : Addr → Value → Option Addr → TS} {st : Stmt} {sts : List Stmt} {pos' : Pos} (hc : MTest X t cs)
      (su : ∀ (a : Addr) (oe : Obj) (cls : Value) (d : Option Addr) (pn : List (Addr × Obj)), Zc cls d oe → (∃ vs, oe.data = .fields vs) → PSs (X.suite a ((a, oe) :: pn)) (st :: sts) (ts a cls d)) :
      MClOk X (.ExceptHandler (some t) none (st :: sts) pos') (cs, none, ts)
  | as {t : Expr} {n : Str} {cs : List Value} {ts : Addr → Value → Option Addr → TS} {st : Stmt} {sts : List Stmt} {pos' : Pos} {i : Nat} (hc : MTest X t cs) (hN : X.N.Nodup) (hi : X.N[i]? = some n) (hln : X.env.kindOf n = some .local)
      (su : ∀ (a : Addr) (oe : Obj) (cls : Value) (d : Option Addr) (pn : List (Addr × Obj)), Zc cls d oe → (∃ vs, oe.data = .fields vs) → PSs (X.suite a ((a, oe) :: pn)) (st :: sts) (ts a cls d)) :
      MClOk X (.ExceptHandler (some t) (some n) (st :: sts) pos') (cs, some i, ts)
inductive MClsOk (X : Cx) : List ExceptHandler → List MCl → Prop
  | nil : MClsOk X [] []
  | cons {h : ExceptHandler} {q : MCl} {hs : List ExceptHandler} {qs : List MCl} (o : MClOk X h q) (r : MClsOk X hs qs) : MClsOk X (h :: hs) (q :: qs)
theorem flying_keeps {base h h' : Heap} {l : List Env} {e : Addr} {Z : Obj → Prop} (f : PySem.HandSPX.FlyingZ base l e Z h) (k : ∀ b o, h.get? b = some o → h'.get? b = some o) : PySem.HandSPX.FlyingZ base l e Z h' := by
  obtain ⟨f1, f2, f3, oe, vs, T, oT, ts, t1, t2, t3, t4, t5, t6, t7, t8⟩ := f
  exact ⟨fun b o q => k _ _ (f1 b o q), f2, Heap.FunFrames.of_keeps (fun b o q _ => ⟨o, k _ _ q, rfl⟩) f3, oe, vs, T, oT, ts, k _ _ t1, t2, t3, t4, t5, t6, k _ _ t7, t8⟩
section
variable {X : Cx} {pins : List (Addr × Obj)} {σ : L2.St} {H : Hp} {s sI : Shared} {a : Addr} {B : Heap} {cls : Value} {d : Option Addr} {D : Ends} {Wout : WX}
theorem Caught.grown (c : Caught X pins σ H a B cls d sI s) {h' : Heap} (k : ∀ b o, s.heap.get? b = some o → h'.get? b = some o) : Caught X pins σ H a B cls d sI { s with heap := h' } :=
  ⟨c.inv, c.nb, c.up.trans (Heap.UpToSlots.of_keeps k), c.na, c.os, c.ag, flying_keeps c.fl k⟩
theorem Caught.looks (c : Caught X pins σ H a B cls d sI s) : PySem.W.Looks (model X.prog X.w) s.heap (typeOf (.ref a)) cls := by
  obtain ⟨oe0, vs0, e01, e02, e03⟩ := c.fl.there
  exact fun A Q E s' kk z => wpAny_typeOf_ref (kk _ _ e01) (by rw [e02.1]; exact z)
/-- a tuple of classes, new -/
theorem mtup {t : Expr} {cs : List Value} {b : Bool} {Q : Bool → Shared → Prop} {E : Value → Shared → Prop} (c : Caught X pins σ H a B cls d sI s) (lcs : cs.length ≤ 10)
    (ev : ∀ Q' : Value → Shared → Prop, Q' (.ref s.heap.objs.size) { s with heap := s.heap.push { cls := .type "tuple", data := .seq cs.toArray } } → wpAny (model X.prog X.w) (X.A.mark (some (.ref a))) (eval t X.env) Q' E s)
    (lk : ∀ h : Heap, X.K.In h → PySem.W.Looks (model X.prog X.w) h (typeOf (.ref a)) cls → h.get? s.heap.objs.size = some { cls := .type "tuple", data := .seq cs.toArray } → PySem.W.Looks (model X.prog X.w) h (excMatches (.ref a) (.ref s.heap.objs.size)) b)
    (q : ∀ s', Caught X pins σ H a B cls d sI s' → Q b s') : wpAny (model X.prog X.w) (X.A.mark (some (.ref a))) (eval t X.env) (fun v s₁ => wpAny (model X.prog X.w) (X.A.mark (some (.ref a))) (excMatches (.ref a) v) Q E s₁) E s := by
  have c2 := c.grown (h' := s.heap.push { cls := .type "tuple", data := .seq cs.toArray }) fun b o e => Heap.get?_push_of_some _ e
  exact ev _ ((lk _ c2.here.kIn c2.looks (Heap.get?_push_size _ rfl)).here (q _ c2))
theorem mtest {t : Expr} {cs : List Value} {b : Bool} {Q : Bool → Shared → Prop} {E : Value → Shared → Prop} (c : Caught X pins σ H a B cls d sI s) (hf : X.env.frame = some X.env.locals) (m : MTest X t cs) (hb : PySem.W.exmAny X.K cls cs = some b)
    (q : ∀ s', Caught X pins σ H a B cls d sI s' → Q b s') : wpAny (model X.prog X.w) (X.A.mark (some (.ref a))) (eval t X.env) (fun v s₁ => wpAny (model X.prog X.w) (X.A.mark (some (.ref a))) (excMatches (.ref a) v) Q E s₁) E s := by
  have small : ∀ n : Nat, n ≤ 10 → n ≤ sizeLine := fun n hn => Nat.le_trans hn (by decide)
  cases m with
  | name h =>
    obtain ⟨b1, d1, x1, y1, z1⟩ := PySem.W.exmAny_cons hb
    have : d1 = false := (Option.some.inj y1).symm
    subst this
    rw [Bool.or_false] at z1
    subst z1
    exact names_eval c hf h ((PySem.W.exm_one (M := model X.prog X.w) c.here.kIn c.looks x1).here (q s c))
  | two h1 h2 =>
    exact mtup c (by simp) (fun Q' q' => wpAny_Tuple_spliced (Calls.spliced_cons (names_eval c hf h1 (Calls.spliced_cons (names_eval c hf h2 (Calls.spliced_nil ⟨small _ (by simp), q'⟩)))))) (fun h K1 L1 there => PySem.W.exm_tup2 K1 L1 there hb) q
  | three h1 h2 h3 =>
    exact mtup c (by simp) (fun Q' q' => wpAny_Tuple_spliced (Calls.spliced_cons (names_eval c hf h1 (Calls.spliced_cons (names_eval c hf h2 (Calls.spliced_cons (names_eval c hf h3 (Calls.spliced_nil ⟨small _ (by simp), q'⟩)))))))) (fun h K1 L1 there => PySem.W.exm_tup3 K1 L1 there hb) q
  | four h1 h2 h3 h4 =>
    exact mtup c (by simp) (fun Q' q' => wpAny_Tuple_spliced (Calls.spliced_cons (names_eval c hf h1 (Calls.spliced_cons (names_eval c hf h2 (Calls.spliced_cons (names_eval c hf h3 (Calls.spliced_cons (names_eval c hf h4 (Calls.spliced_nil ⟨small _ (by simp), q'⟩)))))))))) (fun h K1 L1 there => PySem.W.exm_tup4 K1 L1 there hb) q
theorem mclauses {hs : List ExceptHandler} {qs : List MCl} (k : MClsOk X hs qs) (hst : X.stack = X.env :: X.outer) (hf : X.env.frame = some X.env.locals) (tk : Takes X Wout) :
    ∀ {s : Shared}, Caught X pins σ H a B cls d sI s → wMCls X.K Wout D qs cls d σ H → wpAny (model X.prog X.w) X.A (handleBy (.ref a) X.env hs) (SP X pins D) X.xe s := by
  induction k with
  | nil =>
    intro s c w
    refine wpAny_handleBy_nil ?_
    obtain ⟨k1, k2, k3, oe, vs, T, oT, ts', he, hz, hd, h1, hr⟩ := id c.fl
    have out : wpAny (model X.prog X.w) X.A (setFlight (.ref a) X.env.frame) (fun _ s4 => wpAny (model X.prog X.w) X.A (throw (.ref a) : Sem Flow) (SP X pins D) X.xe s4) X.xe s := by
      rw [hf]
      exact PySem.HandSPX.setFlight_upZ c.fl fun h4 hh4 up4 => wpAny_throw (tk _ _ ⟨a, B, sI, pins, σ, H, cls, d, rfl, c.inv, c.nb, c.up.trans up4, .inr (.inr (by rw [hst]; exact hh4)), c.na, c.os, c.ag, w⟩)
    unfold PySem.passOn
    refine wpAny_bind (wpAny_field he hd h1 ?_)
    rw [if_neg (show ¬ ((Value.ref T == Value.none) = true) from by simp)]
    first
      | exact wpAny_bind (wpAny_pure (wpAny_bind out))
      | exact wpAny_bind out
  | @cons h q hs qs o r ih =>
    intro s c w
    obtain ⟨b, hb1, hyes, hno⟩ := w
    cases o with
    | bare hc su =>
      refine wpAny_handleBy_cons (codeAny_handlers_test ?_) (by intro q; cases q)
      refine mtest c hf hc hb1 fun s c => ?_
      cases b with
      | false => exact ih c (hno rfl)
      | true =>
        refine codeAny_handlers_suite (c.again fun s4 c4 => ?_)
        obtain ⟨oe, z1, z2, S⟩ := c4.suite (M := model X.prog X.w) hf
        have ok := c4.here.ok
        refine wpAny_mono ((su a oe cls d (X.pn ++ pins) z1 z2).run [] _ _ H _ S (hyes rfl a c.na)) (fun f s6 hsp => ?_) (fun _ _ z => False.elim z)
        cases f with
        | next => exact let ⟨σ6, H6, S6, q6⟩ := hsp; ⟨_, _, S6.unsuite ok, q6⟩
        | brk => exact let ⟨σ6, H6, S6, q6⟩ := hsp; ⟨_, _, S6.unsuite ok, q6⟩
        | cont => exact let ⟨σ6, H6, S6, q6⟩ := hsp; ⟨_, _, S6.unsuite ok, q6⟩
        | ret u => exact let ⟨v6, σ6, H6, S6, r6, q6⟩ := hsp; ⟨_, _, _, S6.unsuite ok, r6, q6⟩
    | @as t n cs ts st sts pos' i hc hN hi hln su =>
      refine wpAny_handleBy_cons (codeAny_handlers_test ?_) (by intro q; cases q)
      refine mtest c hf hc hb1 fun s c => ?_
      cases b with
      | false => exact ih c (hno rfl)
      | true =>
        refine codeAny_handlers_suite_as (c.again fun s4 c4 => ?_)
        obtain ⟨oe, z1, z2, S⟩ := c4.suite (M := model X.prog X.w) hf
        have ok := c4.here.ok
        refine store_ok (X := X.suite a ((a, oe) :: (X.pn ++ pins))) (v := .ref a) S hN hi (.inl hln) rfl (fun s5 S5 => ?_) (.inr hln)
        refine wpAny_mono ((su a oe cls d (X.pn ++ pins) z1 z2).run [] s5 _ H (asEnds i D) S5 (hyes rfl a c.na)) (fun f s6 hsp => ?_) (fun _ _ z => False.elim z)
        cases f with
        | next => exact let ⟨σ6, H6, S6, q6⟩ := hsp; gone_ok (S6.unsuite ok) hN hi hln fun s7 J7 => ⟨_, _, J7, q6⟩
        | brk => exact let ⟨σ6, H6, S6, q6⟩ := hsp; gone_ok (S6.unsuite ok) hN hi hln fun s7 J7 => ⟨_, _, J7, q6⟩
        | cont => exact let ⟨σ6, H6, S6, q6⟩ := hsp; gone_ok (S6.unsuite ok) hN hi hln fun s7 J7 => ⟨_, _, J7, q6⟩
        | ret u => exact let ⟨v6, σ6, H6, S6, r6, q6⟩ := hsp; gone_ok (S6.unsuite ok) hN hi hln fun s7 J7 => ⟨_, _, _, J7, r6, q6⟩
/-- THE RULE -/
theorem ps_try_m {body : List Stmt} {h₀ : ExceptHandler} {hds : List ExceptHandler} {qs : List MCl} {pos : Pos} {tb : WX → TS} (hst : X.stack = X.env :: X.outer) (hf : X.env.frame = some X.env.locals) (tk : Takes X Wout)
    (hb : ∀ (W : WX) (pn : List (Addr × Obj)) (xe : Value → Shared → Prop), Takes (X.tr pn xe) W → PassesOwn (model X.prog X.w) X.A X.env xe → PSs (X.tr pn xe) body (tb W)) (hh : MClsOk X (h₀ :: hds) qs) :
    PS X (.Try body (h₀ :: hds) [] [] pos) (fun D σ H => tb (wMCls X.K Wout D qs) D σ H) := by
  refine ⟨fun pins s σ H D I h => wpAny_Try_except ?_⟩
  have ok := I.ok
  have fr : X.A.frames = some (X.env :: X.outer) := by rw [ok.frames, hst]
  have B0 := hb (wMCls X.K Wout D qs) (X.pn ++ pins) (fun e s₁ => wpAny (model X.prog X.w) X.A (noteFrame e X.env) (fun _ s₂ => wpAny (model X.prog X.w) X.A (setFlight e none) (fun _ s₃ => wpAny (model X.prog X.w) X.A (handleBy e X.env (h₀ :: hds)) (SP X pins D) X.xe s₃) X.xe s₂) X.xe s₁)
    (fun u s' xx => by
      obtain ⟨a, B, sI, pins', σ', H', cls, d, rfl, J', nb, up, sky, na, os, ag, w⟩ := xx
      refine Sky.land Zc.steady fr hf (show Sky B (X.env :: X.outer) a (Zc cls d) X.env.locals s'.heap by rw [← hst]; exact sky) fun h3 fl3 up3 => ?_
      exact mclauses hh hst hf tk ⟨J'.ofTry ok, nb, up.trans up3, na, os, ag, fl3⟩ w) PassesOwn.looking
  refine wpAny_mono (B0.run [] s σ H D (I.toTry _) h) (fun f s1 hsp => ?_) (fun _ _ z => z)
  cases f with
  | next => exact let ⟨σ', H', J', q⟩ := hsp; wpAny_execs_nil ⟨σ', H', J'.ofTry ok, q⟩
  | brk => exact let ⟨σ', H', J', q⟩ := hsp; ⟨σ', H', J'.ofTry ok, q⟩
  | cont => exact let ⟨σ', H', J', q⟩ := hsp; ⟨σ', H', J'.ofTry ok, q⟩
  | ret u => exact let ⟨v, σ', H', J', r, q⟩ := hsp; ⟨v, σ', H', J'.ofTry ok, r, q⟩
end
end GS
/-! isinstance(error, C) within a suite, of an error with a dict of its own. -/
namespace GS
open PySem PySem.W PySem.Spec PySem.Calls PyProof.Rows L2
section
variable {K : Frag} {x D : Addr} {ox : Obj} {od : Option Obj}
theorem data_found {attr get : Value} {C : Addr} {n : PySem.Str} (there : (clsIn K C).isSome = true) (f : findIn K (.ref C) n = some (some attr)) (g : specialIn K attr "__get__" = some (some get)) (t : takesIn K attr = some true) : findObj K C od n = some (.bind get attr) := by
  obtain ⟨cd, e⟩ := Option.isSome_iff_exists.mp there
  unfold findObj
  rw [e]
  rw [Option.bind_some, f]
  rw [Option.bind_some]
  simp [g, t]
theorem own_class {prog : Program} {w : World} {A : Around} {E : Value → Shared → Prop} {s : Shared} {Q : Option Value → Shared → Prop} (c : ExcC K D) (kin : K.In s.heap) (i : InstAt s.heap x ox D od) (q : Q (some (.ref D)) { s with toks := s.toks + 1 }) :
    wpAny (model prog w) A (getAttr? (.ref x) "__class__") Q E s := by
  have found : findObj K D od "__class__" = some (.bind (.builtin "getset_descriptor.__get__") (.builtin "object.__class__")) := by
    refine data_found ?_ c.ha c.hn c.ht
    obtain ⟨cd, e, _⟩ := any_some c.hd
    rw [e]
    rfl
  obtain ⟨heap, g, d, t, os⟩ := s
  have ty := i.type (M := model prog w)
  have own := looks_findIn (M := model prog w) kin c.hg
  have hook := looks_findIn (M := model prog w) kin c.hk
  have look := looks_find (M := model prog w) kin i found
  have isExc : Looks (model prog w) heap (isInstance (.ref x) (.type "BaseException")) true := ty.andThen (looks_subIn kin c.hs)
  have no2 : (Value.builtin "BaseException.__getattribute__" == Value.builtin "object.__getattribute__") = false := by decide +kernel
  have no1 : (onTheHeap (Value.ref D) && Value.builtin "BaseException.__getattribute__" == Value.builtin "object.__getattribute__") = false := by
    rw [no2]
    rfl
  unfold getAttr? getAttrBy? getAttrBy
  refine wpAny_bind (wpAny_mkText (wpAny_bind (wpAny_attempt (wpAny_holding (wpAny_bind (ty.at (wpAny_bind (own.at ?_))))))))
  show wpAny _ _ (if (onTheHeap (Value.ref D) && Value.builtin "BaseException.__getattribute__" == Value.builtin "object.__getattribute__") = true then _ else _) _ _ _
  rw [no1, if_neg Bool.false_ne_true]
  unfold getAttrByItsOwn hookBefore
  refine wpAny_bind ?_
  rw [if_pos (show onTheHeap (Value.ref D) = true from rfl)]
  refine hook.at (wpAny_bind (wpAny_attempt (wpAny_holding ?_)))
  unfold callGetattribute
  rw [show (false && onTheHeap (Value.builtin "BaseException.__getattribute__")) = false from rfl, if_neg Bool.false_ne_true]
  unfold boundAndCalled
  rw [PySem.F.excAttr_ValueError.ga.bind (.ref x)]
  refine wpAny_bind (wpAny_pure ?_)
  show wpAny _ _ (call (.builtin "BaseException.__getattribute__") [.ref x, .str "__class__" t]) _ _ _
  refine wpAny_call (codeAny_call_builtin PySem.F.excAttr_ValueError.ga.plain PySem.F.entry_bexc_ga ?_)
  refine @check_slot (model prog w) _ _ ⟨heap, g, d, t + 1, os⟩ "BaseException.__getattribute__" "BaseException" "__getattribute__" (.ref x) [.str "__class__" t] [] _
    (by decide +kernel) (by decide +kernel) isExc (PySem.F.args_bexc_ga (.ref x) (.str "__class__" t)) ?_
  unfold Builtin.«object.__getattribute__»
  refine wpAny_bind (wpAny_of_eq (a := ((Value.ref x : Value), [Value.str "__class__" t])) (by first | rfl | (simp only [slotArgs]; rfl)) ?_)
  refine wpAny_bind (wpAny_pure (wpAny_bind (ty.at (wpAny_bind (look.at ?_)))))
  show wpAny _ _ (holding [Value.builtin "object.__class__"] (call (.builtin "getset_descriptor.__get__") [.builtin "object.__class__", .ref x, .ref D]) >>= ret) _ _ _
  refine wpAny_bind (wpAny_holding (wpAny_call (class_get (s := ⟨heap, g, d, t + 1, os⟩) kin i c.hm (wpAny_pure ?_))))
  show wpAny _ _ (handedOut (.ref D)) _ _ _
  rw [handedOut_of (v := .ref D) rfl]
  first | exact wpAny_pure (wpAny_pure q) | exact wpAny_pure q | exact wpAny_pure (wpAny_bind (wpAny_pure (wpAny_pure q)))
theorem kit_err (c : ExcC K D) : KitX K (.ref x) (.ref D) (fun h => InstAt h x ox D od) where
  ty := fun _ _ _ i => i.type
  it := fun _ _ kin _ => by
    obtain ⟨cd, e, _⟩ := any_some c.hd
    unfold clsIn at e
    split at e
    · rename_i ho
      intro A' Q' E' s' kept q
      unfold isType loadHead
      exact wpAny_bind (wpAny_loadPart (kept _ _ (kin _ _ ho)) (wpAny_pure q))
    · cases e
  ne := fun h tp dd its n sl kin there => by
    obtain ⟨cd, e, _⟩ := any_some c.hd
    refine Bool.eq_false_iff.mpr fun q => ?_
    have same : D = tp := Value.ref.inj (beq_iff_eq.mp q)
    unfold clsIn at e
    split at e
    · rename_i ho
      rw [same] at ho
      cases (kin _ _ ho).symm.trans there
    · cases e
  ca := fun kin i q => own_class c kin i q
end
/-- isinstance(e, c), e the error that the suite holds, of whichever class -/
def rIsX (K : Frag) (a : Addr) (cls : Value) (d : Option Addr) : List V → Hp → VK → Prop := fun xs H Q => ∃ (c : V) (cv : Value) (b : Bool) (C dd : Addr) (fs : List (PySem.Str × V)), xs = [.ref a, c] ∧ (∀ u, RelV c u → u = cv) ∧ cls = .ref C ∧ ExcC K C ∧ kitOne K (.ref C) cv = some b ∧ d = some dd ∧ H dd = some (.xd fs) ∧ Q (.bl b) H
section
variable {X : Cx} {a : Addr} {oe : Obj} {cls : Value} {d : Option Addr} {pn : List (Addr × Obj)}
/-- the error as an instance -/
theorem inst_err {pins : List (Addr × Obj)} {σ : L2.St} {H : Hp} {s : Shared} {C dd : Addr} {fs : List (PySem.Str × V)} (hz : Zc (.ref C) (some dd) oe) (hf : ∃ vs, oe.data = .fields vs) (I : Inv (X.suite a ((a, oe) :: pn)) pins σ H s) (there : H dd = some (.xd fs)) :
    ∃ od, InstAt s.heap a oe C (some od) ∧ ∀ n v, fs.lookup n = some v → ∃ u, RelV v u ∧ lookIn n od = some (some u) := by
  obtain ⟨mA, hns, hr⟩ := (show ObjOk X.prog X.w H s.heap dd (.xd fs) from I.hok dd _ there)
  obtain ⟨od, ho, hl⟩ := lookIn_ns hns
  obtain ⟨ha, _⟩ := I.pin (a, oe) (List.mem_append_left _ List.mem_cons_self)
  obtain ⟨vs, hd⟩ := hf
  have plain : notCls oe := by
    unfold notCls
    rw [hd]
  refine ⟨od, ⟨ha, hz.1, plain, by rw [hz.2]; exact ho⟩, fun n v hv => ?_⟩
  obtain ⟨u, hu, ru⟩ := RelO.some_of (v := v) (o := mA n) (by rw [← hv]; exact hr n)
  exact ⟨u, ru, by rw [hl, hu]⟩
theorem cr_isX {K : Frag} (hk : X.K = K) (hz : Zc cls d oe) (hf : ∃ vs, oe.data = .fields vs) : CallR (X.suite a ((a, oe) :: pn)) (.builtin "isinstance") (rIsX K a cls d) := by
  subst hk
  intro pins s σ H xs us Q I r got
  obtain ⟨c, cv, b, C, dd, fs, rfl, only, rfl, ec, e, rfl, there, q⟩ := got
  obtain ⟨u1, u2, rfl, r1, r2⟩ := vals2 r
  cases r1
  rw [only _ r2]
  obtain ⟨od, i, _⟩ := inst_err hz hf I there
  exact kia_one (kit_err ec) I.kIn i e (fun z => nomatch z) fun tk => ⟨.bl b, H, I.kept (t' := tk) fun _ _ z => z, rfl, q⟩
/-- e.f, e the error that the suite holds, of whichever class -/
def tXfA (K : Frag) (a : Addr) (cls : Value) (d : Option Addr) (n : PySem.Str) (te : TE) : TE := fun σ H Q => te σ H fun x H1 => x = .ref a ∧ ∃ (C dd : Addr) (fs : List (PySem.Str × V)) (v : V), cls = .ref C ∧ XfC K C ∧ findIn K (.ref C) n = some none ∧ d = some dd ∧ H1 dd = some (.xd fs) ∧ fs.lookup n = some v ∧ Q v H1
theorem pe_xfA {K : Frag} {e : Expr} {te : TE} {pos : Pos} {n : PySem.Str} (hk : X.K = K) (hz : Zc cls d oe) (hf : ∃ vs, oe.data = .fields vs) (he : PE (X.suite a ((a, oe) :: pn)) e te) (plain : attributeBase e n X.env (eval e X.env) = eval e X.env := by rfl) : PE (X.suite a ((a, oe) :: pn)) (.Attribute e n pos) (tXfA K a cls d n te) := by
  subst hk
  refine ⟨fun pins s σ H Q I h => attr_of plain (thn (he.run pins s σ H _ I h) fun u s1 got => ?_)⟩
  obtain ⟨x, H1, I1, rx, rfl, C, dd, fs, v, rfl, T, no_, rfl, there, l, q⟩ := got
  obtain rfl : u = Value.ref a := rx
  obtain ⟨od, i, fields⟩ := inst_err hz hf I1 there
  obtain ⟨u, ru, hu⟩ := fields n v l
  exact HandSPX.exc_get I1.kIn i T.ga T.gg T.exC (findObj_own T.hdC no_ rfl hu) (handed_of ru) ⟨v, H1, I1.tok _, ru, q⟩
end
end GS
/-! A list or a tuple walked; o.m(k = v). -/
namespace GS
open PySem PySem.Spec PyProof.Rows L2
def iSeq (K : PySem.W.Frag) (tl : TE) : TI := fun σ H R => tl σ H fun x H1 => ∃ a, x = .ref a ∧ (((∃ xs, SqL K H1 a xs) ∧ R (Itl K a) H1) ∨ ((∃ xs, SqT K H1 a xs) ∧ R (Itt K a) H1))
theorem pi_seq {X : Cx} {tg l : Expr} {tl : TE} (hl : PE X l tl) : PI X tg l (iSeq X.K tl) := by
  refine ⟨fun pins s σ H R I h => thn (hl.run pins s σ H _ I h) fun v s1 ⟨x, H1, I1, r1, a, ex, q⟩ => ?_⟩
  subst ex
  obtain rfl : v = Value.ref a := r1
  have grown : ∀ (o : Obj), Inv X pins σ H1 { s1 with heap := s1.heap.push o } := fun o => I1.kept (t' := s1.toks) fun b u e => Heap.get?_push_of_some _ e
  have fresh := I1.fpOk (Nat.le_refl _) (I1.hok.fresh (Nat.le_refl s1.heap.objs.size))
  rcases q with ⟨⟨xs, hq⟩, q⟩ | ⟨⟨xs, hq⟩, q⟩
  · obtain ⟨its, rv, p, hz⟩ := I1.list hq
    refine wpAny_pyIter_list p.isList ⟨s1.heap.objs.size, [s1.heap.objs.size], _, _, H1, rfl, grown _, turn_list a _, ⟨_, Heap.get?_push_size _ rfl, rfl, rfl⟩, fun b hb => ?_, q⟩
    rw [List.mem_singleton.mp hb]
    exact fresh
  · obtain ⟨its, rv, p, hz⟩ := I1.tuple hq
    refine wpAny_pyIter_tuple (show s1.heap.IsTuple a its.toArray from p) ⟨s1.heap.objs.size, [s1.heap.objs.size], _, _, H1, rfl, grown _, turn_tuple a _, ⟨_, Heap.get?_push_size _ rfl, rfl, rfl⟩, fun b hb => ?_, q⟩
    rw [List.mem_singleton.mp hb]
    exact fresh
theorem r_iSeqL {K : PySem.W.Frag} {a : Addr} {H : Hp} {xs : List V} {R : It → Hp → Prop} (h : SqL K H a xs) (q : R (Itl K a) H) : ∃ b, V.ref a = .ref b ∧ (((∃ xs, SqL K H b xs) ∧ R (Itl K b) H) ∨ ((∃ xs, SqT K H b xs) ∧ R (Itt K b) H)) := ⟨a, rfl, .inl ⟨⟨xs, h⟩, q⟩⟩
theorem r_iSeqT {K : PySem.W.Frag} {a : Addr} {H : Hp} {xs : List V} {R : It → Hp → Prop} (h : SqT K H a xs) (q : R (Itt K a) H) : ∃ b, V.ref a = .ref b ∧ (((∃ xs, SqL K H b xs) ∧ R (Itl K b) H) ∨ ((∃ xs, SqT K H b xs) ∧ R (Itt K b) H)) := ⟨a, rfl, .inr ⟨⟨xs, h⟩, q⟩⟩
/-- o.m(k = v, ..) -/
def tMethN (C : Addr) (m : PySem.Str) (nk : Nat) (sp : Sp) (gV : List V → List V → List V) (E : XK) (ta : TE) (tk : TA) : TE := fun σ H Q => ta σ H fun x H1 => ∃ a dx fs, x = .ref a ∧ H1 a = some (.ins C dx fs) ∧ fs.lookup m = none ∧ tk σ H1 fun zs H2 => zs.length = nk ∧ sp (gV [x] zs) H2 Q E
theorem pe_methK0 {X : Cx} {CX : CXT} {k : Nat} {f C : Addr} {fd : FuncData} {ps ks : List PySem.Str} {sp : Sp} {E : XK} {o : Expr} {m : PySem.Str} {pos apos : Pos} {ta : TE} {tk : TA} {kws : List Keyword} {g : List Value → List Value → List Value} {gV : List V → List V → List V} {pl : Sem Bool}
    (he : PE X o ta) (c : Cls X.K C) (hm : Meth X.K C m f) (F : FnOk X.prog X.w X.K X.mg X.base CX k f fd ps sp) (hr : Room k X.A) (kb : KBn X.K fd ps 1 ks g gV) (hx : Passes CX X E) (hw : PK X kws tk)
    (named : (backToKw pos (keywordEach kws X.env)).all (·.1.isSome) = true := by rfl) (names : (backToKw pos (keywordEach kws X.env)).filterMap (·.1) = ks := by rfl)
    (plain : ((backTo pos (starEach [] X.env)).any (·.1) || (backToKw pos (keywordEach kws X.env)).any (·.1.isNone)) = false := by rfl)
    (ht : eval (.Call (.Attribute o m apos) [] kws pos) X.env = (do let ov ← eval o X.env; standAt apos.atName; let (f, first) ← holding [ov] (getMethod ov m pl); callWith pos f first (backTo pos (starEach [] X.env)) (backToKw pos (keywordEach kws X.env))) := by rfl) :
    PE X (.Call (.Attribute o m apos) [] kws pos) (tMethN C m ks.length sp gV E ta tk) := by
  refine ⟨fun pins s σ H Q I h => PySem.W.methodCall_KW (pl := pl) (thn (he.run pins s σ H _ I h) fun u s1 ⟨x, H1, I1, rx, a, dx, fs, ex, ea, l, q⟩ => ?_) ht⟩
  subst ex
  obtain rfl : u = Value.ref a := rx
  refine getmeth_ok I1 ea c hm l ?_
  refine PySem.W.callWith_KW0 (first := [.ref a]) (h₀ := X.base) I.ok.mod.kin hm.kp named (thn (hw.run pos pins s1 σ H1 _ I1 q) fun ws s2 ⟨zs, H2, I2, rz, m2, q2⟩ => ⟨I2.kIn, ?_⟩) plain
  rw [names]
  exact run_fnN (us := [.ref a]) (vs := [.ref a]) F hr kb hx I2 (.cons rfl .nil) rz rfl m2 q2
/-- o.m(e, ..) inside try -/
def tMethE (C : Addr) (m : PySem.Str) (sp : Sp) (E : L2.St → XK) (ta : TE) (t : TA) : TE := fun σ H Q => ta σ H fun x H1 => ∃ a dx fs, x = .ref a ∧ H1 a = some (.ins C dx fs) ∧ fs.lookup m = none ∧ t σ H1 fun vs H2 => sp (x :: vs) H2 Q (E σ)
theorem pe_methE {X : Cx} {CX : CXT} {k : Nat} {f C : Addr} {fd : FuncData} {ps : List PySem.Str} {sp : Sp} {E : L2.St → XK} {o e : Expr} {es : List Expr} {m : PySem.Str} {pos apos : Pos} {ta : TE} {t : TA} {pl : Sem Bool}
    (he : PE X o ta) (c : Cls X.K C) (hm : Meth X.K C m f) (F : FnOk X.prog X.w X.K X.mg X.base CX k f fd ps sp) (hr : Room k X.A) (hb : Binds X.K fd ps []) (hx : ∀ σ, PassesAt CX X σ (E σ)) (ha : PA X (e :: es) t)
    (st : starEach (e :: es) X.env = (false, eval e X.env) :: starEach es X.env := by rfl) (plain : (backTo pos (starEach es X.env)).any (·.1) = false := by rfl)
    (ht : eval (.Call (.Attribute o m apos) (e :: es) [] pos) X.env = (do let ov ← eval o X.env; standAt apos.atName; let (f, first) ← holding [ov] (getMethod ov m pl); callWith pos f first (backTo pos (starEach (e :: es) X.env)) (backToKw pos (keywordEach [] X.env))) := by rfl) :
    PE X (.Call (.Attribute o m apos) (e :: es) [] pos) (tMethE C m sp E ta t) := by
  refine ⟨fun pins s σ H Q I h => PySem.W.methodCall_KW (pl := pl) (thn (he.run pins s σ H _ I h) fun u s1 ⟨x, H1, I1, rx, a, dx, fs, ex, ea, l, q⟩ => ?_) ht⟩
  subst ex
  obtain rfl : u = Value.ref a := rx
  refine getmeth_ok I1 ea c hm l ?_
  refine PySem.W.callWith_K (first := [.ref a]) (h₀ := X.base) I.ok.mod.kin hm.kp (thn (ha.run pos pins s1 σ H1 _ I1 q) fun us s2 ⟨vs, H2, I2, r, q2⟩ => ⟨I2.kIn, ?_⟩) st plain
  exact run_fnS (us := .ref a :: us) (vs := .ref a :: vs) F hr hb (hx σ) I2 (.cons rfl r) q2
/-- l[j] for l[j] op= e, from 0 on -/
def rGetL (K : PySem.W.Frag) : V → V → Hp → VK → Prop := fun x y H Q => ∃ p xs j v, x = .ref p ∧ y = .int (j : Nat) ∧ SqL K H p xs ∧ xs[j]? = some v ∧ Q v H
theorem pget_list {X : Cx} : PGet X (rGetL X.K) := by
  intro pins s σ H o i ov iv Q I ro ri got
  obtain ⟨p, xs, j, v, rfl, rfl, hq, e, q⟩ := got
  obtain rfl : ov = Value.ref p := ro
  obtain ⟨t, rfl⟩ := ri
  obtain ⟨its, r, pl, hz⟩ := I.list hq
  obtain ⟨u, hu, ru⟩ := r.get e
  have lt := (List.getElem?_eq_some_iff.mp e).1
  have n := line63
  refine wpAny_getItem_list (x := u) pl.isList (Int.natCast_nonneg j) ?_ ?_ ⟨v, H, I, ru, q⟩
  · omega
  · rw [Int.toNat_natCast]
    simpa using hu
/-! the same rules where X's K is only told by an equation (within comprehensions) -/
theorem kx_ixl {X : Cx} {K : PySem.W.Frag} (h : X.K = K) : IxR X (rIxL K) := by subst h; exact ix_list
theorem kx_ixt {X : Cx} {K : PySem.W.Frag} (h : X.K = K) : IxR X (rIxT K) := by subst h; exact ix_tup
theorem kx_lens {X : Cx} {K : PySem.W.Frag} (h : X.K = K) : CallR X (.builtin "len") (fun xs H Q => ∃ p ys, xs = [.ref p] ∧ (SqL K H p ys ∨ SqT K H p ys) ∧ Q (.int ys.length) H) := by subst h; exact call_len_seq
theorem kx_fld {X : Cx} {K : PySem.W.Frag} {e : Expr} {te : TE} {f : PySem.Str} {pos : Pos} (h : X.K = K) (he : PE X e te) (hb : attributeBase e f X.env (eval e X.env) = eval e X.env) : PE X (.Attribute e f pos) (tFld K te f) := by subst h; exact pe_fld he hb
/-! facts of the head -/
def bnB (x : PySem.Str) (id : String) : Chk := fun K => He.eqO (PySem.W.nsIn K mainGlobals x) (some (some (.builtin id)))
theorem bnB_ok {K : PySem.W.Frag} {mg : PySem.Str → Option Value} {h : Heap} (X : K.In h) (G : h.Ns mainGlobals mg) {x : PySem.Str} {id : String} (c : bnB x id K = true) : mg x = some (.builtin id) := PySem.W.mg_of X G (He.eqO_ok c)
def excB (x : PySem.Str) : Chk := fun K => He.eqO (PySem.W.findIn K (.ref (He.ga K x)) "__class__") (some (some (.builtin "object.__class__"))) && decide (PySem.W.mroIn K (He.ga K x) (.type "object") = some true)
theorem excB_ok {K : PySem.W.Frag} {x : PySem.Str} (top : topB K = true) (f : XfC K (He.ga K x)) (c : excB x K = true) : ExcC K (He.ga K x) := by
  obtain ⟨t1, t2⟩ := Bool.and_eq_true_iff.mp top
  obtain ⟨c1, c2⟩ := Bool.and_eq_true_iff.mp c
  exact ⟨f.ga, f.gg, f.exC, f.hdC, He.eqO_ok c1, He.eqO_ok t1, of_decide_eq_true t2, of_decide_eq_true c2⟩
/-- an instance of D is none of C -/
def otB (D C : PySem.Str) : Chk := fun K => decide (PySem.W.kitOne K (.ref (He.ga K D)) (.ref (He.ga K C)) = some false) && PySem.W.notFirst K (He.ga K C) (.ref (He.ga K D))
theorem otB_ok {K : PySem.W.Frag} {D C : PySem.Str} (c : otB D C K = true) : PySem.W.kitOne K (.ref (He.ga K D)) (.ref (He.ga K C)) = some false ∧ PySem.W.notFirst K (He.ga K C) (.ref (He.ga K D)) = true := by
  obtain ⟨c1, c2⟩ := Bool.and_eq_true_iff.mp c
  exact ⟨of_decide_eq_true c1, c2⟩
end GS
/-! Comprehensions of any target; zip of tuples; loops. -/
namespace GS
open PySem PySem.Spec PyProof.Rows L2 TL
theorem walk_zipT {K : PySem.W.Frag} {a b : Addr} {xs ys : List V} {n : Nat} (hn : n = min xs.length ys.length) : Walk (RZ.ItzT K a b) n (fun H => SqT K H a xs ∧ SqT K H b ys) (YPair (fun i => xs[i]?) (fun i => ys[i]?)) := by
  subst hn
  refine ⟨fun i _ hi q => ?_, fun _ q => ⟨xs, ys, q.1, q.2, by omega⟩, fun i H v H' _ q y => ?_⟩
  · have h1 : i < xs.length := by omega
    have h2 : i < ys.length := by omega
    exact ⟨xs, ys, xs[i], ys[i], q.1, q.2, by simp [h1], by simp [h2]⟩
  · obtain ⟨T, x, z, h1, h2, h3, h4, h5⟩ := y
    exact ⟨T, x, z, h1, h2, h3, h4 xs q.1, h5 ys q.2⟩
theorem r_zipA {K : PySem.W.Frag} {ta : TA} {σ : L2.St} {H : Hp} {R : It → Hp → Prop} (q : ta σ H fun vs H1 => ∃ a b xs ys, vs = [.ref a, .ref b] ∧ ((SqL K H1 a xs ∧ SqL K H1 b ys ∧ R (Itz K a b) H1) ∨ (SqT K H1 a xs ∧ SqT K H1 b ys ∧ R (RZ.ItzT K a b) H1))) : RZ.iZipA K ta σ H R := q
theorem walk_enumT' {K : PySem.W.Frag} {a : Addr} {xs : List V} {n : Nat} (h : xs.length = n) : Walk (IteT K a) n (fun H => SqT K H a xs) (YPair (fun i => some (.int (i : Nat))) (fun i => xs[i]?)) := by subst h; exact walk_enumT
/-- what is wished behind list(..), tuple(..) -/
def listK (K : PySem.W.Frag) (Q : VK) : List V → Hp → Prop := fun xs H => ∃ p ys, xs = [V.ref p] ∧ (SqL K H p ys ∨ SqT K H p ys) ∧ ∀ (l : Addr), H l = none → Q (.ref l) (upd H l (.lst ys))
theorem r_cbList {K : PySem.W.Frag} {tr : TA} {σ : L2.St} {H : Hp} {Q : VK} (q : tr σ H (listK K Q)) : tCB (fun xs H Q => ∃ p ys, xs = [V.ref p] ∧ (SqL K H p ys ∨ SqT K H p ys) ∧ ∀ (l : Addr), H l = none → Q (.ref l) (upd H l (.lst ys))) tr σ H Q := q
theorem r_list {K : PySem.W.Frag} {Q : VK} {H : Hp} {a : Addr} {xs : List V} (h : SqL K H a xs ∨ SqT K H a xs) (q : ∀ l H', H l = none → Ex H H' → H' l = some (.lst xs) → Q (.ref l) H') : listK K Q [.ref a] H :=
  ⟨a, xs, rfl, h, fun l hl => q l _ hl (Ex.new hl) upd_same⟩
def tupK (K : PySem.W.Frag) (Q : VK) : List V → Hp → Prop := fun xs H => ∃ p ys, xs = [V.ref p] ∧ ((SqL K H p ys ∧ ∀ (l : Addr), H l = none → Q (.ref l) (upd H l (.tup ys))) ∨ SqT K H p ys ∧ Q (.ref p) H)
theorem r_cbTup {K : PySem.W.Frag} {tr : TA} {σ : L2.St} {H : Hp} {Q : VK} (q : tr σ H (tupK K Q)) : tCB (fun xs H Q => ∃ p ys, xs = [V.ref p] ∧ ((SqL K H p ys ∧ ∀ (l : Addr), H l = none → Q (.ref l) (upd H l (.tup ys))) ∨ SqT K H p ys ∧ Q (.ref p) H)) tr σ H Q := q
theorem r_tupL {K : PySem.W.Frag} {Q : VK} {H : Hp} {a : Addr} {xs : List V} (h : SqL K H a xs) (q : ∀ l H', H l = none → Ex H H' → H' l = some (.tup xs) → Q (.ref l) H') : tupK K Q [.ref a] H :=
  ⟨a, xs, rfl, .inl ⟨h, fun l hl => q l _ hl (Ex.new hl) upd_same⟩⟩
theorem r_sl {r : V → Option Int → Option Int → Hp → VK → Prop} {te : TE} {tl th : TO} {σ : L2.St} {H : Hp} {Q : VK} (q : te σ H fun x H1 => tl σ H1 fun l H2 => th σ H2 fun u H3 => r x l u H3 Q) : tSl r te tl th σ H Q := q
theorem r_noPart {σ : L2.St} {H : Hp} {R : Option Int → Hp → Prop} (q : R none H) : tNoPart σ H R := q
theorem r_part {te : TE} {σ : L2.St} {H : Hp} {R : Option Int → Hp → Prop} (q : te σ H fun x H1 => ∃ i, x = .int i ∧ R (some i) H1) : tPart te σ H R := q
theorem r_iR2 {ta : TA} {σ : L2.St} {H : Hp} {R : It → Hp → Prop} (q : ta σ H fun vs H1 => ∃ i j : Int, vs = [.int i, .int j] ∧ (-(2 ^ 62) ≤ i ∧ i < 2 ^ 62 ∧ -(2 ^ 62) ≤ j ∧ j < 2 ^ 62) ∧ R (Itr i (j - i).toNat) H1) : iRng2 ta σ H R := q
theorem r_iR3 {ta : TA} {σ : L2.St} {H : Hp} {R : It → Hp → Prop} (q : ta σ H fun vs H1 => ∃ (i j c : Int) (n : Nat), vs = [.int i, .int j, .int c] ∧ RgC i j c n ∧ R (Itc i c n) H1) : iRng3 ta σ H R := q
/-- any target, no test; what is known of the items by the turn -/
theorem r_lcP {J : It} {n : Nat} {G : Hp → Prop} {Y : Nat → Hp → V → Hp → Prop} {g : TG} {vs : List Nat} {te : TE} {σ : L2.St} {H1 : Hp} {Q : VK} (w : Walk J n G Y) (P : Addr → Nat → List V → Hp → Prop) (hn : n ≤ 50000) (hG : ∀ H' : Hp, Ex H1 H' → G H')
    (h0 : ∀ D H, Ex H1 H → P D 0 [] H) (mono : ∀ D i ys H H', P D i ys H → Bu D H H' → P D i ys H')
    (step : ∀ D i x ys H H', i < n → H1 D = none → Ex H1 H → H D = some (.lst ys) → P D i ys H → Y i H x H' → ∀ N : VK, (∀ y H4, Ex H H4 → P D (i + 1) (ys ++ [y]) H4 → N y H4) → g x (wipe σ vs) H' fun σ2 H2 => wipe σ2 vs = wipe σ vs ∧ te σ2 H2 N)
    (q : ∀ D ys H', H1 D = none → Ex H1 H' → H' D = some (.lst ys) → ys.length = n → P D n ys H' → Q (.ref D) H') : lcB J g tYes te vs σ Q H1 := by
  intro D hD
  refine lc_it w (fun i H => Ex H1 H ∧ ∃ ys, H D = some (.lst ys) ∧ ys.length = i ∧ P D i ys H) ⟨Ex.mut (Ex.refl _) hD, [], upd_same, rfl, h0 D _ (Ex.mut (Ex.refl _) hD)⟩ (fun i H _ p => hG H p.1) ?_ (fun H p => let ⟨ys, h1, h2, h3⟩ := p.2; q D ys H hD p.1 h1 h2 h3)
  intro i x H H' hi p y
  obtain ⟨p1, ys, p2, p3, p4⟩ := p
  refine step D i x ys H H' hi hD p1 p2 p4 y _ fun z H4 e4 hp4 => ⟨ys, e4 _ _ p2, sz_lt (by omega), Ex.mut (p1.trans e4) hD, ys ++ [z], upd_same, (by rw [List.length_append, p3]; rfl), mono D _ _ _ _ hp4 Bu.upd⟩
/-- the items are integers -/
theorem r_lcZ {J : It} {n : Nat} {G : Hp → Prop} {Y : Nat → Hp → V → Hp → Prop} {g : TG} {vs : List Nat} {te : TE} {σ : L2.St} {H1 : Hp} {Q : VK} (w : Walk J n G Y) (r : List Int) (hr : r.length = n) (hn : n ≤ 50000) (hG : ∀ H' : Hp, Ex H1 H' → G H')
    (step : ∀ i x H H', i < n → Ex H1 H → Y i H x H' → ∀ N : VK, (∀ H4, Ex H H4 → N (.int (r.getD i 0)) H4) → g x (wipe σ vs) H' fun σ2 H2 => wipe σ2 vs = wipe σ vs ∧ te σ2 H2 N)
    (q : ∀ D H', H1 D = none → Ex H1 H' → H' D = some (.lst (r.map V.int)) → Q (.ref D) H') : lcB J g tYes te vs σ Q H1 := by
  refine r_lcP w (fun _ i ys _ => ys = (r.take i).map V.int) hn hG (fun _ _ _ => rfl) (fun _ _ _ _ _ h _ => h) ?_ (fun D ys H' h1 h2 h3 h4 h5 => q D H' h1 h2 ?_)
  · intro D i x ys H H' hi hD e hd hp y N hN
    refine step i x H H' hi e y N fun H4 e4 => hN _ H4 e4 ?_
    have : i < r.length := by omega
    rw [hp, List.take_add_one, List.getElem?_eq_getElem this, List.map_append]
    congr 1
    simp [this]
  · rw [h3, h5, ← hr, List.take_length]
/-- any target, no test; the heap may change as it likes -/
theorem r_lcG {J : It} {n : Nat} {G : Hp → Prop} {Y : Nat → Hp → V → Hp → Prop} {g : TG} {vs : List Nat} {te : TE} {σ : L2.St} {H1 : Hp} {Q : VK} (w : Walk J n G Y) (P : Addr → Nat → List V → Hp → Prop) (hn : n ≤ 50000) (hG : ∀ D i ys H, P D i ys H → G H)
    (h0 : ∀ D, H1 D = none → P D 0 [] (upd H1 D (.lst []))) (mono : ∀ D i ys H o, H1 D = none → P D i ys H → P D i ys (upd H D o))
    (step : ∀ D i x ys H H', i < n → H1 D = none → H D = some (.lst ys) → ys.length = i → P D i ys H → Y i H x H' → ∀ N : VK, (∀ y H4, H4 D = some (.lst ys) → P D (i + 1) (ys ++ [y]) H4 → N y H4) → g x (wipe σ vs) H' fun σ2 H2 => wipe σ2 vs = wipe σ vs ∧ te σ2 H2 N)
    (q : ∀ D ys H', H1 D = none → H' D = some (.lst ys) → ys.length = n → P D n ys H' → Q (.ref D) H') : lcB J g tYes te vs σ Q H1 := by
  intro D hD
  refine lc_it w (fun i H => ∃ ys, H D = some (.lst ys) ∧ ys.length = i ∧ P D i ys H) ⟨[], upd_same, rfl, h0 D hD⟩ (fun i H _ p => let ⟨ys, _, _, h⟩ := p; hG D i ys H h) ?_ (fun H p => let ⟨ys, h1, h2, h3⟩ := p; q D ys H hD h1 h2 h3)
  intro i x H H' hi p y
  obtain ⟨ys, p2, p3, p4⟩ := p
  refine step D i x ys H H' hi hD p2 p3 p4 y _ fun z H4 h4 hp4 => ⟨ys, h4, sz_lt (by omega), ys ++ [z], upd_same, (by rw [List.length_append, p3]; rfl), mono D _ _ _ _ hD hp4⟩
/-! ### the bag's own list stays -/
def Bg (p : Addr) (H H' : Hp) : Prop := Bu p H H' ∧ ∀ L x y, H p = some (.lst [.ref L, x, y]) → ∃ x' y', H' p = some (.lst [.ref L, x', y'])
theorem Bg.refl (p : Addr) (H : Hp) : Bg p H H := ⟨Bu.refl p H, fun _ x y h => ⟨x, y, h⟩⟩
theorem Bg.trans {p : Addr} {H H1 H2 : Hp} (a : Bg p H H1) (b : Bg p H1 H2) : Bg p H H2 := ⟨a.1.trans b.1, fun L x y h => let ⟨x', y', h'⟩ := a.2 L x y h; b.2 L x' y' h'⟩
theorem Bg.of {p : Addr} {H H' : Hp} (e : Ex H H') : Bg p H H' := ⟨Bu.of e, fun _ x y h => ⟨x, y, e _ _ h⟩⟩
theorem Bg.at_ {p b : Addr} {H H' : Hp} {o : HO} (e : Bg p H H') (n : b ≠ p) (h : H b = some o) : H' b = some o := e.1 b o n h
theorem Bg.updD {p D : Addr} {H1 H : Hp} {o : HO} {n0 : Int} (e : Bg p H1 H) (hb : Bag H1 p n0) (hD : H1 D = none) : Bg p H1 (upd H D o) := by
  obtain ⟨L, xs, a, l, h1, _⟩ := hb.is
  have np : p ≠ D := by rintro rfl; rw [hD] at h1; cases h1
  refine ⟨fun b u n hb => ?_, fun L x y h => ?_⟩
  · rw [upd_ne (by rintro rfl; rw [hD] at hb; cases hb)]
    exact e.1 b u n hb
  · rw [upd_ne np]
    exact e.2 L x y h
theorem Bag.updD {p D : Addr} {H1 H : Hp} {o : HO} {n0 n : Int} (hb : Bag H p n) (hb1 : Bag H1 p n0) (e : Bg p H1 H) (hD : H1 D = none) : Bag (upd H D o) p n := by
  obtain ⟨L1, xs1, a1, l1, h1, hL1, ne1, _⟩ := hb1.is
  obtain ⟨L, xs, a, l, h, hL, ne, r⟩ := hb.is
  obtain ⟨x', y', h'⟩ := e.2 L1 _ _ h1
  rw [h] at h'
  cases h'
  have np : p ≠ D := by rintro rfl; rw [hD] at h1; cases h1
  have nL : L1 ≠ D := by rintro rfl; rw [hD] at hL1; cases hL1
  exact ⟨L1, xs, a, l, by rw [upd_ne np]; exact h, by rw [upd_ne nL]; exact hL, ne, r⟩
/-- what a draw promises -/
def spDrawG : Sp := sp2 fun b m H Q _ => ∃ p m' n, b = .ref p ∧ m = .int m' ∧ 0 < m' ∧ Z 1000 m' ∧ n ≤ 100000 ∧ Bag H p n ∧ ∀ r H', 0 ≤ r → r < m' → Bg p H H' → Bag H' p (n + 1) → Q (.int r) H'
theorem r_DrawG {H : Hp} {Q : VK} {E : XK} {p : Addr} {m n : Int} (hb : Bag H p n) (hn : n ≤ 100000) (h0 : 0 < m) (hm : Z 1000 m) (k : ∀ r H', 0 ≤ r → r < m → Bg p H H' → Bag H' p (n + 1) → Q (.int r) H') : spDrawG ([.ref p, .int m] ++ []) H Q E :=
  ⟨p, m, n, rfl, rfl, h0, hm, hn, hb, k⟩
end GS
/-! x == y, x of a built-in kind, y an instance with an own __eq__. -/
namespace GS
open PySem PySem.Spec PyProof.Rows L2 TL
section
variable {prog : Program} {w : World} {A : Around} {E : Value → Shared → Prop} {s : Shared} {p C dx : Addr} {Q : Value → Shared → Prop}
theorem dec_int {i : Int} {t : Tok} (h : s.heap.get? p = some (PySem.W.instObj C dx)) (q : Q .notImplemented s) : wpAny (model prog w) A (call (.builtin "int.__eq__") [.int i t, .ref p]) Q E s := by
  refine GQ.call_here F.slot_int_eq (typeIs_int s i t) F.entry_int_eq (F.args_int_eq_2 _ _) ?_
  obtain ⟨hp, g, d, tk, os⟩ := s
  wp_walk using AutoSeq1.wpAny_loadPart' h
  exact q
theorem dec_str {i : Str} {t : Tok} (h : s.heap.get? p = some (PySem.W.instObj C dx)) (q : Q .notImplemented s) : wpAny (model prog w) A (call (.builtin "str.__eq__") [.str i t, .ref p]) Q E s := by
  refine GQ.call_here F.slot_str_eq (typeIs_str s i t) F.entry_str_eq (F.args_str_eq_2 _ _) ?_
  obtain ⟨hp, g, d, tk, os⟩ := s
  wp_walk using AutoSeq1.wpAny_loadPart' h
  exact q
theorem dec_none (q : Q .notImplemented s) : wpAny (model prog w) A (call (.builtin "NoneType.__eq__") [.none, .ref p]) Q E s := by
  refine GQ.call_here F.slot_NoneType_eq (show s.TypeIs .none "NoneType" from rfl) F.entry_NoneType_eq (F.args_NoneType_eq_2 _ _) ?_
  obtain ⟨hp, g, d, tk, os⟩ := s
  wp_walk
  exact q
theorem dec_list {l : Addr} (h : s.heap.get? p = some (PySem.W.instObj C dx)) (hl : ∃ o, s.heap.get? l = some o ∧ o.cls = .type "list") (hs : PySem.W.Looks (model prog w) s.heap (isSubtype (.ref C) (.type "list")) false) (q : Q .notImplemented s) : wpAny (model prog w) A (call (.builtin "list.__eq__") [.ref l, .ref p]) Q E s := by
  refine GQ.call_here F.slot_list_eq hl F.entry_list_eq (F.args_list_eq_2 _ _) ?_
  obtain ⟨hp, g, d, tk, os⟩ := s
  have sub : ∀ {A' : Around} {E' : Value → Shared → Prop} {Q' : Bool → Shared → Prop}, Q' false ⟨hp, g, d, tk, os⟩ → wpAny (model prog w) A' (isSubtype (.ref C) (.type "list")) Q' E' ⟨hp, g, d, tk, os⟩ := fun q => hs.here q
  wp_walk using AutoSeq1.wpAny_loadPart' h, sub
  exact q
theorem dec_tuple {l : Addr} (h : s.heap.get? p = some (PySem.W.instObj C dx)) (hl : ∃ o, s.heap.get? l = some o ∧ o.cls = .type "tuple") (hs : PySem.W.Looks (model prog w) s.heap (isSubtype (.ref C) (.type "tuple")) false) (q : Q .notImplemented s) : wpAny (model prog w) A (call (.builtin "tuple.__eq__") [.ref l, .ref p]) Q E s := by
  refine GQ.call_here F.slot_tuple_eq hl F.entry_tuple_eq (F.args_tuple_eq_2 _ _) ?_
  obtain ⟨hp, g, d, tk, os⟩ := s
  have sub : ∀ {A' : Around} {E' : Value → Shared → Prop} {Q' : Bool → Shared → Prop}, Q' false ⟨hp, g, d, tk, os⟩ → wpAny (model prog w) A' (isSubtype (.ref C) (.type "tuple")) Q' E' ⟨hp, g, d, tk, os⟩ := fun q => hs.here q
  wp_walk using AutoSeq1.wpAny_loadPart' h, sub
  exact q
/-- the left side declines, the right one has an own __eq__ -/
theorem cmp_refl {K : PySem.W.Frag} {h₀ : Heap} {L f : Addr} {m : Str → Option Value} {od : Option Obj} {ox : Obj} {a : Value} {Ta id : String} (hu : A.units < cLine) (F : Fr h₀ L s.heap m) (X₀ : K.In h₀) (I : PySem.W.InstAt s.heap p ox C od)
    (ha : s.TypeIs a Ta) (slot : Slot Ta (cmpInfo .Eq).2.1 id) (hsub : PySem.W.Looks (model prog w) s.heap (isSubtype (.ref C) (.type Ta)) false) (hs : PySem.W.findIn K (.ref C) (cmpInfo .Eq).2.2 = some (some (.ref f))) (hf : PySem.W.isFn K (.ref f) = true)
    (dec : wpAny (model prog w) A (call (.builtin id) [a, .ref p]) (fun v s' => v = .notImplemented ∧ s' = s) E s)
    (h : wpAny (model prog w) A (call (.ref f) [.ref p, a]) (PySem.W.CmpBack Q) E s) : wpAny (model prog w) A (richCompare .Eq a (.ref p)) Q E s := by
  have X := X₀.keeps F.keep
  have one : wpAny (model prog w) A (tryCompare (.ref p) (cmpInfo .Eq).2.2 a) (fun r s' => ∃ v, r = some v ∧ Q v s') E s := by
    unfold tryCompare
    refine wpAny_bind (PySem.W.ifBound_K X I hs hf (wpAny_mono h (fun v s' hv => ?_) fun _ _ e => e))
    cases v <;> first | exact hv.elim | exact wpAny_pure ⟨_, rfl, hv⟩
  unfold richCompare
  simp only [ha.oneThing_none]
  refine wpAny_holding (wpAny_bind (wpAny_cRoomFor hu ?_))
  refine wpAny_bind (wpAny_typeOf ha (wpAny_bind (I.type.here ?_)))
  rw [if_pos (show (Value.type Ta != Value.ref C) = true from rfl)]
  refine wpAny_bind (hsub.here ?_)
  simp only [Bool.false_eq_true, if_false, Bool.not_false, if_true]
  refine wpAny_bind (m := tryCompare a _ (.ref p)) (wpAny_tryCompare_declines ha slot (wpAny_mono dec (fun v s' z => ?_) fun _ _ e => e))
  obtain ⟨rfl, rfl⟩ := z
  refine ⟨rfl, ?_⟩
  refine wpAny_bind (wpAny_mono one (fun r s' z => ?_) fun _ _ e => e)
  obtain ⟨v, rfl, hq⟩ := z
  exact wpAny_pure hq
end
/-- a value of a built-in kind that declines -/
inductive LeftV (H : Hp) : V → Prop
  | non : LeftV H .non
  | int (i : Int) : LeftV H (.int i)
  | str (z : Str) : LeftV H (.str z)
  | lst {a : Addr} {xs : List V} (h : H a = some (.lst xs)) : LeftV H (.ref a)
  | tup {a : Addr} {xs : List V} (h : H a = some (.tup xs)) : LeftV H (.ref a)
section
variable {X : Cx}
def rEqR (C : Addr) (sp : Sp) (E : XK) : R2 := fun x y H Q => ∃ a dx fs, y = .ref a ∧ H a = some (.ins C dx fs) ∧ LeftV H x ∧ sp [y, x] H Q E
theorem op_eqR {CX : CXT} {k : Nat} {C f : Addr} {fd : FuncData} {ps : List Str} {sp : Sp} {E : XK} (Fn : FnOk X.prog X.w X.K X.mg X.base CX k f fd ps sp) (hr : Room k X.A)
    (no : ∀ T ∈ ["int", "str", "NoneType", "list", "tuple"], PySem.W.kitOne X.K (.ref C) (.type T) = some false)
    (hs : PySem.W.findIn X.K (.ref C) "__eq__" = some (some (.ref f))) (hf : PySem.W.isFn X.K (.ref f) = true) (hb : Binds X.K fd ps []) (hx : Passes CX X E) : OpR X (compareOp .Eq) (rEqR C sp E) := by
  intro pins s σ H x y v u Q I rx ry hq
  obtain ⟨a, dx, fs, rfl, ha, lv, hsp⟩ := hq
  cases ry
  obtain ⟨mA, O, _⟩ := ins_get I.hok ha
  obtain ⟨od, J, _⟩ := O.look
  obtain ⟨m, hF⟩ := I.fr
  show wpAny (model X.prog X.w) X.A (richCompare .Eq v (.ref a)) (EP X pins σ Q) X.xe s
  have sub : ∀ T ∈ ["int", "str", "NoneType", "list", "tuple"], PySem.W.Looks (model X.prog X.w) s.heap (isSubtype (.ref C) (.type T)) false := fun T hT => by
    have e := no T hT
    unfold PySem.W.kitOne at e
    have ne : (Value.ref C == Value.type T) = false := by rfl
    rw [ne, if_neg Bool.false_ne_true] at e
    exact (PySem.W.kit_cls I.kIn e).2.2
  have fin : wpAny (model X.prog X.w) X.A (call (.ref f) [.ref a, v]) (PySem.W.CmpBack (EP X pins σ Q)) X.xe s := by
    refine wpAny_mono (run_at Fn hr rfl hb hx I (.cons (show L2.RelV (V.ref a) (Value.ref a) from rfl) (.cons rx .nil)) hsp) (fun v s' hv => ?_) fun _ _ z => z
    cases v <;> first | exact hv | (obtain ⟨w, _, _, z, _⟩ := hv; exact (notImpl_no z).elim)
  have O' : s.heap.get? a = some (PySem.W.instObj C dx) := O.1
  cases lv with
  | non =>
    cases (show v = Value.none from rx)
    exact cmp_refl hr.units0 hF I.ok.mod.kin J (show s.TypeIs .none "NoneType" from rfl) F.slot_NoneType_eq (sub _ (by decide)) hs hf (dec_none ⟨rfl, rfl⟩) fin
  | int i =>
    obtain ⟨t, e⟩ := (show ∃ t, v = Value.int i t from rx)
    subst e
    exact cmp_refl hr.units0 hF I.ok.mod.kin J (typeIs_int s i t) F.slot_int_eq (sub _ (by decide)) hs hf (dec_int O' ⟨rfl, rfl⟩) fin
  | str i =>
    obtain ⟨t, e⟩ := (show ∃ t, v = Value.str i t from rx)
    subst e
    exact cmp_refl hr.units0 hF I.ok.mod.kin J (typeIs_str s i t) F.slot_str_eq (sub _ (by decide)) hs hf (dec_str O' ⟨rfl, rfl⟩) fin
  | @lst b xs h =>
    cases (show v = Value.ref b from rx)
    obtain ⟨its, r, hl, _⟩ := I.list (show SqL X.K H b xs from SqL.of h)
    obtain ⟨o, ho, hc, _⟩ := hl.isList
    have tl : ∃ o, s.heap.get? b = some o ∧ o.cls = .type "list" := ⟨_, ho, hc⟩
    exact cmp_refl hr.units0 hF I.ok.mod.kin J tl F.slot_list_eq (sub _ (by decide)) hs hf (dec_list O' tl (sub _ (by decide)) ⟨rfl, rfl⟩) fin
  | @tup b xs h =>
    cases (show v = Value.ref b from rx)
    obtain ⟨its, r, hl, _⟩ := I.tuple (show SqT X.K H b xs from SqT.of h)
    obtain ⟨o, ho, hc, _⟩ := hl
    have tl : ∃ o, s.heap.get? b = some o ∧ o.cls = .type "tuple" := ⟨_, ho, hc⟩
    exact cmp_refl hr.units0 hF I.ok.mod.kin J tl F.slot_tuple_eq (sub _ (by decide)) hs hf (dec_tuple O' tl (sub _ (by decide)) ⟨rfl, rfl⟩) fin
theorem op_or {op : Value → Value → Sem Value} {r1 r2 : R2} (h1 : OpR X op r1) (h2 : OpR X op r2) : OpR X op fun x y H Q => r1 x y H Q ∨ r2 x y H Q := fun pins s σ H x y v u Q I rx ry h => h.elim (h1 pins s σ H x y v u Q I rx ry) (h2 pins s σ H x y v u Q I rx ry)
theorem kx_eqOwn {K : PySem.W.Frag} (h : X.K = K) {CX : CXT} {k : Nat} {C f : Addr} {fd : FuncData} {ps : List Str} {sp : Sp} {E : XK} (F : FnOk X.prog X.w X.K X.mg X.base CX k f fd ps sp) (hr : Room k X.A)
    (hs : PySem.W.findIn X.K (.ref C) "__eq__" = some (some (.ref f))) (hf : PySem.W.isFn X.K (.ref f) = true) (hb : Binds X.K fd ps []) (hx : Passes CX X E) : OpR X (compareOp .Eq) (rEqOwn K C sp E) := by
  subst h
  exact op_eqOwn F hr hs hf hb hx
theorem kx_catT {K : PySem.W.Frag} (h : X.K = K) : OpR X (binaryOp .Add) (rCatT K) := by subst h; exact op_catT
end
end GS
/-! Texts of data where nothing is being shown (the guards are told); whole roots. -/
namespace GS
open PySem PySem.Spec PyProof.Rows L2
/-! ### whole roots -/
def rRoot : List V → Hp → VK → Prop := fun vs H Q => ∃ i : Int, vs = [.int i] ∧ 0 ≤ i ∧ i.toNat.log2 < 13000 ∧ ∀ r : Nat, r * r ≤ i.toNat → i.toNat < (r + 1) * (r + 1) → Q (.int (r : Int)) H
theorem cr_root {X : Cx} : CallR X (.builtin "math.isqrt") rRoot := by
  intro pins s σ H vs us Q I r h
  obtain ⟨i, rfl, h0, hz, q⟩ := h
  obtain ⟨u, rfl, t, rfl⟩ := vals1 r
  have sp := Float64.isqrt_spec i.toNat
  exact call_function_meets PySem.W.MGF.kind_isqrt PySem.W.MGF.plain_isqrt PySem.W.MGF.entry_isqrt (PySem.W.MGF.args_isqrt _) (PySem.W.mg_run_isqrt i t (by omega) (by omega) (by omega)).meets ⟨.int _, H, I.tok _, ⟨_, rfl⟩, q _ sp.1 sp.2⟩
/-! ### data -/
mutual
inductive Dat (K : PySem.W.Frag) (H : Hp) : V → PyData → Prop
  | non : Dat K H .non .none
  | bl (b : Bool) : Dat K H (.bl b) (.bool b)
  | int (i : Int) : Dat K H (.int i) (.int i)
  | str (x : Str) : Dat K H (.str x) (.str x)
  | lst {a : Addr} {xs : List V} {ds : List PyData} : SqL K H a xs → Dats K H xs ds → Dat K H (.ref a) (.list ds)
  | tup {a : Addr} {xs : List V} {ds : List PyData} : SqT K H a xs → Dats K H xs ds → Dat K H (.ref a) (.tuple ds)
inductive Dats (K : PySem.W.Frag) (H : Hp) : List V → List PyData → Prop
  | nil : Dats K H [] []
  | cons {x : V} {xs : List V} {d : PyData} {ds : List PyData} : Dat K H x d → Dats K H xs ds → Dats K H (x :: xs) (d :: ds)
end
section
variable {X : Cx} {pins : List (Addr × Obj)} {σ : L2.St} {H : Hp} {s : Shared}
mutual
theorem Dat.reads (I : Inv X pins σ H s) : ∀ {x : V} {d : PyData}, Dat X.K H x d → ∀ {v : Value}, RelV x v → ∃ as, Reads s.heap v d as
  | _, _, .non, v, r => ⟨[], by cases (show v = Value.none from r); exact .none⟩
  | _, _, .bl b, v, r => ⟨[], by cases (show v = Value.bool b from r); exact .bool b⟩
  | _, _, .int i, v, r => ⟨[], by obtain ⟨t, e⟩ := (show ∃ t, v = Value.int i t from r); cases e; exact .int i t⟩
  | _, _, .str x, v, r => ⟨[], by obtain ⟨t, e⟩ := (show ∃ t, v = Value.str x t from r); cases e; exact .str x t⟩
  | _, _, .lst (a := a) hs hd, v, r => by
    cases (show v = Value.ref a from r)
    obtain ⟨its, rv, ⟨o, n, e, hc, _, ho⟩, _⟩ := I.list hs
    obtain ⟨as, ra⟩ := Dats.reads I hd rv
    exact ⟨_, .list e hc ho ra⟩
  | _, _, .tup (a := a) hs hd, v, r => by
    cases (show v = Value.ref a from r)
    obtain ⟨its, rv, ⟨o, e, hc, n, ho⟩, _⟩ := I.tuple hs
    obtain ⟨as, ra⟩ := Dats.reads I hd rv
    exact ⟨_, .tuple e hc ho ra⟩
theorem Dats.reads (I : Inv X pins σ H s) : ∀ {xs : List V} {ds : List PyData}, Dats X.K H xs ds → ∀ {us : List Value}, Vals xs us → ∃ as, ReadsAll s.heap us ds as
  | _, _, .nil, us, r => by cases r; exact ⟨_, .nil⟩
  | _, _, .cons hx ht, us, r => by
    cases r with
    | cons r1 r2 =>
      obtain ⟨a1, k1⟩ := Dat.reads I hx r1
      obtain ⟨a2, k2⟩ := Dats.reads I ht r2
      exact ⟨_, .cons k1 k2⟩
end
end
theorem Dats.ints {K : PySem.W.Frag} {H : Hp} : ∀ ns : List Int, Dats K H (ns.map V.int) (ns.map PyData.int)
  | [] => .nil
  | n :: ns => .cons (.int n) (Dats.ints ns)
theorem Dats.bools {K : PySem.W.Frag} {H : Hp} : ∀ ns : List Bool, Dats K H (ns.map V.bl) (ns.map PyData.bool)
  | [] => .nil
  | n :: ns => .cons (.bl n) (Dats.bools ns)
/-- repr(x), x any list or tuple of data -/
def rShow (K : PySem.W.Frag) : List V → Hp → VK → Prop := fun vs H Q => ∃ (a : Addr) (d : PyData), vs = [.ref a] ∧ Dat K H (.ref a) d ∧ d.showable = true ∧ d.hasDict = false ∧ d.shown.length ≤ sizeLine ∧ d.depth ≤ 60 ∧ Q (.str d.shown) H
theorem cr_show {X : Cx} (hg : X.A.guards = some []) (hu : X.A.units + 64 < cLine) : CallR X (.builtin "repr") (rShow X.K) := by
  intro pins s σ H vs us Q I r h
  obtain ⟨a, d, rfl, hd, h1, h2, h3, h4, q⟩ := h
  obtain ⟨u, rfl, rv⟩ := vals1 r
  cases (show u = Value.ref a from rv)
  obtain ⟨as, rd⟩ := hd.reads I (v := .ref a) rfl
  exact repr_of_reads' rd h1 (fun z => by rw [h2] at z; cases z) hg (by omega) (fun _ _ e => e) (fun h' u tk k => ⟨.str d.shown, H, I.kept k, ⟨u, rfl⟩, q⟩) h3
/-- two texts of data are alike where the data are -/
theorem show_eq {d e : PyData} (h : d = e) : d.shown = e.shown := by rw [h]
end GS
/-! Defs that are called where nothing is being shown. -/
namespace GS
open PySem PySem.Spec PyProof.Rows L2
/-- what a def keeps to, where nothing is being shown -/
structure FnG (P : Program) (w : World) (K : PySem.W.Frag) (mg : PySem.Str → Option Value) (base : Heap) (CX : CXT) (k : Nat) (f : Addr) (fd : FuncData) (ps : List PySem.Str) (sp : Sp) : Prop where
  wide : ∀ vs H Q E, sp vs H Q E → vs.length = ps.length
  goes : ∀ (A : Around), A.guards = some [] → Room k A → ∀ (outer : List Env) (s : Shared) (H : Hp) (args : Args) (us : List Value) (vs : List V) (Q : VK) (E : XK),
    Env0 P w K mg base A outer s H → BindsTo s fd args (ps.zip us) → Vals vs us → sp vs H Q E → codeAny (model P w) A (.call (.ref f) args) (CR CX outer P w H s Q E) s
section
variable {P : Program} {w : World} {K : PySem.W.Frag} {mg : PySem.Str → Option Value} {base : Heap} {CX : CXT} {k : Nat} {f : Addr} {fd : FuncData} {ps : List PySem.Str} {sp : Sp}
theorem FnG.of (F : FnOk P w K mg base CX k f fd ps sp) : FnG P w K mg base CX k f fd ps sp :=
  ⟨F.len, fun A _ room outer s H args us vs Q E e b v q => F.run A outer s H args us vs Q E room e b v q⟩
theorem guards_deeper {A : Around} {env : Env} (h : A.guards = some []) : (A.deeper env).guards = some [] := h
theorem end_of {A : Around} {outer : List Env} {s : Shared} {H : Hp} {E : XK} {cx : Cx} {Q : VK} (e1 : cx.s_0 = s) (e2 : cx.H_0 = H) (e3 : cx.prog = P) (e4 : cx.w = w) (e5 : cx.fs = frs outer) (e6 : cx.ex = []) {σ' : L2.St} {H' : Hp} {s' : Shared} {v : V} {u : Value}
    (J : Inv cx [] σ' H' s') (rv : RelV v u) (q : Q v H') : CE outer P w H s Q u s' := by
  subst e1 e2 e3 e4
  refine ⟨v, H', J.os, J.bare, ?_, J.hok, rv, q⟩
  have b := J.base
  rw [e5, e6] at b
  exact b
theorem okG {x qual : PySem.Str} {params : Arguments} {body : List Stmt} {scope : Scope} {dvs : List V} {kws : List (PySem.Str × V)} {N : List PySem.Str} (F : FunD K x qual params body scope dvs kws f fd) (S : FnScope N ps scope) (wide : ∀ vs H Q E, sp vs H Q E → vs.length = ps.length)
    (text : ∀ (cdv : Value) (A : Around) (outer : List Env) (s : Shared) (H : Hp) (vs : List V) (Q : VK) (E : XK), A.guards = some [] → Room k (A.deeper (envOfC qual scope s.heap.objs.size f cdv)) → sp vs H Q E →
      ∃ t, PSs (cxOf CX P w K mg base N qual scope f cdv A outer s H E) body t ∧ t { nx := fun _ H' => Q .non H', rt := Q } (start N vs) H) : FnG P w K mg base CX (k + 1) f fd ps sp := by
  obtain ⟨oc, od, dV, kV, doc, pm, an, cdv, ct, osl, rfl, known, code, -, -⟩ := F.ex
  refine ⟨wide, fun A quiet room outer s H args us vs Q E e bind same want => ?_⟩
  have stays : ∀ b o, base.get? b = some o → s.heap.get? b = some o := fun b o z => (e.bs b o z).1
  have inK : K.In s.heap := e.mod.kin.keeps stays
  have free : s.heap.NoLimit := e.mod.nolimit.keeps stays
  refine codeAny_call_function room.depth (inK _ _ known) rfl S.co S.gen rfl (PySem.W.codeRec_of inK code) (bind _ _ _ _ ?_)
  refine wpAny_newFunctionEnv_cells S.kind ?slots fun env made s1 laid => ?run
  case slots =>
    intro y hy
    obtain ⟨n, v⟩ := y
    have hn := (List.of_mem_zip hy).1
    cases S.par n hn with
    | inl z => exact .inl z
    | inr z => exact .inr ⟨z, PySem.W.cellsFrom_some _ _ _ (.inl z)⟩
  case run =>
    subst made
    refine ⟨free.keeps laid.toInCall.keep, codeAny_func ?_⟩
    obtain ⟨t, reads, goal⟩ := text cdv A outer s H vs Q E quiet (room.deeper _) want
    have begun := inv_start (CX := CX) (E := E) S room.hd e (wide _ _ _ _ want) same laid
    refine wpAny_mono (reads.run [] s1 (start N vs) H _ begun goal) (fun way s' z => ?_) fun err s' z => z
    match way, z with
    | .ret u, ⟨v, σ', H', J, rv, q⟩ => exact end_of (A := A) (E := E) rfl rfl rfl rfl rfl rfl J rv q
    | .next, ⟨σ', H', J, q⟩ => exact end_of (A := A) (E := E) (v := V.non) (u := Value.none) rfl rfl rfl rfl rfl rfl J rfl q
    | .brk, ⟨_, _, _, q⟩ => exact False.elim q
    | .cont, ⟨_, _, _, q⟩ => exact False.elim q
end
section
variable {X : Cx} {CX : CXT} {k : Nat} {f : Addr} {fd : FuncData} {ps : List PySem.Str} {sp : Sp} {dvs : List V} {ds : List Value} {E : XK} {x : PySem.Str} {p pos : Pos} {e : Expr} {es : List Expr} {t : TA}
theorem goes_fn {pins : List (Addr × Obj)} {σ : L2.St} {H : Hp} {s : Shared} {Q : VK} {us : List Value} {vs : List V} (F : FnG X.prog X.w X.K X.mg X.base CX k f fd ps sp) (quiet : X.A.guards = some []) (room : Room k X.A) (hb : Binds X.K fd ps ds) (hd : Vals dvs ds) (out : Passes CX X E)
    (I : Inv X pins σ H s) (r : Vals vs us) (want : sp (vs ++ dvs) H Q E) : wpAny (model X.prog X.w) X.A (call (.ref f) us) (EP X pins σ Q) X.xe s := by
  have all := r.append hd
  have many : (us ++ ds).length = ps.length := all.length ▸ F.wide _ _ _ _ want
  refine wpAny_call (codeAny_mono (F.goes X.A quiet room X.stack s H ⟨us, []⟩ (us ++ ds) (vs ++ dvs) Q E I.env0 (hb s us I.kIn many) all want) fun res s' z => ?_)
  match res, z with
  | .error err, z => exact out pins σ H s err s' I z
  | .ok (.ret u), z => exact I.after z
  | .ok .next, z => exact False.elim z
  | .ok .brk, z => exact False.elim z
  | .ok .cont, z => exact False.elim z
theorem pe_callG (F : FnG X.prog X.w X.K X.mg X.base CX k f fd ps sp) (quiet : X.A.guards = some []) (room : Room k X.A) (hg : Gl X x) (hm : X.mg x = some (.ref f)) (hk : PySem.W.keepIn X.K (.ref f) = true) (hb : Binds X.K fd ps ds) (hd : Vals dvs ds) (out : Passes CX X E)
    (ha : PA X (e :: es) t) (hdb : (x == ("__debug__" : PySem.Str)) = false := by decide) (he : starEach (e :: es) X.env = (false, eval e X.env) :: starEach es X.env := by rfl) (hpl : (backTo pos (starEach es X.env)).any (·.1) = false := by rfl) :
    PE X (.Call (.Name x p) (e :: es) [] pos) (tCall sp dvs E t) :=
  ⟨fun pins s σ H Q I h => wpAny_Call_Name_kw (ld_glob I hg hm (PySem.W.callWith_K (h₀ := X.base) I.ok.mod.kin hk (thn (ha.run pos pins s σ H _ I h) fun us s1 ⟨vs, H1, I1, r, q⟩ => ⟨I1.kIn, goes_fn F quiet room hb hd out I1 r q⟩) he hpl) hdb)⟩
theorem pe_callG0 (F : FnG X.prog X.w X.K X.mg X.base CX k f fd ps sp) (quiet : X.A.guards = some []) (room : Room k X.A) (hg : Gl X x) (hm : X.mg x = some (.ref f)) (hk : PySem.W.keepIn X.K (.ref f) = true) (hb : Binds X.K fd ps ds) (hd : Vals dvs ds) (out : Passes CX X E)
    (hdb : (x == ("__debug__" : PySem.Str)) = false := by decide) : PE X (.Call (.Name x p) [] [] pos) (tCall sp dvs E tNil) :=
  ⟨fun pins s σ H Q I h => wpAny_Call_Name_kw (ld_glob I hg hm (PySem.W.callWith_K0 I.kIn hk (goes_fn (us := []) F quiet room hb hd out I .nil h)) hdb)⟩
end
end GS
/-! The law's own call, where nothing is being shown; tables of code objects. -/
namespace GS
open PySem PySem.Spec PyProof.Rows L2 LamX
open Classical in
/-- what is tracked ahead of the law: the tables, the script -/
noncomputable def Ahead (K : PySem.W.Frag) (a : Addr) (L : Obj) (cs : List (Addr × Addr)) (ns : List Int) : Hp := fun b =>
  if b ∈ cs.map (·.2) then some (.tbl #[]) else if b = a ∧ K.lookup a = none then some (.frz L (.lst (ns.map V.int))) else none
section
variable {P : Program} {w : World} {K : PySem.W.Frag} {mg mb : PySem.Str → Option Value} {a : Addr} {cs : List (Addr × Addr)} {s₁ : Shared} {vs : List Value} {ns : List Int}
theorem ahead_tab {L : Obj} {b : Addr} (h : b ∈ cs.map (·.2)) : Ahead K a L cs ns b = some (.tbl #[]) := by unfold Ahead; rw [if_pos h]
theorem ahead_is {L : Obj} (b : Addr) : Ahead K a L cs ns b = none ∨ (b ∈ cs.map (·.2) ∧ Ahead K a L cs ns b = some (.tbl #[])) ∨ (b = a ∧ K.lookup a = none ∧ Ahead K a L cs ns b = some (.frz L (.lst (ns.map V.int)))) := by
  unfold Ahead
  split
  · rename_i h; exact .inr (.inl ⟨h, rfl⟩)
  · split
    · rename_i h; exact .inr (.inr ⟨h.1, h.2, rfl⟩)
    · exact .inl rfl
theorem scene (KX : K.In s₁.heap) (hns : s₁.heap.Ns mainGlobals mg) (hb : s₁.heap.Ns builtinsNs mb) (hbb : ∀ x : PySem.Str, x ≠ "__name__" → mb x = bootBuiltins x) (lim : s₁.heap.NoLimit) (calm : s₁.gens = #[])
    (tabs : ∀ p ∈ cs, s₁.heap.get? p.2 = some { cls := .none, data := .fields #[] }) (notK : ∀ p ∈ cs, K.lookup p.2 = none) (codes : ∀ p ∈ cs, PySem.W.CodeHd s₁.heap p.1 p.2)
    (blt : cs ≠ [] → ∃ (bm : Addr) (ob : Obj), mg "__builtins__" = some (.ref bm) ∧ bm ≠ builtinsNs ∧ s₁.heap.get? bm = some ob ∧ ob.cls = .type "module" ∧ ob.dict = some builtinsNs ∧ ob.data = .plain)
    (isL : s₁.heap.get? a = some { cls := .type "list", data := .seq vs.toArray }) (isI : IntsAre vs ns) (short : ns.length ≤ sizeLine) :
    ∃ (H : Hp) (base : Heap), (∀ p ∈ cs, H p.2 = some (.tbl #[])) ∧ SqL K H a (ns.map V.int) ∧ K.In base ∧ base.Ns mainGlobals mg ∧ (∀ p ∈ cs, TabB base mg p.1 p.2) ∧ Env0 P w K mg base callerA [] s₁ H ∧
      ∀ u s', CE [] P w H s₁ (fun v _ => v = .bl true) u s' → u = Value.bool true ∧ OldK s₁.heap s'.heap ∧ s'.os = s₁.os ∧ AllBare s'.gens := by
  have same := vals_ints isI
  have long := isI.length
  have tabAt : ∀ b, b ∈ cs.map (·.2) → s₁.heap.get? b = some { cls := .none, data := .fields #[] } := by
    intro b z
    obtain ⟨p, m, rfl⟩ := List.mem_map.mp z
    exact tabs p m
  have aNot : a ∉ cs.map (·.2) := by
    intro z
    have e := tabAt a z
    rw [isL] at e
    injection e with e
    injection e with _ _ e
    cases e
  let H := Ahead K a { cls := .type "list", data := .seq vs.toArray } cs ns
  have free : ∀ (b : Addr) (o : Obj), s₁.heap.get? b = some o → (∀ l n, o.data ≠ .seq l n) → o.data ≠ .fields #[] → H b = none := by
    intro b o e n1 n2
    rcases ahead_is (K := K) (a := a) (cs := cs) (ns := ns) (L := { cls := .type "list", data := .seq vs.toArray }) b with z | ⟨z, -⟩ | ⟨rfl, -, -⟩
    · exact z
    · rw [tabAt b z] at e
      injection e with e
      exact absurd (congrArg Obj.data e).symm n2
    · rw [isL] at e
      injection e with e
      exact absurd (congrArg Obj.data e).symm (n1 _ _)
  have hide : ∀ (b : Addr) (o : Obj), s₁.heap.get? b = some o → (∀ l n, o.data ≠ .seq l n) → o.data ≠ .fields #[] → (hidT s₁.heap H).get? b = some o := fun b o e n1 n2 => hidT_get e (free b o e n1 n2)
  have names : ∀ (b : Addr) (m : PySem.Str → Option Value), s₁.heap.Ns b m → (hidT s₁.heap H).Ns b m := by
    intro b m ⟨o, es, ep, e, d, r⟩
    exact ⟨o, es, ep, hide b o e (fun l n z => by rw [d] at z; cases z) (fun z => by rw [d] at z; cases z), d, r⟩
  have inK : K.In (hidT s₁.heap H) := by
    intro b o e
    refine hidT_get (KX b o e) ?_
    rcases ahead_is (K := K) (a := a) (cs := cs) (ns := ns) (L := { cls := .type "list", data := .seq vs.toArray }) b with z | ⟨z, -⟩ | ⟨rfl, z, -⟩
    · exact z
    · obtain ⟨p, m, rfl⟩ := List.mem_map.mp z
      rw [notK p m] at e
      cases e
    · rw [z] at e
      cases e
  have hok : HOk P w H s₁.heap := by
    intro b o e
    rcases ahead_is (K := K) (a := a) (cs := cs) (ns := ns) (L := { cls := .type "list", data := .seq vs.toArray }) b with z | ⟨z, q⟩ | ⟨rfl, -, q⟩
    · have e' := z.symm.trans e
      cases e'
    · have e' := q.symm.trans e
      cases e'
      exact tabAt b z
    · have e' := q.symm.trans e
      cases e'
      exact ⟨isL, by simpa using short, vs, _, same, isL⟩
  refine ⟨H, hidT s₁.heap H, fun p m => ahead_tab (List.mem_map.mpr ⟨p, m, rfl⟩), ?_, inK, names _ _ hns, ?_, ?_, ?_⟩
  · cases z : K.lookup a with
    | some o =>
      have e := KX a o z
      rw [isL] at e
      cases e
      exact .inr ⟨_, vs.toArray, _, z, rfl, rfl, rfl, by rw [List.size_toArray, long]; exact short, by simpa using same⟩
    | none => exact .inl (.inr ⟨_, by show Ahead _ _ _ _ _ a = _; unfold Ahead; rw [if_neg aNot, if_pos ⟨rfl, z⟩]⟩)
  · intro p m
    have here := tabs p m
    obtain ⟨bm, ob, b1, b2, b3, b4, b5, b6⟩ := blt (List.ne_nil_of_mem m)
    obtain ⟨og, es, ep, eg, dg, -⟩ := hns
    refine ⟨?_, ⟨bm, ob, b1, b2, ?_, ?_, hide bm ob b3 (fun l n z => by rw [b6] at z; cases z) (fun z => by rw [b6] at z; cases z), b4, b5, b6⟩, ?_⟩
    · obtain ⟨o, us, file, tf, flags, tg, inF, text, tt, e1, r1, r2, r3, r4⟩ := codes p m
      refine ⟨o, us, file, tf, flags, tg, inF, text, tt, hide p.1 o e1 (fun l n z => by rw [r2] at z; cases z) (fun z => ?_), r1, r2, r3, r4⟩
      rw [r2] at z
      cases z
      simp at r3
    · intro z
      rw [z, eg] at b3
      cases b3
      rw [dg] at b6
      cases b6
    · intro z
      rw [z, here] at b3
      cases b3
      cases b6
    · intro z
      rw [z, here] at eg
      cases eg
      cases dg
  · exact ⟨rfl, ⟨inK, names _ _ hns, ⟨mb, names _ _ hb, hbb⟩, let ⟨mc, l1, l2⟩ := lim; ⟨mc, names _ _ l1, l2⟩⟩, fun b o e => of_hidT e, Nat.le_of_eq (hidT_size _ _), trivial, fun b z => absurd z (by simp [frs]), hok, .of_eq calm⟩
  · intro u s' ⟨v, H', os, bare, un, hok', rv, q⟩
    have q' : v = .bl true := q
    subst q'
    have ru : u = Value.bool true := rv
    have kept : ∀ b o, b ∉ cs.map (·.2) → s₁.heap.get? b = some o → s'.heap.get? b = some o := by
      intro b o nb e
      rcases ahead_is (K := K) (a := a) (cs := cs) (ns := ns) (L := { cls := .type "list", data := .seq vs.toArray }) b with z | ⟨z, -⟩ | ⟨rfl, -, z⟩
      · exact un.keep b o e z (by simp [frs]) (by simp)
      · exact absurd z nb
      · have e2 := (hok' b _ (un.frzs b _ _ z)).1
        rw [isL] at e
        cases e
        exact e2
    have more : ∀ p ∈ cs, ∃ l : Array Value, s'.heap.get? p.2 = some { cls := .none, data := .fields l } := by
      intro p m
      obtain ⟨l, z⟩ := un.tbls p.2 #[] (ahead_tab (List.mem_map.mpr ⟨p, m, rfl⟩))
      exact ⟨_, hok' p.2 _ z⟩
    refine ⟨ru, ⟨fun b o e => ?_, fun b o e => ?_⟩, os, bare⟩
    · by_cases z : b ∈ cs.map (·.2)
      · obtain ⟨p, m, rfl⟩ := List.mem_map.mp z
        obtain ⟨l, g⟩ := more p m
        rw [tabs p m] at e
        cases e
        exact .inr (.inl ⟨((codes p m).tab (tabs p m)).isCodeTable, rfl, #[], l, rfl, by rw [Array.empty_append]; exact g⟩)
      · exact .inl (kept b o z e)
    · by_cases z : b ∈ cs.map (·.2)
      · obtain ⟨p, m, rfl⟩ := List.mem_map.mp z
        obtain ⟨l, g⟩ := more p m
        exact ⟨_, g⟩
      · exact ⟨o, kept b o z e⟩
end
end GS
/-! The end of a law's row whose def is proved where nothing is being shown. -/
namespace GS
open PySem PySem.Spec PyProof.Rows L2 LamX
theorem none_out {P : Program} {w : World} {H : Hp} {s s' : Shared} {e : Value} (c : L2.CX P w [] H s (fun _ _ _ => False) e s') : False := by
  obtain ⟨a, B, H', cls, d, -, -, -, -, -, -, -, z⟩ := c
  exact z
/-- the end: the script's bits are told, no guard stands, cs are the code objects with a table (none where the law makes no lambda) -/
theorem end_show {l : PySem.W.OpenLaw} {k n : Nat} {q : Program} {loose : List PySem.Str} {XP : (PySem.Str → Option Value) → Heap → Prop} {YP : World → Heap → Prop} {d : DefRec} {x : PySem.Str} (most : l.most = some n) (line : n ≤ sizeLine) (plain : d.params.defaults = []) (room : Room k callerA)
    (F : ∀ (w : World) (mg : PySem.Str → Option Value) (fa : Addr) (h : Heap), YP w h → h.Ns mainGlobals mg → mg d.name = some (.ref fa) → ∃ (K : PySem.W.Frag) (fd : FuncData) (cs : List (Addr × Addr)) (sp : Sp), K.In h ∧
      (∀ p ∈ cs, h.get? p.2 = some { cls := .none, data := .fields #[] }) ∧ (∀ p ∈ cs, K.lookup p.2 = none) ∧ (∀ p ∈ cs, PySem.W.CodeHd h p.1 p.2) ∧ (∀ (s : Shared) (u : Value), BindsTo s fd ⟨[u], []⟩ [(x, u)]) ∧
      (∀ (H : Hp) (a : Addr) (ns : List Int), ns.length ≤ n → (∀ z ∈ ns, Builtin.Int.intBits z ≤ 1048576) → (∀ p ∈ cs, H p.2 = some (.tbl #[])) → SqL K H a (ns.map V.int) → sp [.ref a] H (fun v _ => v = .bl true) fun _ _ _ => False) ∧
      ∀ base : Heap, K.In base → base.Ns mainGlobals mg → (∀ p ∈ cs, TabB base mg p.1 p.2) → FnG l.prog w K mg base (L2.CX l.prog w) k fa fd [x] sp) :
    PySem.W.WalkO q loose XP YP l.row.toRowW d [] (fun f vs => PySem.call f vs) := by
  refine Att.attach_callB most plain fun w s₀ s₁ mg mb fa o pm cd doc a vs ns Gr Yp _ _ _ named there numb short bits gens => ?_
  obtain ⟨K, fd, cs, sp, KX, tabs, notK, codes, binds, goes, ok⟩ := F w mg fa _ Yp Gr.T.g named
  obtain ⟨H, base, ht, hs, inK, ns', tb, e0, ends⟩ := scene (P := l.prog) (w := w) KX Gr.T.g Gr.T.b Gr.T.builtins Gr.T.nolimit gens tabs notK codes (fun _ => Gr.T.bmain) there numb (Nat.le_trans short line)
  refine codeAny_mono ((ok base inK ns' tb).goes callerA rfl room [] s₁ H ⟨[.ref a], []⟩ [.ref a] [.ref a] _ _ e0 (binds s₁ (.ref a)) (.cons rfl .nil) (goes H a ns short bits ht hs)) fun r s' z => ?_
  match r, z with
  | .error e, z => exact (none_out z).elim
  | .ok (.ret u), z =>
    obtain ⟨ru, r2⟩ := ends u s' z
    exact ⟨by rw [ru], r2⟩
  | .ok .next, z => exact False.elim z
  | .ok .brk, z => exact False.elim z
  | .ok .cont, z => exact False.elim z
end GS
/-! A text times an integer; sorted(..), tuple(..) within a comprehension. -/
namespace GS
open PySem PySem.Spec PyProof.Rows L2
def rMulS : V → V → Hp → VK → Prop := fun x y H Q => ∃ (z : PySem.Str) (n : Int), x = .str z ∧ y = .int n ∧ MulOk z n ∧ Q (.str (Txt.mul z n)) H
theorem op_mulS {X : Cx} : OpR X (binaryOp .Mult) rMulS := by
  intro pins s σ H x y v u Q I rx ry h
  obtain ⟨z, n, rfl, rfl, ok, q⟩ := h
  obtain ⟨t, rfl⟩ := rx
  obtain ⟨t', rfl⟩ := ry
  exact SB.mul ok fun t' k => ⟨.str _, H, I.tok _, ⟨_, rfl⟩, q⟩
theorem mulOk_small {z : PySem.Str} {n : Int} (h0 : 1 ≤ n) (h1 : n ≤ 100000) (h2 : z.length ≤ 100) : MulOk z n := by
  refine ⟨?_, fun _ _ => ?_, fun _ _ => ?_⟩
  · rw [decide_eq_false (by omega), decide_eq_false (by omega)]; rfl
  · have : (100 : Int) ≤ (2 ^ 63 - 1) / n := by
      rw [Int.le_ediv_iff_mul_le (by omega)]
      omega
    omega
  · have e : n.toNat ≤ 100000 := by omega
    have : z.length * n.toNat ≤ 100 * 100000 := Nat.mul_le_mul h2 e
    unfold Builtin.Str.tooLong
    simp
    have : (100 * 100000 : Nat) ≤ sizeLine := by decide
    omega
theorem kx_tupOf {X : Cx} {K : PySem.W.Frag} (h : X.K = K) : CallR X (.type "tuple") (fun xs H Q => ∃ p ys, xs = [.ref p] ∧ ((SqL K H p ys ∧ ∀ l, H l = none → Q (.ref l) (upd H l (.tup ys))) ∨ (SqT K H p ys ∧ Q (.ref p) H))) := by subst h; exact call_tuple_of
theorem kx_sortI {X : Cx} {K : PySem.W.Frag} (h : X.K = K) : CallR X (.builtin "sorted") (rSortedI K) := by subst h; exact cr_sortedI
end GS
/-! sum, factorial, comb; xs[k::-1]; two ways of a call. -/
namespace GS
open PySem PySem.Spec PyProof.Rows L2
theorem kx_sum {X : Cx} {K : PySem.W.Frag} (h : X.K = K) (hc : X.calm = true) : CallR X (.builtin "sum") (rSum K) := by subst h; exact cr_sum hc
theorem kx_max {X : Cx} {K : PySem.W.Frag} (h : X.K = K) (hc : X.calm = true) : CallR X (.builtin "max") (rMax K) := by subst h; exact cr_max hc
theorem kx_piseq {X : Cx} {K : PySem.W.Frag} (h : X.K = K) {tg l : Expr} {tl : TE} (hl : PE X l tl) : PI X tg l (iSeq K tl) := by subst h; exact pi_seq hl
theorem kx_pilist {X : Cx} {K : PySem.W.Frag} (h : X.K = K) {tg l : Expr} {tl : TE} (hl : PE X l tl) : PI X tg l (iList K tl) := by subst h; exact pi_list hl
theorem kx_pitup {X : Cx} {K : PySem.W.Frag} (h : X.K = K) {tg l : Expr} {tl : TE} (hl : PE X l tl) : PI X tg l (iTup K tl) := by subst h; exact pi_tup hl
def rFac : List V → Hp → VK → Prop := fun vs H Q => ∃ n : Nat, vs = [.int n] ∧ n ≤ 20000 ∧ Q (.int (Builtin.Math.factorialNat n : Nat)) H
theorem cr_fac {X : Cx} : CallR X (.builtin "math.factorial") rFac := by
  intro pins s σ H vs us Q I r h
  obtain ⟨n, rfl, hn, q⟩ := h
  obtain ⟨t, rfl⟩ : ∃ t, us = [.int (n : Int) t] := by
    cases r with
    | cons a b => cases b; obtain ⟨t, rfl⟩ := a; exact ⟨t, rfl⟩
  refine PySem.W.mc_factorial (by omega) (by omega) fun _ => ⟨.int _, H, I.tok _, ⟨_, rfl⟩, ?_⟩
  rw [Int.toNat_natCast]
  exact q
def rComb : List V → Hp → VK → Prop := fun vs H Q => ∃ a b : Int, vs = [.int a, .int b] ∧ 0 ≤ a ∧ 0 ≤ b ∧ a ≤ 18000 ∧ Q (.int (PySem.W.mcComb a b)) H
theorem cr_comb {X : Cx} : CallR X (.builtin "math.comb") rComb := by
  intro pins s σ H vs us Q I r h
  obtain ⟨a, b, rfl, h1, h2, h3, q⟩ := h
  obtain ⟨t, u, rfl⟩ := Vals.int2 r
  exact PySem.W.mc_comb h1 h2 (by omega) (.inr h3) fun _ => ⟨.int _, H, I.tok _, ⟨_, rfl⟩, q⟩
/-- a call that goes one of two ways -/
theorem cr_two {X : Cx} {f : Value} {r1 r2 : List V → Hp → VK → Prop} (h1 : CallR X f r1) (h2 : CallR X f r2) : CallR X f (fun xs H Q => r1 xs H Q ∨ r2 xs H Q) := by
  intro pins s σ H vs us Q I r h
  rcases h with h | h
  · exact h1 pins s σ H vs us Q I r h
  · exact h2 pins s σ H vs us Q I r h
theorem rev_bounds (n m : Nat) : sliceBounds (some (n : Int)) none (some (-1)) m = (((min (n + 1) m : Nat) : Int) - 1, -1, -1) := by
  unfold sliceBounds
  simp
  omega
theorem rev_pick (items : Array Value) (n : Nat) : slicePick items (some (n : Int)) none (some (-1)) = (items.toList.take (n + 1)).reverse.toArray := by
  unfold slicePick
  rw [rev_bounds]
  show ((sliceRange (((min (n + 1) items.size : Nat) : Int) - 1) (-1) (-1)).filterMap (items[·]?)).toArray = _
  rw [PySem.W.krv_sliceRange, PySem.W.krv_range, List.filterMap_reverse]
  congr 2
  have h := PySem.W.krv_all ((items.toList.take (n + 1)).toArray)
  simp only [List.size_toArray, List.length_take, Array.length_toList] at h
  rw [show items.size = items.toList.length from rfl] at h ⊢
  rw [← h]
  have key : ∀ (l : List Nat), (∀ i ∈ l, i < min (n + 1) items.toList.length) → l.filterMap (items[·]?) = l.filterMap ((items.toList.take (n + 1)).toArray[·]?) := by
    intro l
    induction l with
    | nil => intro _; rfl
    | cons i l ih =>
      intro hl
      have hi := hl i (by simp)
      have e : items[i]? = (items.toList.take (n + 1)).toArray[i]? := by
        have hn : i < n + 1 := by omega
        simp [List.getElem?_take, hn]
      rw [List.filterMap_cons, List.filterMap_cons, e, ih fun k hk => hl k (by simp [hk])]
  exact key _ fun i hi => List.mem_range.mp hi
def tRevF (K : PySem.W.Frag) (te tl : TE) : TE := fun σ H Q => te σ H fun x H1 => tl σ H1 fun i H2 => ∃ z : Int, i = .int z ∧ ∃ (a : Addr) (xs : List V) (n : Nat), x = .ref a ∧ z = n ∧ SqL K H2 a xs ∧ ∀ p, H2 p = none → Q (.ref p) (upd H2 p (.lst (xs.take (n + 1)).reverse))
theorem r_revF {K : PySem.W.Frag} {te tl : TE} {σ : L2.St} {H : Hp} {Q : VK} (q : te σ H fun x H1 => tl σ H1 fun i H2 => ∃ z : Int, i = .int z ∧ ∃ (a : Addr) (xs : List V) (n : Nat), x = .ref a ∧ z = n ∧ SqL K H2 a xs ∧ ∀ p, H2 p = none → Q (.ref p) (upd H2 p (.lst (xs.take (n + 1)).reverse))) : tRevF K te tl σ H Q := q
theorem pe_revF {X : Cx} {K : PySem.W.Frag} (hK : X.K = K) {e lo : Expr} {te tl : TE} {k : Nat} {p1 p2 p3 pos : Pos} (he : PE X e te) (hl : PE X lo tl) : PE X (.Subscript e (.Slice (some lo) none (some (.UnaryOp .USub (.Constant (.int 1) k p1) p2)) p3) pos) (tRevF K te tl) := by
  subst hK
  refine ⟨fun pins s σ H Q I h => ?_⟩
  refine Subscript_ (thn (he.run pins s σ H _ I h) fun v s1 ⟨x, H1, I1, r1, q1⟩ => ?_)
  have hst : PO X (some (.UnaryOp .USub (.Constant (.int 1) k p1) p2)) (tPart (tUn (rU fun i => .int (-i)) (tC (.int 1)))) := po_some (pe_un un_neg pe_int)
  have hlo := po_some hl
  refine wpAny_Slice (thn (hlo.run pins s1 σ H1 (fun o H2 => ∃ (a : Addr) (xs : List V) (n : Nat), x = .ref a ∧ o = some (n : Int) ∧ SqL X.K H2 a xs ∧ ∀ p, H2 p = none → Q (.ref p) (upd H2 p (.lst (xs.take (n + 1)).reverse))) I1 ?_) fun vl s2 ⟨l, H2, I2, pl, el⟩ => ?_)
  · have e : (fun (i : V) (H2 : Hp) => ∃ z : Int, i = .int z ∧ ∃ (a : Addr) (xs : List V) (n : Nat), x = .ref a ∧ z = n ∧ SqL X.K H2 a xs ∧ ∀ p, H2 p = none → Q (.ref p) (upd H2 p (.lst (xs.take (n + 1)).reverse)))
        = fun (i : V) (H2 : Hp) => ∃ z : Int, i = .int z ∧ ∃ (a : Addr) (xs : List V) (n : Nat), x = .ref a ∧ some z = some (n : Int) ∧ SqL X.K H2 a xs ∧ ∀ p, H2 p = none → Q (.ref p) (upd H2 p (.lst (xs.take (n + 1)).reverse)) := by
      simp only [Option.some.injEq]
    show tl σ H1 _
    rw [← e]
    exact q1
  obtain ⟨a, xs, n, ex, eo, hx, q⟩ := el
  subst ex eo
  cases r1
  refine thn (po_none.run pins s2 σ H2 (fun o H3 => o = none ∧ H3 = H2) I2 ⟨rfl, rfl⟩) fun vu s3 ⟨u, H3, I3, pu, eu, e3⟩ => ?_
  subst eu e3
  refine thn (hst.run pins s3 σ H3 (fun o H4 => o = some (-1) ∧ H4 = H3) I3 ⟨1, rfl, -1, rfl, rfl, rfl⟩) fun vs s4 ⟨o, H4, I4, ps, eo, e4⟩ => ?_
  subst eo e4
  have I5 : Inv X pins σ H4 { s4 with heap := s4.heap.push { cls := .type "slice", data := .fields #[vl, vu, vs] } } := I4.kept (t' := s4.toks) fun b ob q => Heap.get?_push_of_some _ q
  obtain ⟨its, r, ht, hz⟩ := I5.list hx
  have hlen := r.length
  show wpAny (model X.prog X.w) X.A (subscriptTail e (.Slice (some lo) none (some (.UnaryOp .USub (.Constant (.int 1) k p1) p2)) p3) (.ref a) (.ref s4.heap.objs.size)) (EP X pins σ Q) X.xe { s4 with heap := s4.heap.push { cls := .type "slice", data := .fields #[vl, vu, vs] } }
  refine tail_any (ops := [.ref a, .ref s4.heap.objs.size]) ht.isList.typeIs (PySem.slot_list_getitem.lookup) ?_ (by with_unfolding_all rfl)
  refine wpAny_getItem_list_slice ht.isList (Heap.IsSliceOf.new _ vl vu vs) pl pu ps (by decide) ?_ (by rw [List.size_toArray]; omega)
  rw [rev_pick]
  refine ⟨.ref _, _, I5.laid (t' := s4.toks) (o := .lst (xs.take (n + 1)).reverse) (fun b ob q => Heap.get?_push_of_some _ q) (Nat.le_refl _) ?_, rfl, q _ (I5.hok.fresh (Nat.le_refl _))⟩
  exact ⟨by rw [List.length_reverse, List.length_take]; omega, _, 0, (r.take (n + 1)).reverse, Heap.get?_push_size _ rfl⟩
end GS
/-! An error kept behind its suite; isinstance and fields of it. -/
namespace GS
open PySem PySem.Spec PySem.Calls PyProof.Rows L2 TL
/-- an error that was caught and kept: its class, its dict -/
def ErrO (a : Addr) (cls : Value) (d : Option Addr) : HO := .ext fun h => ∃ oe, h.get? a = some oe ∧ Zc cls d oe ∧ ∃ vs, oe.data = .fields vs
theorem errO_ok {P : Program} {w : World} {H : Hp} {h : Heap} {a : Addr} {cls : Value} {d : Option Addr} {oe : Obj} {vs : Array Value} (e : h.get? a = some oe) (z : Zc cls d oe) (f : oe.data = .fields vs) : ObjOk P w H h a (ErrO a cls d) :=
  ⟨⟨oe, e, z, vs, f⟩, ⟨oe, e⟩, fun _ _ ⟨o, q, r⟩ k => ⟨o, k o q, r⟩⟩
section
variable {X : Cx} {pins : List (Addr × Obj)} {σ : L2.St} {H : Hp} {s sI : Shared} {a : Addr} {B : Heap} {cls : Value} {d : Option Addr} {D : Ends} {Wout : WX}
/-- an object that lay outside is tracked from now on -/
theorem Inv.track {φ : Heap → Prop} (I : Inv X pins σ H s) (n0 : X.s_0.heap.get? a = none) (na : H a = none) (nL : a ≠ X.env.locals) (nC : ∀ x c, X.env.cells.lookup x = some c → c ≠ a) (nP : ∀ p ∈ X.pn ++ pins, p.1 ≠ a) (new : ObjOk X.prog X.w (upd H a (.ext φ)) s.heap a (.ext φ)) :
    Inv X pins σ (upd H a (.ext φ)) s := by
  refine ⟨I.ok, I.os, I.bare, ⟨I.base.keep, I.base.slot, fun b o e n hx => ?_, I.base.there, fun b xs e => ?_, fun b o u e => ?_, fun b ps e => ?_⟩, I.loc, I.cell, ?_, fun x c e => ?_, fun p hp => ?_, fun b u e => ?_, I.len⟩
  · rw [upd_ne (fun z => by rw [z, n0] at e; cases e)]
    exact I.base.free b o e n hx
  · have q := I.base.tups b xs e
    rw [upd_ne (ne_of_none q na)]
    exact q
  · have q := I.base.frzs b o u e
    rw [upd_ne (ne_of_none q na)]
    exact q
  · obtain ⟨m, q⟩ := I.base.tbls b ps e
    exact ⟨m, by rw [upd_ne (ne_of_none q na)]; exact q⟩
  · rw [upd_ne (Ne.symm nL)]
    exact I.free
  · rw [upd_ne (nC x c e)]
    exact I.freeC x c e
  · obtain ⟨h1, h2, h3⟩ := I.pin p hp
    exact ⟨h1, by rw [upd_ne (nP p hp)]; exact h2, h3⟩
  · by_cases hb : b = a
    · subst hb
      rw [upd_same] at e
      cases e
      exact new
    · rw [upd_ne hb] at e
      exact (I.hok b u e).stay (fun c v _ q => q) (fun c q => by rw [upd_ne (ne_of_none q na)]; exact q) fun c xs q => by rw [upd_ne (ne_of_none q na)]; exact q
theorem Caught.off2 (c : Caught X pins σ H a B cls d sI s) (hst : X.stack = X.env :: X.outer) : ∀ b ∈ frs X.stack, b ≠ a := fun b hb z => by
  obtain ⟨oe, vs, e1, _, e3⟩ := c.fl.there
  rw [hst] at hb
  obtain ⟨_, o, ho, hnf⟩ := c.fl.2.2.1.mem hb
  rw [z, e1] at ho
  exact hnf vs (by rw [← Option.some.inj ho]; exact e3)
theorem Caught.out (c : Caught X pins σ H a B cls d sI s) (hst : X.stack = X.env :: X.outer) (hx : X.ex = []) : X.s_0.heap.get? a = none := by
  have nb : B.get? a = none := c.fl.2.1
  cases e : X.s_0.heap.get? a with
  | none => rfl
  | some o =>
    obtain ⟨o', q⟩ := c.inv.base.there a o e (by rw [hx]; exact fun z => nomatch z)
    have z := c.nb a o' q (fun h => c.off2 hst a h rfl)
    rw [nb] at z
    cases z
theorem Caught.pins_ne (c : Caught X pins σ H a B cls d sI s) (hst : X.stack = X.env :: X.outer) : ∀ p ∈ X.pn ++ pins, p.1 ≠ a := fun p hp z => by
  obtain ⟨h1, h2, h3, h4, h5⟩ := c.inv.pin p hp
  have nb : B.get? a = none := c.fl.2.1
  have q := c.nb p.1 p.2 h1 (fun h => c.off2 hst _ h z)
  rw [z, nb] at q
  cases q
/-- the ends of a suite whose error is kept: its name i goes -/
def asEndsK (i : Nat) (a : Addr) (cls : Value) (d : Option Addr) (D : Ends) : Ends := { nx := fun σ' H' => H' a = none → D.nx (σ'.set i none) (upd H' a (ErrO a cls d)), rt := D.rt, bk := fun σ' H' => D.bk (σ'.set i none) H', ct := fun σ' H' => D.ct (σ'.set i none) H' }
def wKeep (K : PySem.W.Frag) (Wout : WX) (D : Ends) (cs : List Value) (i : Nat) (ts : Addr → Value → Option Addr → TS) : WX := fun cls d σ H => ∃ b, PySem.W.exmAny K cls cs = some b ∧ (b = true → ∀ a, H a = none → ts a cls d (asEndsK i a cls d D) (σ.set i (some (.ref a))) H) ∧ (b = false → Wout cls d σ H)
theorem keep_clause {t : Expr} {n : Str} {cs : List Value} {ts : Addr → Value → Option Addr → TS} {st : Stmt} {sts : List Stmt} {pos' : Pos} {i : Nat} (hc : MTest X t cs) (hN : X.N.Nodup) (hi : X.N[i]? = some n) (hln : X.env.kindOf n = some .local)
    (su : ∀ (a : Addr) (oe : Obj) (cls : Value) (d : Option Addr) (pn : List (Addr × Obj)), Zc cls d oe → (∃ vs, oe.data = .fields vs) → PSs (X.suite a ((a, oe) :: pn)) (st :: sts) (ts a cls d))
    (hst : X.stack = X.env :: X.outer) (hf : X.env.frame = some X.env.locals) (hx : X.ex = []) (tk : Takes X Wout)
    {s : Shared} (c : Caught X pins σ H a B cls d sI s) (w : wKeep X.K Wout D cs i ts cls d σ H) : wpAny (model X.prog X.w) X.A (handleBy (.ref a) X.env [.ExceptHandler (some t) (some n) (st :: sts) pos']) (SP X pins D) X.xe s := by
  obtain ⟨b, hb1, hyes, hno⟩ := w
  refine wpAny_handleBy_cons (codeAny_handlers_test ?_) (by intro q; cases q)
  refine mtest c hf hc hb1 fun s c => ?_
  cases b with
  | false => exact mclauses .nil hst hf tk c (hno rfl)
  | true =>
    refine codeAny_handlers_suite_as (c.again fun s4 c4 => ?_)
    obtain ⟨oe, z1, z2, S⟩ := c4.suite (M := model X.prog X.w) hf
    have ok := c4.here.ok
    have n0 := c4.out hst hx
    have nP := c4.pins_ne hst
    refine store_ok (X := X.suite a ((a, oe) :: (X.pn ++ pins))) (v := .ref a) S hN hi (.inl hln) rfl (fun s5 S5 => ?_) (.inr hln)
    have fin : ∀ {σ6 : L2.St} {H6 : Hp} {s6 : Shared}, Inv (X.suite a ((a, oe) :: (X.pn ++ pins))) [] σ6 H6 s6 → H6 a = none ∧ Inv X pins σ6 (upd H6 a (ErrO a cls d)) s6 := fun {σ6 H6 s6} S6 => by
      obtain ⟨h1, h2, h3, h4, h5⟩ := S6.pin (a, oe) (List.mem_append_left _ List.mem_cons_self)
      have J := S6.unsuite ok
      obtain ⟨vs, hv⟩ := z2
      refine ⟨h2, Inv.track J n0 h2 h3 (fun x c e q => ?_) nP (errO_ok h1 z1 hv)⟩
      obtain ⟨v, oc, ho, hd⟩ := J.cell x c e
      rw [q, h1] at ho
      cases ho
      exact h5 v hd
    refine wpAny_mono ((su a oe cls d (X.pn ++ pins) z1 z2).run [] s5 _ H (asEndsK i a cls d D) S5 (hyes rfl a c.na)) (fun f s6 hsp => ?_) (fun _ _ z => False.elim z)
    cases f with
    | next => exact let ⟨σ6, H6, S6, q6⟩ := hsp; gone_ok (fin S6).2 hN hi hln fun s7 J7 => ⟨_, _, J7, q6 (fin S6).1⟩
    | brk => exact let ⟨σ6, H6, S6, q6⟩ := hsp; gone_ok (S6.unsuite ok) hN hi hln fun s7 J7 => ⟨_, _, J7, q6⟩
    | cont => exact let ⟨σ6, H6, S6, q6⟩ := hsp; gone_ok (S6.unsuite ok) hN hi hln fun s7 J7 => ⟨_, _, J7, q6⟩
    | ret u => exact let ⟨v6, σ6, H6, S6, r6, q6⟩ := hsp; gone_ok (S6.unsuite ok) hN hi hln fun s7 J7 => ⟨_, _, _, J7, r6, q6⟩
/-- THE RULE: try: .. except A as x: .., x kept -/
theorem ps_try_keep {body : List Stmt} {t : Expr} {n : Str} {cs : List Value} {ts : Addr → Value → Option Addr → TS} {st : Stmt} {sts : List Stmt} {pos' pos : Pos} {i : Nat} {tb : WX → TS} (hst : X.stack = X.env :: X.outer) (hf : X.env.frame = some X.env.locals) (hx : X.ex = []) (tk : Takes X Wout)
    (hb : ∀ (W : WX) (pn : List (Addr × Obj)) (xe : Value → Shared → Prop), Takes (X.tr pn xe) W → PassesOwn (model X.prog X.w) X.A X.env xe → PSs (X.tr pn xe) body (tb W)) (hc : MTest X t cs) (hN : X.N.Nodup) (hi : X.N[i]? = some n) (hln : X.env.kindOf n = some .local)
    (su : ∀ (a : Addr) (oe : Obj) (cls : Value) (d : Option Addr) (pn : List (Addr × Obj)), Zc cls d oe → (∃ vs, oe.data = .fields vs) → PSs (X.suite a ((a, oe) :: pn)) (st :: sts) (ts a cls d)) :
    PS X (.Try body [.ExceptHandler (some t) (some n) (st :: sts) pos'] [] [] pos) (fun D σ H => tb (wKeep X.K Wout D cs i ts) D σ H) := by
  refine ⟨fun pins s σ H D I h => wpAny_Try_except ?_⟩
  have ok := I.ok
  have fr : X.A.frames = some (X.env :: X.outer) := by rw [ok.frames, hst]
  have B0 := hb (wKeep X.K Wout D cs i ts) (X.pn ++ pins) (fun e s₁ => wpAny (model X.prog X.w) X.A (noteFrame e X.env) (fun _ s₂ => wpAny (model X.prog X.w) X.A (setFlight e none) (fun _ s₃ => wpAny (model X.prog X.w) X.A (handleBy e X.env [.ExceptHandler (some t) (some n) (st :: sts) pos']) (SP X pins D) X.xe s₃) X.xe s₂) X.xe s₁)
    (fun u s' xx => by
      obtain ⟨a, B, sI, pins', σ', H', cls, d, rfl, J', nb, up, sky, na, os, ag, w⟩ := xx
      refine Sky.land Zc.steady fr hf (show Sky B (X.env :: X.outer) a (Zc cls d) X.env.locals s'.heap by rw [← hst]; exact sky) fun h3 fl3 up3 => ?_
      exact keep_clause hc hN hi hln su hst hf hx tk ⟨J'.ofTry ok, nb, up.trans up3, na, os, ag, fl3⟩ w) PassesOwn.looking
  refine wpAny_mono (B0.run [] s σ H D (I.toTry _) h) (fun f s1 hsp => ?_) (fun _ _ z => z)
  cases f with
  | next => exact let ⟨σ', H', J', q⟩ := hsp; wpAny_execs_nil ⟨σ', H', J'.ofTry ok, q⟩
  | brk => exact let ⟨σ', H', J', q⟩ := hsp; ⟨σ', H', J'.ofTry ok, q⟩
  | cont => exact let ⟨σ', H', J', q⟩ := hsp; ⟨σ', H', J'.ofTry ok, q⟩
  | ret u => exact let ⟨v, σ', H', J', r, q⟩ := hsp; ⟨v, σ', H', J'.ofTry ok, r, q⟩
end
/-! isinstance and fields of an error that is kept -/
section
variable {X : Cx} {pins : List (Addr × Obj)} {σ : L2.St} {H : Hp} {s : Shared} {a : Addr}
theorem inst_kept {C dd : Addr} {fs : List (Str × V)} (I : Inv X pins σ H s) (he : H a = some (ErrO a (.ref C) (some dd))) (there : H dd = some (.xd fs)) :
    ∃ oe od, PySem.W.InstAt s.heap a oe C (some od) ∧ ∀ n v, fs.lookup n = some v → ∃ u, RelV v u ∧ PySem.W.lookIn n od = some (some u) := by
  obtain ⟨mA, hns, hr⟩ := (show ObjOk X.prog X.w H s.heap dd (.xd fs) from I.hok dd _ there)
  obtain ⟨od, ho, hl⟩ := lookIn_ns hns
  obtain ⟨⟨oe, ha, hz, vs, hd⟩, _, _⟩ := (show ObjOk X.prog X.w H s.heap a (ErrO a (.ref C) (some dd)) from I.hok a _ he)
  have plain : PySem.W.notCls oe := by
    unfold PySem.W.notCls
    rw [hd]
  refine ⟨oe, od, ⟨ha, hz.1, plain, by rw [hz.2]; exact ho⟩, fun n v hv => ?_⟩
  obtain ⟨u, hu, ru⟩ := RelO.some_of (v := v) (o := mA n) (by rw [← hv]; exact hr n)
  exact ⟨u, ru, by rw [hl, hu]⟩
def rIsO (K : PySem.W.Frag) : List V → Hp → VK → Prop := fun xs H Q => ∃ (a : Addr) (c : V) (cv : Value) (b : Bool) (C dd : Addr) (fs : List (Str × V)), xs = [.ref a, c] ∧ (∀ u, RelV c u → u = cv) ∧ H a = some (ErrO a (.ref C) (some dd)) ∧ ExcC K C ∧ PySem.W.kitOne K (.ref C) cv = some b ∧ H dd = some (.xd fs) ∧ Q (.bl b) H
theorem cr_isO {K : PySem.W.Frag} (hk : X.K = K) : CallR X (.builtin "isinstance") (rIsO K) := by
  subst hk
  intro pins s σ H xs us Q I r got
  obtain ⟨a, c, cv, b, C, dd, fs, rfl, only, he, ec, e, there, q⟩ := got
  obtain ⟨u1, u2, rfl, r1, r2⟩ := vals2 r
  cases r1
  rw [only _ r2]
  obtain ⟨oe, od, i, _⟩ := inst_kept I he there
  exact PySem.W.kia_one (kit_err ec) I.kIn i e (fun z => nomatch z) fun tk => ⟨.bl b, H, I.kept (t' := tk) fun _ _ z => z, rfl, q⟩
def rIsOT (K : PySem.W.Frag) : List V → Hp → VK → Prop := fun xs H Q => ∃ (a tp : Addr) (cs : List V) (us : List Value) (b : Bool) (C dd : Addr) (fs : List (Str × V)), xs = [.ref a, .ref tp] ∧ H tp = some (.tup cs) ∧ Paired ClsV cs us ∧ H a = some (ErrO a (.ref C) (some dd)) ∧ ExcC K C ∧ PySem.W.kitAny K (.ref C) us = some b ∧ H dd = some (.xd fs) ∧ Q (.bl b) H
theorem cr_isOT {K : PySem.W.Frag} (hk : X.K = K) : CallR X (.builtin "isinstance") (rIsOT K) := by
  subst hk
  intro pins s σ H xs us Q I r got
  obtain ⟨a, tp, cs, ws, b, C, dd, fs, rfl, hT, k, he, ec, e, there, q⟩ := got
  obtain ⟨u1, u2, rfl, r1, r2⟩ := vals2 r
  cases r1
  cases (show u2 = Value.ref tp from r2)
  obtain ⟨oe, od, i, _⟩ := inst_kept I he there
  obtain ⟨_, its, rv, o, h1, h2, n, h3⟩ := (show ObjOk X.prog X.w H s.heap tp (.tup cs) from I.hok tp _ hT)
  have e3 := ClsV.all k rv
  subst e3
  obtain ⟨oc, od', dt, sl⟩ := o
  simp only at h2 h3
  subst h2 h3
  exact PySem.W.kia_tup (kit_err ec) I.kIn i h1 e (fun z => nomatch z) fun tk => ⟨.bl b, H, I.tok tk, rfl, q⟩
def tXO (K : PySem.W.Frag) (n : Str) (te : TE) : TE := fun σ H Q => te σ H fun x H1 => ∃ (a C dd : Addr) (fs : List (Str × V)) (v : V), x = .ref a ∧ H1 a = some (ErrO a (.ref C) (some dd)) ∧ XfC K C ∧ PySem.W.findIn K (.ref C) n = some none ∧ H1 dd = some (.xd fs) ∧ fs.lookup n = some v ∧ Q v H1
theorem pe_xO {K : PySem.W.Frag} {e : Expr} {te : TE} {pos : Pos} {n : Str} (hk : X.K = K) (he : PE X e te) (plain : attributeBase e n X.env (eval e X.env) = eval e X.env := by rfl) : PE X (.Attribute e n pos) (tXO K n te) := by
  subst hk
  refine ⟨fun pins s σ H Q I h => attr_of plain (thn (he.run pins s σ H _ I h) fun u s1 got => ?_)⟩
  obtain ⟨x, H1, I1, rx, a, C, dd, fs, v, rfl, hea, T, no_, there, l, q⟩ := got
  obtain rfl : u = Value.ref a := rx
  obtain ⟨oe, od, i, fields⟩ := inst_kept I1 hea there
  obtain ⟨u, ru, hu⟩ := fields n v l
  exact PySem.HandSPX.exc_get I1.kIn i T.ga T.gg T.exC (PySem.W.findObj_own T.hdC no_ rfl hu) (handed_of ru) ⟨v, H1, I1.tok _, ru, q⟩
end
end GS
/-! The head's facts with tables of code objects; defs that make lambdas; a def that calls what it got. -/
namespace GS
open PySem PySem.W PySem.Calls PyProof.Rows He
/-- what the head tells, the tables of the defs tf left out of the written part: empty -/
structure SaysL (fa : List He.Fa) (ex : List Chk) (fn : List He5.DefA) (tf : List Defn) (h : Heap) (K : PySem.W.Frag) : Prop where
  m : SaysM fa ex fn K
  hd : ∀ p ∈ tf, PySem.W.codeHdIn K (cT K p).1 (cT K p).2 = true
  out : ∀ p ∈ tf, K.lookup (cT K p).2 = none
  empty : ∀ p ∈ tf, h.get? (cT K p).2 = some { cls := .none, data := .fields #[] }
def obsLG (n : Nat) (fa : List He.Fa) (ex : List Chk) (fn : List He5.DefA) (tf : List Defn) (g : Addr → Option Obj) : He.AlD × Bool := (obsM fa ex fn (frT g (He5.asA g n)), tabsB g tf (frT g (He5.asA g n)))
theorem saysL_of {n : Nat} {fa : List He.Fa} {ex : List Chk} {fn : List He5.DefA} {tf : List Defn} {h : Heap} (e : obsLG n fa ex fn tf h.get? = (He5.valA fn, true)) : SaysL fa ex fn tf h (frT h.get? (He5.asA h.get? n)) := by
  have e1 : obsM fa ex fn (frT h.get? (He5.asA h.get? n)) = He5.valA fn := congrArg (fun z : He.AlD × Bool => z.1) e
  have h2 : tabsB h.get? tf (frT h.get? (He5.asA h.get? n)) = true := congrArg (fun z : He.AlD × Bool => z.2) e
  have key : ∀ p ∈ tf, PySem.W.codeHdIn (frT h.get? (He5.asA h.get? n)) (cT (frT h.get? (He5.asA h.get? n)) p).1 (cT (frT h.get? (He5.asA h.get? n)) p).2 = true ∧ ∃ o, h.get? (cT (frT h.get? (He5.asA h.get? n)) p).2 = some o ∧ emptyTab o = true := fun p hp => by
    obtain ⟨h3, h4⟩ := ba (List.all_eq_true.mp h2 p hp)
    refine ⟨h3, ?_⟩
    cases q : h.get? (cT (frT h.get? (He5.asA h.get? n)) p).2 with
    | none =>
      rw [q] at h4
      cases h4
    | some o =>
      rw [q] at h4
      exact ⟨o, rfl, h4⟩
  exact ⟨e1, fun p hp => (key p hp).1, fun p hp => by
    obtain ⟨_, o, q, z⟩ := key p hp
    exact frT_none q z, fun p hp => by
    obtain ⟨_, o, q, z⟩ := key p hp
    rw [q, emptyTab_eq z]⟩
def hookL (n : Nat) (fa : List He.Fa) (ex : List Chk) (fn : List He5.DefA) (tf : List Defn) : PySem.W.Hook where
  α := He.AlD × Bool
  obs s := obsLG n fa ex fn tf s.heap.get?
  val _ := (He5.valA fn, true)
  says _ h := ∃ K : PySem.W.Frag, K.In h ∧ SaysL fa ex fn tf h K
  of _ _ e := ⟨_, frT_in, saysL_of e⟩
  keeps := fun _ _ _ ⟨K, i, c⟩ k => ⟨K, Frag.In.keeps i k, ⟨c.m, c.hd, c.out, fun p hp => k _ _ (c.empty p hp)⟩⟩
theorem obsLG_eq {n : Nat} {fa : List He.Fa} {ex : List Chk} {fn : List He5.DefA} {tf : List Defn} {g : Addr → Option Obj} {s : Shared} (h : ∀ a, g a = s.heap.get? a) : obsLG n fa ex fn tf g = (hookL n fa ex fn tf).obs s := by
  obtain rfl : g = s.heap.get? := funext h
  rfl
theorem SaysL.code {fa : List He.Fa} {ex : List Chk} {fn : List He5.DefA} {tf : List Defn} {h : Heap} {K : PySem.W.Frag} (X : K.In h) (c : SaysL fa ex fn tf h K) : ∀ p ∈ tf, PySem.W.CodeHd h (cT K p).1 (cT K p).2 := fun p hp => codeHd_of_K X (c.hd p hp)
end GS
namespace GS
open PySem PySem.Spec PyProof.Rows L2 LamX
/-- a def whose code object is told -/
theorem okL {P : Program} {w : World} {K : PySem.W.Frag} {mg : PySem.Str → Option Value} {base : Heap} {CX : CXT} {k : Nat} {f : Addr} {fd : FuncData} {ps : List PySem.Str} {sp : Sp}
    {x qual : PySem.Str} {params : Arguments} {body : List Stmt} {scope : Scope} {dvs : List V} {kws : List (PySem.Str × V)} {N : List PySem.Str} {p : He.Defn} (hf : He.fAd K p = f) (F : FunD K x qual params body scope dvs kws f fd) (S : FnScope N ps scope) (wide : ∀ vs H Q E, sp vs H Q E → vs.length = ps.length)
    (text : ∀ (cdv : Value) (A : Around) (outer : List Env) (s : Shared) (H : Hp) (vs : List V) (Q : VK) (E : XK), cdv = .ref (He.cT K p).1 → A.guards = some [] → Room k (A.deeper (envOfC qual scope s.heap.objs.size f cdv)) → sp vs H Q E →
      ∃ t, PSs (cxOf CX P w K mg base N qual scope f cdv A outer s H E) body t ∧ t { nx := fun _ H' => Q .non H', rt := Q } (start N vs) H) : FnG P w K mg base CX (k + 1) f fd ps sp := by
  obtain ⟨oc, od, dV, kV, doc, pm, an, cdv, ct, osl, rfl, known, code, -, -⟩ := F.ex
  refine ⟨wide, fun A quiet room outer s H args us vs Q E e bind same want => ?_⟩
  have stays : ∀ b o, base.get? b = some o → s.heap.get? b = some o := fun b o z => (e.bs b o z).1
  have inK : K.In s.heap := e.mod.kin.keeps stays
  have free : s.heap.NoLimit := e.mod.nolimit.keeps stays
  have cd : cdv = .ref (He.cT K p).1 := by
    obtain ⟨c, hc⟩ := He.codeIn_ref code
    have lk := known
    rw [← hf] at lk
    have := He.codeOf_eq (c := c) lk hc
    rw [hc]
    show Value.ref c = Value.ref (He.codeOf K p)
    rw [this]
  refine codeAny_call_function room.depth (inK _ _ known) rfl S.co S.gen rfl (PySem.W.codeRec_of inK code) (bind _ _ _ _ ?_)
  refine wpAny_newFunctionEnv_cells S.kind ?slots fun env made s1 laid => ?run
  case slots =>
    intro y hy
    obtain ⟨n, v⟩ := y
    have hn := (List.of_mem_zip hy).1
    cases S.par n hn with
    | inl z => exact .inl z
    | inr z => exact .inr ⟨z, PySem.W.cellsFrom_some _ _ _ (.inl z)⟩
  case run =>
    subst made
    refine ⟨free.keeps laid.toInCall.keep, codeAny_func ?_⟩
    obtain ⟨t, reads, goal⟩ := text cdv A outer s H vs Q E cd quiet (room.deeper _) want
    have begun := inv_start (CX := CX) (E := E) S room.hd e (wide _ _ _ _ want) same laid
    refine wpAny_mono (reads.run [] s1 (start N vs) H _ begun goal) (fun way s' z => ?_) fun err s' z => z
    match way, z with
    | .ret u, ⟨v, σ', H', J, rv, q⟩ => exact end_of (A := A) (E := E) rfl rfl rfl rfl rfl rfl J rv q
    | .next, ⟨σ', H', J, q⟩ => exact end_of (A := A) (E := E) (v := V.non) (u := Value.none) rfl rfl rfl rfl rfl rfl J rfl q
    | .brk, ⟨_, _, _, q⟩ => exact False.elim q
    | .cont, ⟨_, _, _, q⟩ => exact False.elim q
end GS
namespace GS
open PySem PySem.Spec PyProof.Rows L2 LamX
def kiB (x y : Str) (b : Bool) : Chk := fun K => decide (PySem.W.kitOne K (.ref (He.ga K x)) (.ref (He.ga K y)) = some b)
theorem kiB_ok {K : PySem.W.Frag} {x y : Str} {b : Bool} (h : kiB x y b K = true) : PySem.W.kitOne K (.ref (He.ga K x)) (.ref (He.ga K y)) = some b := of_decide_eq_true h
theorem pe_two {X : Cx} {e : Expr} {t1 t2 : TE} (h1 : PE X e t1) (h2 : PE X e t2) : PE X e (fun σ H Q => t1 σ H Q ∨ t2 σ H Q) := ⟨fun pins s σ H Q I h => by
  rcases h with h | h
  · exact h1.run pins s σ H Q I h
  · exact h2.run pins s σ H Q I h⟩
end GS
/-! zip of a list and a tuple, in any mix. -/
namespace GS
open PySem PySem.Spec PyProof.Rows L2 TL
def SqX (K : PySem.W.Frag) (H : Hp) : Bool → Addr → List V → Prop
  | true, a, xs => SqT K H a xs
  | false, a, xs => SqL K H a xs
def itAt (h : Heap) : Bool → Addr → Addr → Nat → Prop
  | true, it, a, i => h.IsTupleIter it a i
  | false, it, a, i => h.IsListIter it a i
def isAt (h : Heap) : Bool → Addr → Array Value → Prop
  | true, a, its => h.IsTuple a its
  | false, a, its => h.IsList a its
def itObj : Bool → Addr → Obj
  | true, a => { cls := .type "tuple_iterator", data := .fields #[.ref a, .int 0 0] }
  | false, a => { cls := .type "list_iterator", data := .fields #[.ref a, .int 0 0] }
theorem dr_at {prog : Program} {w : World} {A : Around} (hh : A.handled = none) (t : Bool) (it a : Addr) (hne : a ≠ it) (items : Array Value) :
    Draws prog w A it [it, a] items.size (fun i v => items[i]? = some v) (fun i h => itAt h t it a i ∧ isAt h t a items) := by
  cases t with
  | true => exact Draws.tuple hh it a hne items
  | false => exact Draws.list hh it a hne items
theorem itAt_obj {h : Heap} {t : Bool} {it a : Addr} {i : Nat} (x : itAt h t it a i) : ∃ o, h.get? it = some o ∧ ∀ v, o.data ≠ .cell v := by
  cases t with
  | true => exact let ⟨o, e, _, d⟩ := x; ⟨o, e, fun v q => by rw [d] at q; cases q⟩
  | false => exact let ⟨o, e, _, d⟩ := x; ⟨o, e, fun v q => by rw [d] at q; cases q⟩
theorem itAt_keep {h h' : Heap} {t : Bool} {it a : Addr} {i : Nat} (x : itAt h t it a i) (k : ∀ o, h.get? it = some o → h'.get? it = some o) : itAt h' t it a i := by
  cases t with
  | true => exact Heap.IsTupleIter.at x k
  | false => exact Heap.IsListIter.at x k
theorem isAt_keep {h h' : Heap} {t : Bool} {a : Addr} {its : Array Value} (x : isAt h t a its) (k : ∀ o, h.get? a = some o → h'.get? a = some o) : isAt h' t a its := by
  cases t with
  | true => exact Heap.IsTuple.at x k
  | false => exact Heap.IsList.at x k
theorem isAt_lt {h : Heap} {t : Bool} {a : Addr} {its : Array Value} (x : isAt h t a its) : a < h.objs.size := by
  cases t with
  | true => exact let ⟨o, e, _⟩ := x; Heap.lt_size e
  | false => exact let ⟨o, e, _⟩ := x; Heap.lt_size e
theorem beg_at (t : Bool) (a : Addr) (items : Array Value) : Begins (.ref a) (itObj t a) fun h => isAt h t a items := by
  cases t with
  | true => exact begins_tuple a items
  | false => exact begins_list a items
theorem itAt_new {h : Heap} {t : Bool} {it a : Addr} (e : h.get? it = some (itObj t a)) : itAt h t it a 0 := by
  cases t with
  | true => exact ⟨_, e, rfl, rfl⟩
  | false => exact ⟨_, e, rfl, rfl⟩
section
variable {X : Cx} {pins : List (Addr × Obj)} {σ : L2.St} {H : Hp} {s : Shared} {t : Bool} {a : Addr} {xs : List V}
theorem sqX_get (I : Inv X pins σ H s) (h : SqX X.K H t a xs) : ∃ its, Vals xs its ∧ isAt s.heap t a its.toArray := by
  cases t with
  | true => obtain ⟨its, rv, p, _⟩ := I.tuple h; exact ⟨its, rv, p⟩
  | false => obtain ⟨its, rv, p, _⟩ := I.list h; exact ⟨its, rv, p.isList⟩
theorem sqX_inj (I : Inv X pins σ H s) {ys : List V} (h : SqX X.K H t a xs) (g : SqX X.K H t a ys) : xs = ys := by
  cases t with
  | true => exact I.tuple_inj h g
  | false => exact I.list_inj h g
end
def ItzX (K : PySem.W.Frag) (t1 t2 : Bool) (a b : Addr) : It :=
  ⟨fun i H => ∃ (xs ys : List V) (x y : V), SqX K H t1 a xs ∧ SqX K H t2 b ys ∧ xs[i]? = some x ∧ ys[i]? = some y,
    fun i H v H' => ∃ T x y, v = .ref T ∧ H T = none ∧ H' = upd H T (.tup [x, y]) ∧ (∀ xs, SqX K H t1 a xs → xs[i]? = some x) ∧ ∀ ys, SqX K H t2 b ys → ys[i]? = some y,
    fun i H => ∃ xs ys : List V, SqX K H t1 a xs ∧ SqX K H t2 b ys ∧ i ≤ xs.length ∧ i ≤ ys.length ∧ (i = xs.length ∨ i = ys.length)⟩
theorem turn_zipX {P : Program} {w : World} {K : PySem.W.Frag} {elts : List Expr} {kk : Nat} {tpos : Pos} {t1 t2 : Bool} {a b z TI TO i1 i2 : Addr} (D : ZipSep2 z TI TO i1 i2 [i1, a] [i2, b]) :
    Turn P w K (.Tuple elts kk tpos) (ItzX K t1 t2 a b) [z, TI, TO, i1, i2] z (fun i h => IsZip h z TI TO .none ∧ IsTupOf2 h TI (.ref i1) (.ref i2) ∧ (∃ x y, IsTupOf2 h TO x y) ∧ itAt h t1 i1 a i ∧ itAt h t2 i2 b i) where
  mem := by simp
  obj := fun i h st c hc => by
    obtain ⟨hz, hTI, ⟨x, y, hTO⟩, h1, h2⟩ := st
    have e' : c = z ∨ c = TI ∨ c = TO ∨ c = i1 ∨ c = i2 := by simpa using hc
    rcases e' with q | q | q | q | q
    · rw [q]; exact ⟨_, hz, fun v q => nomatch q⟩
    · rw [q]; exact ⟨_, hTI, fun v q => nomatch q⟩
    · rw [q]; exact ⟨_, hTO, fun v q => nomatch q⟩
    · rw [q]; exact itAt_obj h1
    · rw [q]; exact itAt_obj h2
  keep := fun i h h' st k => by
    obtain ⟨hz, hTI, ⟨x, y, hTO⟩, h1, h2⟩ := st
    exact ⟨k z (by simp) _ hz, k TI (by simp) _ hTI, ⟨x, y, k TO (by simp) _ hTO⟩, itAt_keep h1 fun o q => k i1 (by simp) o q, itAt_keep h2 fun o q => k i2 (by simp) o q⟩
  item := by
    intro X hP hw hK hc i pins s σ H E I hf st hg
    subst hP hw hK
    obtain ⟨hz, hTI, ⟨x0, y0, hTO⟩, h1, h2⟩ := st
    obtain ⟨xs, ys, x, y, hqx, hqy, hx, hy⟩ := hg
    obtain ⟨its, rv, p⟩ := sqX_get I hqx
    obtain ⟨its2, rv2, p2⟩ := sqX_get I hqy
    obtain ⟨u, hu, ru⟩ := rv.get hx
    obtain ⟨u2, hu2, ru2⟩ := rv2.get hy
    have hzl : z < s.heap.objs.size := Heap.lt_size hz
    have n1 : a ≠ i1 := fun e => by
      have := (hf i1 (by simp)).1
      have hh := itAt_obj h1
      rw [← e] at hh this
      obtain ⟨o, q, _⟩ := hh
      cases t1 with
      | true =>
        obtain ⟨o2, e2, c2, _⟩ := (show s.heap.IsTuple a its.toArray from p)
        obtain ⟨o3, e3, c3, _⟩ := (show s.heap.IsTupleIter i1 a i from h1)
        rw [← e, e2] at e3
        cases e3
        rw [c2] at c3
        exact absurd c3 (by decide)
      | false =>
        obtain ⟨o2, e2, c2, _⟩ := (show s.heap.IsList a its.toArray from p)
        obtain ⟨o3, e3, c3, _⟩ := (show s.heap.IsListIter i1 a i from h1)
        rw [← e, e2] at e3
        cases e3
        rw [c2] at c3
        exact absurd c3 (by decide)
    have n2 : b ≠ i2 := fun e => by
      cases t2 with
      | true =>
        obtain ⟨o2, e2, c2, _⟩ := (show s.heap.IsTuple b its2.toArray from p2)
        obtain ⟨o3, e3, c3, _⟩ := (show s.heap.IsTupleIter i2 b i from h2)
        rw [← e, e2] at e3
        cases e3
        rw [c2] at c3
        exact absurd c3 (by decide)
      | false =>
        obtain ⟨o2, e2, c2, _⟩ := (show s.heap.IsList b its2.toArray from p2)
        obtain ⟨o3, e3, c3, _⟩ := (show s.heap.IsListIter i2 b i from h2)
        rw [← e, e2] at e3
        cases e3
        rw [c2] at c3
        exact absurd c3 (by decide)
    have k1 : i < its.toArray.size := by have := (List.getElem?_eq_some_iff.mp hu).1; simpa using this
    have k2 : i < its2.toArray.size := by have := (List.getElem?_eq_some_iff.mp hu2).1; simpa using this
    refine wpAny_pyNext_zipD2_item D (dr_at (prog := X.prog) (w := X.w) (A := X.A.in1) (I.ok.hd hc) t1 i1 a n1 its.toArray) (dr_at (prog := X.prog) (w := X.w) (A := X.A.in1) (I.ok.hd hc) t2 i2 b n2 its2.toArray) hz hTI hTO ⟨h1, p⟩ ⟨h2, p2⟩ k1 k2 fun x1 x2 h' tk y1 y2 z' TO' st1' st2' hT hsz hk => ?_
    have e1 : x1 = u := by have : its[i]? = some x1 := by simpa using y1
                           rw [hu] at this; exact (Option.some.inj this).symm
    have e2 : x2 = u2 := by have : its2[i]? = some x2 := by simpa using y2
                            rw [hu2] at this; exact (Option.some.inj this).symm
    subst e1 e2
    refine ⟨_, rfl, wpAny_letOwnedTupleGo_zip (s := { s with heap := h', toks := tk }) z' fun h'' z'' sb => ?_⟩
    have hT2 : h''.get? s.heap.objs.size = some { cls := .type "tuple", data := .seq #[x1, x2] } := (sb.2 _ (Nat.ne_of_gt hzl)).trans hT
    have new : ObjOk X.prog X.w (upd H s.heap.objs.size (.tup [x, y])) h'' s.heap.objs.size (.tup [x, y]) :=
      ⟨by show 2 ≤ sizeLine; decide, [x1, x2], .cons ru (.cons ru2 .nil), ⟨_, hT2, rfl, _, rfl⟩⟩
    have I1 : Inv X pins σ (upd H s.heap.objs.size (.tup [x, y])) { s with heap := h'', toks := tk } :=
      I.turnedNew (t' := tk) (ch := [z, TI, TO, i1, i2]) (fun c o hb q => (sb.2 c (fun q' => hb (by simp [q']))).trans (hk c o (fun q' => hb (by simp [q'])) (fun q' => hb (by simp [q'])) (fun q' => hb (by simp [q'])) (fun q' => hb (by simp [q'])) q)) hf (Nat.le_refl _) new
    have TOi2 : TO ≠ i2 := D.Ti2
    refine ⟨.ref s.heap.objs.size, _, I1, rfl, ⟨_, x, y, rfl, I.hok.fresh (Nat.le_refl _), rfl, fun l hl => by rw [sqX_inj I hl hqx]; exact hx, fun l hl => by rw [sqX_inj I hl hqy]; exact hy⟩, ⟨z'', ?_, ⟨x1, x2, ?_⟩, ?_, ?_⟩, fun c hcm => ?_⟩
    · exact (sb.2 _ D.TIz).trans (hk _ _ D.TIz D.TITO D.TIi1 D.TIi2 hTI)
    · exact (sb.2 _ D.TOz).trans TO'
    · exact itAt_keep st1'.1 fun o q => (sb.2 _ (Ne.symm D.zi1)).trans q
    · exact itAt_keep st2'.1 fun o q => (sb.2 _ (Ne.symm D.zi2)).trans q
    · have hlt : c < s.heap.objs.size := by
        have e' : c = z ∨ c = TI ∨ c = TO ∨ c = i1 ∨ c = i2 := by simpa using hcm
        rcases e' with q | q | q | q | q
        · rw [q]; exact hzl
        · rw [q]; exact Heap.lt_size hTI
        · rw [q]; exact Heap.lt_size hTO
        · rw [q]; obtain ⟨_, e1, _⟩ := itAt_obj h1; exact Heap.lt_size e1
        · rw [q]; obtain ⟨_, e2, _⟩ := itAt_obj h2; exact Heap.lt_size e2
      rw [upd_ne (Nat.ne_of_lt hlt)]
      exact (hf c hcm).1
  done := by
    intro X hP hw hK hc i pins s σ H E I hf st hg
    subst hP hw hK
    obtain ⟨hz, hTI, ⟨x0, y0, hTO⟩, h1, h2⟩ := st
    obtain ⟨xs, ys, hqx, hqy, l1, l2, hend⟩ := hg
    obtain ⟨its, rv, p⟩ := sqX_get I hqx
    obtain ⟨its2, rv2, p2⟩ := sqX_get I hqy
    have m1 := rv.length
    have m2 := rv2.length
    have n1 : a ≠ i1 := fun e => by
      cases t1 with
      | true =>
        obtain ⟨o2, e2, c2, _⟩ := (show s.heap.IsTuple a its.toArray from p)
        obtain ⟨o3, e3, c3, _⟩ := (show s.heap.IsTupleIter i1 a i from h1)
        rw [← e, e2] at e3
        cases e3
        rw [c2] at c3
        exact absurd c3 (by decide)
      | false =>
        obtain ⟨o2, e2, c2, _⟩ := (show s.heap.IsList a its.toArray from p)
        obtain ⟨o3, e3, c3, _⟩ := (show s.heap.IsListIter i1 a i from h1)
        rw [← e, e2] at e3
        cases e3
        rw [c2] at c3
        exact absurd c3 (by decide)
    have n2 : b ≠ i2 := fun e => by
      cases t2 with
      | true =>
        obtain ⟨o2, e2, c2, _⟩ := (show s.heap.IsTuple b its2.toArray from p2)
        obtain ⟨o3, e3, c3, _⟩ := (show s.heap.IsTupleIter i2 b i from h2)
        rw [← e, e2] at e3
        cases e3
        rw [c2] at c3
        exact absurd c3 (by decide)
      | false =>
        obtain ⟨o2, e2, c2, _⟩ := (show s.heap.IsList b its2.toArray from p2)
        obtain ⟨o3, e3, c3, _⟩ := (show s.heap.IsListIter i2 b i from h2)
        rw [← e, e2] at e3
        cases e3
        rw [c2] at c3
        exact absurd c3 (by decide)
    refine wpAny_pyNext_zipD2_end D (dr_at (prog := X.prog) (w := X.w) (A := X.A.in1) (I.ok.hd hc) t1 i1 a n1 its.toArray) (dr_at (prog := X.prog) (w := X.w) (A := X.A.in1) (I.ok.hd hc) t2 i2 b n2 its2.toArray) hz hTI hTO ⟨h1, p⟩ ⟨h2, p2⟩ (by rw [List.size_toArray]; omega) (by rw [List.size_toArray]; omega) (by rw [List.size_toArray, List.size_toArray]; omega) fun h' tk hk => ⟨rfl, ?_⟩
    exact I.turnedL (t' := tk) (ch := [z, TI, TO, i1, i2]) (fun c o hb q => hk c o (fun q' => hb (by simp [q'])) (fun q' => hb (by simp [q'])) (fun q' => hb (by simp [q'])) (fun q' => hb (by simp [q'])) q) hf
  self := fun A i s Q E st h => wpAny_pyIter_zip st.1 h
def iZipX (K : PySem.W.Frag) (ta : TA) : TI := fun σ H R => ta σ H fun vs H1 => ∃ t1 t2 a b xs ys, vs = [.ref a, .ref b] ∧ SqX K H1 t1 a xs ∧ SqX K H1 t2 b ys ∧ R (ItzX K t1 t2 a b) H1
theorem pi_zipX {X : Cx} {e e2 : Expr} {ta : TA} {p pos tpos : Pos} {elts : List Expr} {kk : Nat} (hg : Gl X "zip") (hm : X.mg "zip" = none) (ha : PA X [e, e2] ta)
    (hs : starEach [e, e2] X.env = (false, eval e X.env) :: starEach [e2] X.env := by rfl) (hpl : (backTo pos (starEach [e2] X.env)).any (·.1) = false := by rfl) :
    PI X (.Tuple elts kk tpos) (.Call (.Name "zip" p) [e, e2] [] pos) (iZipX X.K ta) := by
  refine ⟨fun pins s σ H R I h => ?_⟩
  refine Call_ (ld_blt I hg hm PyProof.Rows.boot_zip (PyProof.Rows.callWith_type1 (thn (ha.run pos pins s σ H _ I h) fun us s1 ⟨vs, H1, I1, r1, q1⟩ => ?_) hs hpl))
  obtain ⟨t1, t2, a, b, xs, ys, ex, hqx, hqy, q⟩ := q1
  subst ex
  cases r1 with
  | cons r rr =>
    cases rr with
    | cons r' rr =>
      cases rr
      cases r
      cases r'
      have fresh5 : ∀ c, c ∈ [s1.heap.objs.size + 4, s1.heap.objs.size + 2, s1.heap.objs.size + 3, s1.heap.objs.size, s1.heap.objs.size + 1] → FpOk X pins H1 c := fun c hcm => by
        have e' : c = s1.heap.objs.size + 4 ∨ c = s1.heap.objs.size + 2 ∨ c = s1.heap.objs.size + 3 ∨ c = s1.heap.objs.size ∨ c = s1.heap.objs.size + 1 := by simpa using hcm
        have hle : s1.heap.objs.size ≤ c := by
          rcases e' with z | z | z | z | z
          · rw [z]; exact Nat.le_add_right _ _
          · rw [z]; exact Nat.le_add_right _ _
          · rw [z]; exact Nat.le_add_right _ _
          · rw [z]; exact Nat.le_refl _
          · rw [z]; exact Nat.le_add_right _ _
        exact I1.fpOk hle (I1.hok.fresh hle)
      obtain ⟨its, rv, p1⟩ := sqX_get I1 hqx
      obtain ⟨its2, rv2, p2⟩ := sqX_get I1 hqy
      refine zip_begins2 (beg_at t1 a its.toArray) (beg_at t2 b its2.toArray) p1 p2 fun h' hz hTI hTO h1 h2 hsz hk => wpAny_pyIter_zip hz ?_
      have I2 : Inv X pins σ H1 { s1 with heap := h' } := I1.kept (t' := s1.toks) hk
      have sep : ZipSep2 (s1.heap.objs.size + 4) (s1.heap.objs.size + 2) (s1.heap.objs.size + 3) s1.heap.objs.size (s1.heap.objs.size + 1) [s1.heap.objs.size, a] [s1.heap.objs.size + 1, b] :=
        zip_sep2 (fun c hc => by rw [List.mem_singleton.mp hc]; exact isAt_lt p1) (fun c hc => by rw [List.mem_singleton.mp hc]; exact isAt_lt p2)
      exact ⟨s1.heap.objs.size + 4, [s1.heap.objs.size + 4, s1.heap.objs.size + 2, s1.heap.objs.size + 3, s1.heap.objs.size, s1.heap.objs.size + 1], _, _, H1, rfl, I2, turn_zipX sep, ⟨hz, hTI, ⟨_, _, hTO⟩, itAt_new h1, itAt_new h2⟩, fresh5, q⟩
theorem sqX_ex {K : PySem.W.Frag} {H H' : Hp} {t : Bool} {a : Addr} {xs : List V} (e : Ex H H') (h : SqX K H t a xs) : SqX K H' t a xs := by
  cases t with
  | true => exact e.sqt h
  | false => exact e.sql h
theorem walk_zipX {K : PySem.W.Frag} {t1 t2 : Bool} {a b : Addr} {xs ys : List V} {n : Nat} (hn : n = min xs.length ys.length) : Walk (ItzX K t1 t2 a b) n (fun H => SqX K H t1 a xs ∧ SqX K H t2 b ys) (YPair (fun i => xs[i]?) (fun i => ys[i]?)) := by
  subst hn
  refine ⟨fun i _ hi q => ?_, fun _ q => ⟨xs, ys, q.1, q.2, by omega, by omega, by omega⟩, fun i H v H' _ q y => ?_⟩
  · have h1 : i < xs.length := by omega
    have h2 : i < ys.length := by omega
    exact ⟨xs, ys, xs[i], ys[i], q.1, q.2, by simp [h1], by simp [h2]⟩
  · obtain ⟨T, x, z, h1, h2, h3, h4, h5⟩ := y
    exact ⟨T, x, z, h1, h2, h3, h4 xs q.1, h5 ys q.2⟩
theorem r_zipX {K : PySem.W.Frag} {ta : TA} {σ : L2.St} {H : Hp} {R : It → Hp → Prop} (q : ta σ H fun vs H1 => ∃ t1 t2 a b xs ys, vs = [.ref a, .ref b] ∧ SqX K H1 t1 a xs ∧ SqX K H1 t2 b ys ∧ R (ItzX K t1 t2 a b) H1) : iZipX K ta σ H R := q
end GS
/-! A lambda handed to a def that calls it in a try: what is raised is wished for at the slots of that def. -/
namespace GS
open PySem PySem.Spec PyProof.Rows L2 LamX
section
variable {X : Cx} {pins : List (Addr × Obj)} {σ : L2.St} {H : Hp} {s : Shared}
theorem act_at {CXg : CXT} {Eg : XK} {Ng : List Str} {qg : Str} {sg : Scope} {g f c' : Addr} {cdg pm ctv : Value} {params : Arguments} {body : Expr} {scope : Scope} {k i : Nat} {a : Str} {pn : List (Addr × Obj)} {xe : Value → Shared → Prop} {W : WX} {E : L2.St → XK} {t : XK → TE} {p1 p2 : Pos}
    (I : Inv X pins σ H s) (L : LamS X.env.scope scope) (hf : s.heap.get? f = some (PySem.W.kla_obj "<lambda>" (X.env.qual ++ "<lambda>") params body scope (cloFrom X.env.cells scope.names []) pm c' ctv)) (hfn : H f = none) (hfr : f ∉ frs X.stack)
    (hbind : bindArgs (PySem.W.kla_fn "<lambda>" (X.env.qual ++ "<lambda>") params body scope (cloFrom X.env.cells scope.names []) pm (.ref c') ctv) ⟨[], []⟩ = pure [])
    (tk : Takes ((cxOf CXg X.prog X.w X.K X.mg X.base Ng qg sg g cdg X.A X.stack s H Eg).tr pn xe) W) (hW : ∀ σ' cls d H', E σ' cls d H' → W cls d σ' H') (hr : Room (k + 1) (X.A.deeper (envOfC qg sg s.heap.objs.size g cdg)))
    (hbody : ∀ (A : Around) (outer : List Env) (s : Shared) (H : Hp) (E : XK), Room k (A.deeper (lamEnv X scope s.heap.objs.size f c')) → PE (lamCx X A outer s H E scope f c') body (t E))
    (hN : Ng[i]? = some a) (hv : Vis sg a) (hd : (a == ("__debug__" : Str)) = false) (hcd : (a == ("__classdict__" : Str)) = false) :
    PE ((cxOf CXg X.prog X.w X.K X.mg X.base Ng qg sg g cdg X.A X.stack s H Eg).tr pn xe) (.Call (.Name a p1) [] [] p2)
      (fun σZ HZ Q => σZ[i]? = some (some (.ref f)) ∧ HZ c' = some (CodeO c' (X.env.qual ++ "<lambda>")) ∧ t (E σZ) σ HZ Q) := by
  refine ⟨fun pinsZ sZ σZ HZ Q IZ want => ?_⟩
  obtain ⟨slot, code, goal⟩ := want
  refine wpAny_Call_Name_kw (thn ((pe_var (pos := p1) (i := i) hN hv hd hcd).run pinsZ sZ σZ HZ (fun v H1 => v = .ref f ∧ H1 = HZ) IZ ⟨.ref f, slot, rfl, rfl⟩) fun u s1 ⟨v, H1, I1, r1, q1⟩ => ?_)
  obtain ⟨ev, eH⟩ := q1
  subst ev
  rw [eH] at I1
  obtain rfl : u = Value.ref f := r1
  have here : s1.heap.get? f = some (PySem.W.kla_obj "<lambda>" (X.env.qual ++ "<lambda>") params body scope (cloFrom X.env.cells scope.names []) pm c' ctv) := I1.base.keep f _ hf hfn hfr (fun z => nomatch (show f ∈ ([] : List Addr) from z))
  refine PySem.W.callWith_F0 ⟨_, _, _, _, here⟩ ?_
  have un : Un (frs X.stack) [] H HZ s.heap s1.heap := I1.base
  obtain ⟨⟨oc, vs, tk1, hoc, hdc, hvc⟩, _, _⟩ := I1.hok c' _ code
  have ran : codeAny (model X.prog X.w) (X.A.deeper (envOfC qg sg s.heap.objs.size g cdg)) (.call (.ref f) ⟨[], []⟩) (CR (L2.CX X.prog X.w) (envOfC qg sg s.heap.objs.size g cdg :: X.stack) X.prog X.w HZ s1 Q (E σZ)) s1 := by
    refine PySem.W.kla_callFunE hr.depth here rfl L.co L.gen rfl ⟨c', oc, vs, tk1, rfl, hoc, hdc, hvc⟩ ?_
    rw [hbind]
    refine wpAny_pure (wpAny_newFunctionEnv (fun y hy => (L.own y hy).2) (fun y hy => absurd hy (by simp)) (fun h₁ hns hsb => ⟨I1.nolimit.fresh _ hsb, ?_⟩) L.kind)
    show codeAny _ _ (.expr body (lamEnv X scope s1.heap.objs.size f c')) _ _
    have kp : ∀ b o, s1.heap.get? b = some o → h₁.get? b = some o := fun b o e => hsb.extBut b o (Nat.ne_of_lt (Heap.lt_size e)) (Heap.get?_push_of_some _ e)
    have J := lam_start2 (E := E σZ) (f := f) (c' := c') (tk := s1.toks + ([] : List (Str × Value)).length) I L I1.env0 hr.hd un hns kp
    refine PySem.W.kla_codeExpr (wpAny_mono ((hbody _ _ s1 HZ (E σZ) (hr.deeper _)).run [] _ _ HZ Q J goal) (fun v s' hq => ?_) fun e s' hq => hq)
    obtain ⟨w', H', J', rv, q⟩ := hq
    exact ⟨w', H', J'.os, J'.bare, J'.base, J'.hok, rv, q⟩
  refine wpAny_call (codeAny_mono ran fun r s' hq => ?_)
  match r, hq with
  | .error e, hq => exact tk e s' (XE.of_call I1 (fun cls d H' h => hW σZ cls d H' h) hq)
  | .ok (.ret u), hq => exact I1.after hq
  | .ok .next, hq => exact False.elim hq
  | .ok .brk, hq => exact False.elim hq
  | .ok .cont, hq => exact False.elim hq
end
/-- the def that calls what it got, in a try -/
def GivesS (X : Cx) (Ng : List Str) (x : Str) (sg : Scope) (g : Addr) (cdg : Value) (bg : List Stmt) (a : Str) (q : Str) (TT : (XK → Hp → VK → Prop) → Hp → VK → Prop) : Prop :=
  ∀ (f c' : Addr) (s : Shared) (H : Hp) (Q : VK) (tl : XK → Hp → VK → Prop),
    (∀ (W : WX) (pn : List (Addr × Obj)) (xe : Value → Shared → Prop) (E : L2.St → XK) (p1 p2 : Pos), Takes ((cxOf C8.CX0 X.prog X.w X.K X.mg X.base Ng x sg g cdg X.A X.stack s H C8.E0).tr pn xe) W → (∀ σ' cls d H', E σ' cls d H' → W cls d σ' H') →
      PE ((cxOf C8.CX0 X.prog X.w X.K X.mg X.base Ng x sg g cdg X.A X.stack s H C8.E0).tr pn xe) (.Call (.Name a p1) [] [] p2) (fun σZ HZ Q => σZ[0]? = some (some (.ref f)) ∧ HZ c' = some (CodeO c' q) ∧ tl (E σZ) HZ Q)) →
    H c' = some (CodeO c' q) → TT tl H Q →
    ∃ t, PSs (cxOf C8.CX0 X.prog X.w X.K X.mg X.base Ng x sg g cdg X.A X.stack s H C8.E0).nox bg t ∧ t { nx := fun _ H' => Q .non H', rt := Q } (L2.start Ng [.ref f]) H
theorem pe_lam {X : Cx} {TT : (XK → Hp → VK → Prop) → Hp → VK → Prop} {x a : Str} {g c P : Addr} {k : Nat} {pg : Arguments} {bg : List Stmt} {sg : Scope} {fd : FuncData} {Ng : List Str}
    {params : Arguments} {body : Expr} {scope : Scope} {t : XK → TE} {p lpos pos : Pos} (hg : Gl X x) (hm : X.mg x = some (.ref g)) (hk : PySem.W.keepIn X.K (.ref g) = true)
    (F : FunD X.K x x pg bg sg [] [] g fd) (hb : L2.Binds X.K fd [a] []) (Sg : FnScope Ng [a] sg) (hNg : Ng[0]? = some a) (hva : Vis sg a)
    (hG : ∀ cdg, GivesS X Ng x sg g cdg bg a (X.env.qual ++ "<lambda>") TT)
    (TB : TabB X.base X.mg c P) (hcode : X.env.code = .ref c) (hr : Room (k + 2) X.A) (L : LamS X.env.scope scope) (hdef : defaultsOf params X.env = ([], []))
    (hbind : ∀ (q : Str) (cl : List (Str × Addr)) (pm cv ctv : Value), bindArgs (PySem.W.kla_fn "<lambda>" q params body scope cl pm cv ctv) ⟨[], []⟩ = pure [])
    (hbody : ∀ (A : Around) (outer : List Env) (s : Shared) (H : Hp) (E : XK) (f c' : Addr), Room k (A.deeper (lamEnv X scope s.heap.objs.size f c')) → PE (lamCx X A outer s H E scope f c') body (t E))
    (hdb : (x == ("__debug__" : Str)) = false := by decide) (hd : (a == ("__debug__" : Str)) = false := by decide) (hcd : (a == ("__classdict__" : Str)) = false := by decide) :
    PE X (.Call (.Name x p) [.Lambda params body scope lpos] [] pos) (tLam [(P, X.env.qual ++ "<lambda>")] TT t) := by
  obtain ⟨oc, od, dV, kV, doc, pm, an, cdv, ct, osl, rfl, known, hcg, -, -⟩ := F.ex
  refine ⟨fun pins s σ H Q I want => ?_⟩
  obtain ⟨tabs, goal⟩ := want
  refine wpAny_Call_Name_kw (ld_glob I hg hm ?_ hdb)
  refine PySem.W.callWith_K (h₀ := X.base) I.ok.mod.kin hk ?_ (by rfl) (by rfl)
  show wpAny _ _ (spliced ((false, eval (.Lambda params body scope lpos) X.env) :: backTo pos (starEach [] X.env))) _ _ s
  refine Calls.spliced_cons (lam_make2 I TB hcode List.mem_cons_self (fun p hp _ => by rw [List.mem_singleton.mp hp]) tabs hdef (L.has I.ok) fun f c' pm' ctv H1 s' I1 eN T1 hf hfn hfr hco => ?_)
  refine Calls.spliced_nil ⟨I1.kIn, ?_⟩
  have ran : codeAny (model X.prog X.w) X.A (.call (.ref g) ⟨[.ref f], []⟩) (CR C8.CX0 X.stack X.prog X.w H1 s' Q C8.E0) s' := by
    refine run_ofS (N := Ng) (ps := [a]) (us := [.ref f]) (vs := [.ref f]) known hcg Sg hr I1.env0 (hb s' [.ref f] I1.kIn rfl) (.cons rfl .nil) rfl fun hr' => ?_
    obtain ⟨t', reads, wants⟩ := hG cdv f c' s' H1 Q (fun E H' Q' => t E σ H' Q') (fun W pn xe E p1 p2 tk hW => act_at (i := 0) I1 L hf hfn hfr (hbind _ _ _ _ _) tk hW hr' (fun A outer s H E hr2 => hbody A outer s H E f c' hr2) hNg hva hd hcd) hco (goal H1 eN T1)
    exact ⟨t', reads.nox, wants⟩
  refine wpAny_call (codeAny_mono ran fun r s2 hq => ?_)
  match r, hq with
  | .error e, hq => exact (show False from hq).elim
  | .ok (.ret u), hq => exact I1.after hq
  | .ok .next, hq => exact False.elim hq
  | .ok .brk, hq => exact False.elim hq
  | .ok .cont, hq => exact False.elim hq
/-- a() within try, a what was got -/
def tAsk (f c' : Addr) (q : Str) (tl : XK → Hp → VK → Prop) (W : WX) : TS := fun D σ H => ∃ E : XK, (∀ cls d H', E cls d H' → W cls d σ H') ∧ σ[0]? = some (some (.ref f)) ∧ H c' = some (CodeO c' q) ∧ tl E H (fun _ H' => D.nx σ H')
theorem ps_ask {Y : Cx} {W : WX} {a : Str} {f c' : Addr} {q : Str} {tl : XK → Hp → VK → Prop} {p1 p2 p3 : Pos}
    (act : ∀ (E : L2.St → XK) (p1 p2 : Pos), Takes Y W → (∀ σ' cls d H', E σ' cls d H' → W cls d σ' H') → PE Y (.Call (.Name a p1) [] [] p2) (fun σZ HZ Q => σZ[0]? = some (some (.ref f)) ∧ HZ c' = some (CodeO c' q) ∧ tl (E σZ) HZ Q)) (tk : Takes Y W) :
    PS Y (.Expr (.Call (.Name a p1) [] [] p2) p3) (tAsk f c' q tl W) := by
  refine ⟨fun pins s σ H D I h => ?_⟩
  obtain ⟨E, hW, h1, h2, h3⟩ := h
  have e : (fun cls d H' => σ = σ ∧ E cls d H') = E := by
    funext cls d H'
    exact propext ⟨fun z => z.2, fun z => ⟨rfl, z⟩⟩
  refine (ps_expr (pos := p3) (act (fun σ' cls d H' => σ' = σ ∧ E cls d H') p1 p2 tk (fun σ' cls d H' z => by rw [z.1]; exact hW cls d H' z.2))).run pins s σ H D I ⟨h1, h2, ?_⟩
  show tl (fun cls d H' => σ = σ ∧ E cls d H') H _
  rw [e]
  exact h3
/-! a field's reading -/
def fldK (K : PySem.W.Frag) (f : Str) (Q : VK) : VK := fun x H1 => ∃ a C dx fs v, x = .ref a ∧ H1 a = some (.ins C dx fs) ∧ Cls K C ∧ NoAttr K C f ∧ fs.lookup f = some v ∧ Q v H1
theorem r_F {K : PySem.W.Frag} {f : Str} {te : TE} {σ : L2.St} {H : Hp} {Q : VK} (q : te σ H (fldK K f Q)) : tFld K te f σ H Q := q
theorem r_gUnl {K : PySem.W.Frag} {n : Nat} {gs : TGs} {p : Addr} {xs : List V} {σ : L2.St} {H : Hp} {N : L2.St → Hp → Prop} (h : H p = some (.lst xs)) (l : xs.length = n) (q : gs xs σ H N) : gUnl K n gs (.ref p) σ H N := ⟨p, xs, rfl, SqL.of h, l, q⟩
end GS
/-! A list comprehension whose element may raise, out of a call. -/
namespace GS
open PySem PySem.Spec PySem.Calls PyProof.Rows L2
/-- frames over a smaller ground -/
theorem ff_less {h B B' : Heap} (n : ∀ b, B.get? b = none → B'.get? b = none) : ∀ {l : List Env}, h.FunFrames B l → h.FunFrames B' l
  | [], _ => trivial
  | _ :: _, ⟨k, ⟨L, o, f, b, r⟩, t⟩ => ⟨k, ⟨L, o, f, n L b, r⟩, ff_less n t⟩
theorem hid_none {h : Heap} {C b : Addr} (e : h.get? b = none) : (PySem.W.hideAll h [C]).get? b = none := by
  cases q : (PySem.W.hideAll h [C]).get? b with
  | none => rfl
  | some o =>
    have z := PySem.W.of_hideAll _ q
    rw [e] at z
    cases z
theorem hid_ne {h : Heap} {C b : Addr} {o : Obj} (e : (PySem.W.hideAll h [C]).get? b = some o) : b ≠ C := by
  rintro rfl
  rw [PySem.W.hideAll_none [b] (List.mem_singleton.mpr rfl)] at e
  cases e
theorem held_hid {B h1 h2 : Heap} {l : List Env} {a C L : Addr} {Z : Obj → Prop} {m1 m2 : Str → Option Value} (n1 : h1.Ns C m1) (n2 : h2.Ns C m2) (sb : Heap.SameBut C h1 h2) (hh : HandSPX.HeldZ B l a Z L h1) : HandSPX.HeldZ (PySem.W.hideAll B [C]) l a Z L h2 := by
  obtain ⟨st, an, ff, oe, vs, T, oT, ts, e1, e2, e3, e4, e5, e6, e7, e8, e9⟩ := hh
  have noF : ∀ b o vs, h1.get? b = some o → o.data = .fields vs → b ≠ C := fun b o vs e z q => by
    obtain ⟨oc, _, _, hc, hd, _⟩ := n1
    rw [q, hc] at e
    cases e
    rw [hd] at z
    cases z
  refine ⟨fun b o e => ?_, hid_none an, ff_less (fun b e => hid_none e) (Heap.FunFrames.sameBut sb n2 ff), oe, vs, T, oT, ts, ?_, e2, e3, e4, hid_none e5, e6, ?_, e8, e9⟩
  · rw [sb.2 b (hid_ne e)]
    exact st b o (PySem.W.of_hideAll _ e)
  · rw [sb.2 a (noF _ _ _ e1 e3)]
    exact e1
  · rw [sb.2 T (noF _ _ _ e7 e8)]
    exact e7
section
variable {X : Cx} {pins : List (Addr × Obj)} {σ : L2.St} {H : Hp} {s : Shared}
theorem comp_fails {s3 : Shared} (I3 : Inv X pins σ H s3) {W : WX} {E : XK} (tk : Takes X W) (hW : ∀ cls d σ H, E cls d H → W cls d σ H) (hst : X.stack = X.env :: X.outer) (hf : X.env.frame = some X.env.locals) {scope : Scope} {ce : Env} {fp : List Addr}
    (cL : ce.locals = s3.heap.objs.size) (cF : ce.frame = X.env.frame) (f3 : ∀ b ∈ fp, FpOk X pins H b) {pn pins' : List (Addr × Obj)} {xe : Value → Shared → Prop} {σ' : L2.St} {H' : Hp} {s s' : Shared} {e : Value}
    (J : Inv ((X.blk s3 H scope ce fp).tr pn xe) pins' σ' H' s) (c : L2.CX X.prog X.w X.stack H' s E e s') : notedBy (model X.prog X.w) X.A ce (CompFails (model X.prog X.w) X.A X.xe ce) e s' := by
  obtain ⟨a, B, sI, pins1, σ1, H1, cls, d, rfl, J1, nb, up, sky, na, os, ag, w⟩ := XE.of_call (W := fun cls d _ H => E cls d H) J (fun _ _ _ h => h) c
  have fl : HandSPX.FlyingZ B X.stack a (Zc cls d) s'.heap := by
    obtain ⟨a', B', H'', cls', d', ea, fl', _⟩ := c
    cases ea
    obtain ⟨_, _, _, oe', vs', T', oT', ts', g1, g2, g3, g4, g5, g6, g7, g8, g9⟩ := fl'
    rcases sky with ⟨_, _, _, oe, vs, k1, k2, k3, k4⟩ | f | ⟨_, _, _, oe, vs, T, oT, ts, k1, k2, k3, k4, k5, k6, k7, k8, k9⟩
    · exfalso
      rw [g1] at k1
      cases k1
      rw [g3] at k3
      cases k3
      rw [g4] at k4
      cases k4
    · exact f
    · exfalso
      rw [g1] at k1
      cases k1
      rw [g3] at k3
      cases k3
      rw [g4] at k4
      cases k4
      rw [g7] at k7
      cases k7
      rw [g8] at k8
      cases k8
      rw [g9] at k9
      exact absurd (Option.some.inj k9) (by simp [rawInt])
  have IX : Inv X pins σ H1 sI := I3.call' (ch := fp) J1.os J1.base J1.hok J1.bare fun b hb => ⟨(f3 b hb).2.2.2.1, (f3 b hb).2.1, (f3 b hb).2.2.2.2.1, (f3 b hb).2.2.2.2.2⟩
  have nC : H1 ce.locals = none := J1.free
  have fC : FpOk X pins H1 ce.locals := by
    have z := nC
    rw [cL] at z ⊢
    exact I3.fpOk (Nat.le_refl _) z
  have IX2 : Inv X pins σ H1 { sI with heap := PySem.W.hideAll sI.heap [ce.locals], toks := sI.toks } := IX.turned (fun b o n e => PySem.W.hideAll_get _ e (by simpa using n)) fC.1 fC.2.1 fC.2.2.2.1 fC.2.2.2.2.1 fC.2.2.2.2.2
  have hfr : X.A.frames = some (X.env :: X.outer) := by rw [I3.ok.frames, hst]
  show wpAny (model X.prog X.w) X.A (noteFrame (.ref a) ce) _ _ s'
  rw [noteFrame_env _ cF]
  refine HandSPX.looks_onZ Zc.steady hfr hf (by rw [← hst]; exact fl) fun h1 hh1 up1 => ?_
  obtain ⟨m, hn, _⟩ := J1.loc
  have hn1 := Heap.UpToSlots.ns up1 (Heap.UpToSlots.ns up hn)
  refine ⟨m, hn1, fun h2 m2 hn2 hs2 => ?_⟩
  have hh2 := held_hid hn1 hn2 hs2 hh1
  obtain ⟨_, _, _, oe, vs, T, _, _, t1, _, t3, t4, _⟩ := id hh2
  unfold PySem.passOn
  refine wpAny_bind (wpAny_field t1 t3 t4 ?_)
  rw [if_neg (show ¬ ((Value.ref T == Value.none) = true) from by simp)]
  have fin : wpAny (model X.prog X.w) X.A (setFlight (.ref a) ce.frame) (fun _ s4 => wpAny (model X.prog X.w) X.A (throw (.ref a) : Sem Value) (fun _ _ => False) X.xe s4) X.xe { s' with heap := h2 } := by
    rw [cF, hf]
    refine HandSPX.setFlight_onZ hh2 fun h3 hh3 up3 => wpAny_throw (tk _ _ ?_)
    refine ⟨a, PySem.W.hideAll B [ce.locals], _, pins, σ, H1, cls, d, rfl, IX2, fun b o z hb => PySem.W.hideAll_get [ce.locals] (nb b o (PySem.W.of_hideAll _ z) hb) (by simpa using hid_ne z), fun b o z nf => ?_, .inr (.inr (by rw [hst]; exact hh3)), na, os, ag, hW _ _ _ _ w⟩
    obtain ⟨l1, q1⟩ := up b o (PySem.W.of_hideAll _ z) nf
    obtain ⟨l2, q2⟩ := up1 b _ q1 nf
    have q3 : h2.get? b = _ := (hs2.2 b (hid_ne z)).trans q2
    obtain ⟨l3, q4⟩ := up3 b _ q3 nf
    exact ⟨l3, q4⟩
  first
    | exact wpAny_bind (wpAny_pure (wpAny_bind fin))
    | exact wpAny_bind fin
/-- THE RULE: [elt for tg in iter if ..], elt may let out what a call in it lets out -/
theorem pe_lcE {W : WX} {E : XK} {elt tg iter : Expr} {ifs : List Expr} {scope : Scope} {own : List (Str × Nat)} {pos : Pos} {wi : TI} {g : TG} {tt : TT} {te : TE} (tk : Takes X W) (hW : ∀ cls d σ H, E cls d H → W cls d σ H) (hst : X.stack = X.env :: X.outer) (hf : X.env.frame = some X.env.locals)
    (hc : X.calm = true) (hN : X.N.Nodup) (hi : PI X tg iter wi) (ok : BlkOk X.N X.env.scope scope own) (hg : ∀ (s : Shared) (H : Hp) (C : Addr) (cl : List (Str × Addr)) (fp : List Addr), PG (X.blk s H scope (compEnvC scope cl C X.env) fp) tg g)
    (ht : ∀ (s : Shared) (H : Hp) (C : Addr) (cl : List (Str × Addr)) (fp : List Addr), PTs (X.blk s H scope (compEnvC scope cl C X.env) fp) ifs tt)
    (he : ∀ (s : Shared) (H : Hp) (C : Addr) (cl : List (Str × Addr)) (fp : List Addr) (pn : List (Addr × Obj)) (xe : Value → Shared → Prop), Passes (L2.CX X.prog X.w) ((X.blk s H scope (compEnvC scope cl C X.env) fp).tr pn xe) E → PE ((X.blk s H scope (compEnvC scope cl C X.env) fp).tr pn xe) elt te)
    (hs : ∀ x, foldedSetIterable iter X.env x = pure x := by intro _; rfl) : PE X (.ListComp elt [⟨tg, iter, ifs, 0⟩] scope pos) (tLc wi g tt te (own.map (·.2))) := by
  refine ⟨fun pins s σ H Q I h => ?_⟩
  rw [eval_ListComp]
  have free : ∀ y ∈ scope.names, y.2 = .free → ∃ c, X.env.cells.lookup y.1 = some c := fun y hy e => (ok.free y hy e).elim (fun k => I.ok.has _ (.inl k)) fun k => I.ok.has _ (.inr k)
  refine comprehension_at (use := none) rfl hs (closure_ok free) ok.kind (fun y hy e => by rw [ok.uniq y hy, e]) (thn (hi.run pins s σ H _ I h) fun _ _ hx => thn hx fun _ s2 h2 => ?_)
  obtain ⟨it, fp, tn, J, H2, rfl, I2, T, st2, f2, q⟩ := h2
  refine wpAny_newObj_type (newEnv_comp ?_) (by show 0 ≤ sizeLine; decide)
  generalize hL : s2.heap.objs.size = L
  have nL : H2 L = none := I2.hok.fresh (Nat.le_of_eq hL)
  obtain ⟨V, ⟨m0, v0⟩, turn⟩ := q L nL
  generalize hs3 : ({ s2 with heap := s2.heap.push { cls := .type "list", data := .seq ([] : List Value).toArray } } : Shared) = s3
  have h3 : s3.heap = s2.heap.push { cls := .type "list", data := .seq ([] : List Value).toArray } := by rw [← hs3]
  have grow : ∀ b o, s2.heap.get? b = some o → s3.heap.get? b = some o := fun b o e => by rw [h3]; exact Heap.get?_push_of_some _ e
  have I3 : Inv X pins σ (upd H2 L (.lst [])) s3 := by
    rw [← hs3]
    refine I2.laid (t' := s2.toks) (fun b o e => Heap.get?_push_of_some _ e) (Nat.le_of_eq hL) ⟨Nat.zero_le _, [], 0, .nil, ?_⟩
    rw [← hL]; exact Heap.get?_push_size _ rfl
  have lt2 : ∀ b ∈ fp, b < s2.heap.objs.size := fun b hb => let ⟨_, e, _⟩ := T.obj _ _ st2 b hb; Heap.lt_size e
  have f3 : ∀ b ∈ fp, FpOk X pins (upd H2 L (.lst [])) b ∧ b < s3.heap.objs.size := fun b hb => by
    refine ⟨⟨?_, (f2 b hb).2⟩, by rw [h3, Heap.size_push]; exact Nat.lt_succ_of_lt (lt2 b hb)⟩
    rw [upd_ne (by rw [← hL]; exact Nat.ne_of_lt (lt2 b hb))]; exact (f2 b hb).1
  have st3 : tn 0 s3.heap := T.keep _ _ _ st2 fun b _ o e => grow b o e
  have I4 := block_start I3 ok hN f3
  have pg := hg s3 (upd H2 L (.lst [])) s3.heap.objs.size (cellsFrom (s3.heap.objs.size + 1) scope.names (cloFrom X.env.cells scope.names [])) fp
  have pt := ht s3 (upd H2 L (.lst [])) s3.heap.objs.size (cellsFrom (s3.heap.objs.size + 1) scope.names (cloFrom X.env.cells scope.names [])) fp
  have pe := he s3 (upd H2 L (.lst [])) s3.heap.objs.size (cellsFrom (s3.heap.objs.size + 1) scope.names (cloFrom X.env.cells scope.names [])) fp
  show codeAny _ _ (.compStart (.ListComp elt [⟨tg, iter, ifs, 0⟩] scope pos) 0 (.ref it) (.ref L) (compEnvC scope (cellsFrom (s3.heap.objs.size + 1) scope.names (cloFrom X.env.cells scope.names [])) s3.heap.objs.size X.env)) (compEnds (model X.prog X.w) X.A X.xe none (EP X pins σ Q) (.ref L) (compEnvC scope (cellsFrom (s3.heap.objs.size + 1) scope.names (cloFrom X.env.cells scope.names [])) s3.heap.objs.size X.env)) { s3 with heap := pushCells (s3.heap.push { cls := .type "dict", data := .dict #[] }) scope.names }
  generalize hce : compEnvC scope (cellsFrom (s3.heap.objs.size + 1) scope.names (cloFrom X.env.cells scope.names [])) s3.heap.objs.size X.env = ce at I4 pg pt pe ⊢
  have cL : ce.locals = s3.heap.objs.size := by subst hce; rfl
  have cF : ce.frame = X.env.frame := by subst hce; rfl
  have no0 : ∀ b ∈ fp, (upd H2 L (.lst [])) b = none := fun b hb => (f3 b hb).1.1
  generalize hH3 : upd H2 L (.lst []) = H3 at I3 I4 pg pt pe v0 no0 f3
  generalize hs4 : ({ s3 with heap := pushCells (s3.heap.push { cls := .type "dict", data := .dict #[] }) scope.names } : Shared) = s4 at I4 ⊢
  have st4 : tn 0 s4.heap := T.keep _ _ _ st3 fun b _ o e => by rw [← hs4]; exact pushCells_keeps _ _ _ _ (Heap.get?_push_of_some _ e)
  have quiet : ∀ {σ' : L2.St} {H' : Hp} {s' : Shared}, Inv (X.blk s3 H3 scope ce fp) [] σ' H' s' → (∀ b ∈ fp, H' b = none) → ∀ b ∈ fp, FpOk (X.blk s3 H3 scope ce fp) [] H' b := fun {σ' H' s'} I' n b hb =>
    ⟨n b hb, (I'.ok.exf b hb).1, I'.ok.exfs b hb, .inl hb, fun x c e => (I'.ok.exf b hb).2 x c e, fun p hp => nomatch hp⟩
  have loop : codeAny (model X.prog X.w) X.A (.compLoop (.ListComp elt [⟨tg, iter, ifs, 0⟩] scope pos) 0 (.ref it) (.ref L) ce) (compEnds (model X.prog X.w) X.A X.xe none (EP X pins σ Q) (.ref L) ce) s4 := by
    refine compLoop_any (fun n s' => ∃ i H', Inv (X.blk s3 H3 scope ce fp) [] (wipe σ (own.map (·.2))) H' s' ∧ tn i s'.heap ∧ (∀ b ∈ fp, H' b = none) ∧ V i n H') ?_ m0 ⟨0, H3, I4, st4, no0, v0⟩
    rintro n s5 ⟨i, H5, I5, st5, n5, v5⟩
    rcases turn i n H5 v5 with ⟨stop, done⟩ | ⟨go, Nx, hNx, step⟩
    · refine thnF (T.done (X.blk s3 H3 scope ce fp) rfl rfl rfl hc i [] s5 _ H5 (fun _ _ => False) I5 (quiet I5 n5) st5 stop) fun r s6 ⟨hr, I6⟩ => ?_
      subst hr
      have I7 : Inv X pins σ H5 s6 := I3.call' (ch := fp) I6.os I6.base I6.hok I6.bare fun b hb => let z := (f3 b hb).1; ⟨z.2.2.2.1, z.2.1, z.2.2.2.2.1, z.2.2.2.2.2⟩
      have z : H5 ce.locals = none := I6.free
      obtain ⟨m, hn, _⟩ := I6.loc
      refine ⟨m, hn, fun h'' sb => ?_⟩
      rw [cL] at z sb
      obtain ⟨k0, k1, k2, k3, k4, k5⟩ := I3.fpOk (Nat.le_refl _) z
      exact ⟨.ref L, H5, I7.turned (t' := s6.toks) (fun b o hb e => (sb.2 b hb).trans e) k0 k1 k3 k4 k5, rfl, done⟩
    · refine thnF (T.item (X.blk s3 H3 scope ce fp) rfl rfl rfl hc i [] s5 _ H5 (fun _ _ => False) I5 (quiet I5 n5) st5 go) fun r s6 ⟨u, hr, h6⟩ => ?_
      subst hr
      refine thnF h6 fun _ s7 ⟨x, H7, I7, r7, y7, st7, n7⟩ => ?_
      have I7p := I7.pinned (quiet I7 n7) (T.obj _ _ st7)
      refine thnF (pg.run _ s7 _ H7 x u _ I7p r7 (step x H7 y7)) fun _ s8 ⟨σ8, H8, I8, w8, q8⟩ => ?_
      refine thnF (pt.run _ s8 σ8 H8 _ I8 q8) fun b s9 ⟨H9, I9, q9⟩ => ?_
      have fin : ∀ {s' : Shared} {H' : Hp}, Inv (X.blk s3 H3 scope ce fp) ([] ++ pinsAt fp s7.heap) σ8 H' s' → Nx H' → ∃ m, m < n ∧ ∃ i H', Inv (X.blk s3 H3 scope ce fp) [] (wipe σ (own.map (·.2))) H' s' ∧ tn i s'.heap ∧ (∀ b ∈ fp, H' b = none) ∧ V i m H' := fun {s' H'} I' nx => by
        obtain ⟨m', hm, v'⟩ := hNx H' nx
        have at_ : ∀ b ∈ fp, ∀ o, s7.heap.get? b = some o → s'.heap.get? b = some o ∧ H' b = none := fun b hb o e => let z := I'.pin (b, o) (List.mem_append_right _ (List.mem_append_right _ (mem_pinsAt hb e))); ⟨z.1, z.2.1⟩
        refine ⟨m', hm, i + 1, H', (I'.unpinned (pins := [])).weak (by rw [← w8, wipe_length]) (fun j v e => ?_), T.keep _ _ _ st7 fun b hb o e => (at_ b hb o e).1, fun b hb => ?_, v'⟩
        · rw [← w8] at e; exact (wipe_some e).1
        · obtain ⟨o, e, _⟩ := T.obj _ _ st7 b hb
          exact (at_ b hb o e).2
      cases b with
      | false => simp only [Bool.false_eq_true, if_false] at q9 ⊢; exact fin I9 q9
      | true =>
        simp only [if_true] at q9 ⊢
        have okB := I9.ok
        have pass : Passes (L2.CX X.prog X.w) ((X.blk s3 H3 scope ce fp).tr ((X.blk s3 H3 scope ce fp).pn ++ ([] ++ pinsAt fp s7.heap)) (fun e s' => notedBy (model X.prog X.w) X.A ce (CompFails (model X.prog X.w) X.A X.xe ce) e s')) E := fun _ _ _ _ _ _ Jb c => comp_fails I3 tk hW hst hf cL cF (fun b hb => (f3 b hb).1) Jb c
        refine wpAny_mono ((pe _ _ pass).run [] s9 σ8 H9 _ (I9.toTry _) q9) (fun z s10 ⟨yv, H10, I10, r10, acc, hD10, hz10, nx⟩ => ?_) fun _ _ f => f
        have I10' := I10.ofTry okB
        exact app_ok (X := X.blk s3 H3 scope ce fp) I10' hD10 hz10 r10 fun s11 I11 => fin I11 nx
  exact codeAny_compStart_list loop (T.self X.A 0 _ _ _ st4 loop)
end
end GS
/-! Rules whose K is told by an equation, for comprehensions. -/
namespace GS
open PySem PySem.Spec PyProof.Rows L2
theorem kx_ixs {X : Cx} {K : PySem.W.Frag} (h : X.K = K) : IxR X (rIx K) := by
  subst h
  exact ix_seq
theorem kx_sll {X : Cx} {K : PySem.W.Frag} (h : X.K = K) : SlR X (rSlL K) := by
  subst h
  exact sl_list
theorem kx_listOf {X : Cx} {K : PySem.W.Frag} (h : X.K = K) : CallR X (.type "list") (fun xs H Q => ∃ p ys, xs = [V.ref p] ∧ (SqL K H p ys ∨ SqT K H p ys) ∧ ∀ l, H l = none → Q (.ref l) (upd H l (.lst ys))) := by
  subst h
  exact call_list_of
theorem kx_slt {X : Cx} {K : PySem.W.Frag} (h : X.K = K) : SlR X (rSlT K) := by
  subst h
  exact sl_tup
end GS
namespace GS
open PySem PySem.Spec PyProof.Rows L2
section
variable {X : Cx}
/-- C.m(k = v, ..), m a staticmethod -/
def tSMethN (C : Addr) (nk : Nat) (sp : Sp) (gV : List V → List V → List V) (E : XK) (ta : TE) (tk : TA) : TE := fun σ H Q => ta σ H fun x H1 => x = .ref C ∧ tk σ H1 fun zs H2 => zs.length = nk ∧ sp (gV [] zs) H2 Q E
theorem pe_smethK0 {CX : CXT} {k : Nat} {C p g : Addr} {mc : Value} {fd : FuncData} {ps ks : List PySem.Str} {sp : Sp} {E : XK} {o : Expr} {m : PySem.Str} {pos apos : Pos} {ta : TE} {tk : TA} {kws : List Keyword} {gg : List Value → List Value → List Value} {gV : List V → List V → List V} {pl : Sem Bool}
    (he : PE X o ta) (r : ClX.CRead X.K C mc) (c : SMet X.K C mc m p g) (F : FnOk X.prog X.w X.K X.mg X.base CX k g fd ps sp) (hk : PySem.W.keepIn X.K (.ref g) = true) (hr : Room k X.A) (kb : KBn X.K fd ps 0 ks gg gV) (hx : Passes CX X E) (hw : PK X kws tk)
    (named : (backToKw pos (keywordEach kws X.env)).all (·.1.isSome) = true := by rfl) (names : (backToKw pos (keywordEach kws X.env)).filterMap (·.1) = ks := by rfl)
    (plain : ((backTo pos (starEach [] X.env)).any (·.1) || (backToKw pos (keywordEach kws X.env)).any (·.1.isNone)) = false := by rfl)
    (ht : eval (.Call (.Attribute o m apos) [] kws pos) X.env = (do let ov ← eval o X.env; standAt apos.atName; let (f, first) ← holding [ov] (getMethod ov m pl); callWith pos f first (backTo pos (starEach [] X.env)) (backToKw pos (keywordEach kws X.env))) := by rfl) :
    PE X (.Call (.Attribute o m apos) [] kws pos) (tSMethN C ks.length sp gV E ta tk) := by
  refine ⟨fun pins s σ H Q I h => PySem.W.methodCall_KW (pl := pl) (thn (he.run pins s σ H _ I h) fun u s1 ⟨x, H1, I1, rx, ex, q⟩ => ?_) ht⟩
  subst ex
  obtain rfl : u = Value.ref C := rx
  obtain ⟨rest, hp⟩ := c.rc
  refine PySem.W.method_cls I1.kIn r.ga (PySem.W.cls_bind I1.kIn r.rd c.at_ (wpAny_call (PySem.W.sm_get (s := { s1 with toks := s1.toks + 1 }) I1.kIn hp (PySem.W.handed_on rfl ?_))))
  have I2 := I1.tok (s1.toks + 1)
  refine PySem.W.callWith_KW0 (h₀ := X.base) I2.ok.mod.kin hk named (thn (hw.run pos pins _ σ H1 _ I2 q) fun ws s3 ⟨zs, H2, I3, rz, m2, q2⟩ => ⟨I3.kIn, ?_⟩) plain
  rw [names]
  exact run_fnN (us := []) (vs := []) F hr kb hx I3 .nil rz rfl m2 q2
/-- C.m(e, ..), m a staticmethod, inside try -/
def tSMethS (C : Addr) (sp : Sp) (E : L2.St → XK) (ta : TE) (t : TA) : TE := fun σ H Q => ta σ H fun x H1 => x = .ref C ∧ t σ H1 fun vs H2 => sp vs H2 Q (E σ)
theorem pe_smethS {CX : CXT} {k : Nat} {C p g : Addr} {mc : Value} {fd : FuncData} {ps : List PySem.Str} {sp : Sp} {E : L2.St → XK} {o e : Expr} {es : List Expr} {m : PySem.Str} {pos apos : Pos} {ta : TE} {t : TA} {pl : Sem Bool}
    (he : PE X o ta) (r : ClX.CRead X.K C mc) (c : SMet X.K C mc m p g) (F : FnOk X.prog X.w X.K X.mg X.base CX k g fd ps sp) (hk : PySem.W.keepIn X.K (.ref g) = true) (hr : Room k X.A) (hb : Binds X.K fd ps []) (hx : ∀ σ, PassesAt CX X σ (E σ)) (ha : PA X (e :: es) t)
    (hst : starEach (e :: es) X.env = (false, eval e X.env) :: starEach es X.env := by rfl) (hpl : (backTo pos (starEach es X.env)).any (·.1) = false := by rfl)
    (ht : eval (.Call (.Attribute o m apos) (e :: es) [] pos) X.env = (do let ov ← eval o X.env; standAt apos.atName; let (f, first) ← holding [ov] (getMethod ov m pl); callWith pos f first (backTo pos (starEach (e :: es) X.env)) (backToKw pos (keywordEach [] X.env))) := by rfl) :
    PE X (.Call (.Attribute o m apos) (e :: es) [] pos) (tSMethS C sp E ta t) := by
  refine ⟨fun pins s σ H Q I h => PySem.W.methodCall_KW (pl := pl) (thn (he.run pins s σ H _ I h) fun u s1 ⟨x, H1, I1, rx, ex, q⟩ => ?_) ht⟩
  subst ex
  obtain rfl : u = Value.ref C := rx
  obtain ⟨rest, hp⟩ := c.rc
  refine PySem.W.method_cls I1.kIn r.ga (PySem.W.cls_bind I1.kIn r.rd c.at_ (wpAny_call (PySem.W.sm_get (s := { s1 with toks := s1.toks + 1 }) I1.kIn hp (PySem.W.handed_on rfl ?_))))
  have I2 := I1.tok (s1.toks + 1)
  refine PySem.W.callWith_K (h₀ := X.base) I2.ok.mod.kin hk (thn (ha.run pos pins _ σ H1 _ I2 q) fun us s3 ⟨vs, H2, I3, rv, q2⟩ => ⟨I3.kIn, ?_⟩) hst hpl
  exact run_fnS F hr hb (hx σ) I3 rv q2
end
end GS
namespace GS
open PySem PySem.Spec PyProof.Rows L2
theorem kx_neD {X : Cx} {K : PySem.W.Frag} (h : X.K = K) (hu : X.A.units + 64 < cLine) : OpR X (compareOp .NotEq) (rNeD K) := by
  subst h
  exact op_neD hu
theorem kx_eqD {X : Cx} {K : PySem.W.Frag} (h : X.K = K) (hu : X.A.units + 64 < cLine) : OpR X (compareOp .Eq) (rEqD K) := by
  subst h
  exact op_eqD hu
/-- (a if t else b) as a test -/
def tIfT (t ta tb : TT) : TT := fun σ H Q => t σ H fun c H1 => if c = true then ta σ H1 Q else tb σ H1 Q
theorem pt_ifExp {X : Cx} {c a b : Expr} {pos : Pos} {t ta tb : TT} (hc : PT X c t) (ha : PT X a ta) (hb : PT X b tb) : PT X (.IfExp c a b pos) (tIfT t ta tb) := by
  refine ⟨fun pins s σ H Q I h => ?_⟩
  rw [arm_isTrue_IfExp]
  refine wpAny_bind (thn (hc.run pins s σ H _ I h) fun d s1 ⟨H1, I1, q1⟩ => ?_)
  cases d with
  | true => exact ha.run pins s1 σ H1 Q I1 q1
  | false => exact hb.run pins s1 σ H1 Q I1 q1
end GS
/-! Comprehensions whose elements are new lists. -/
namespace GS
open PySem PySem.Spec PyProof.Rows L2
/-- lists that were just laid, one a turn, none of them another's -/
theorem r_lcLs {J : It} {n : Nat} {G : Hp → Prop} {Y : Nat → Hp → V → Hp → Prop} {k : Nat} {te : TE} {σ : L2.St} {H1 : Hp} {Q : VK} (w : Walk J n G Y) (o : Nat → List V) (hn : n ≤ 50000) (hG : ∀ H' : Hp, Ex H1 H' → G H')
    (hw : ∀ x, wipe ((wipe σ [k]).set k (some x)) [k] = wipe σ [k])
    (he : ∀ i x H H', i < n → Ex H1 H → Y i H x H' → Ex H H' ∧ ∀ R : VK, (∀ t H4, Ex H' H4 → H' t = none → H4 t = some (.lst (o i)) → R (.ref t) H4) → te ((wipe σ [k]).set k (some x)) H' R)
    (q : ∀ p ts H', H1 p = none → Ex H1 H' → H' p = some (.lst (ts.map V.ref)) → ts.length = n → (p :: ts).Nodup → (∀ t ∈ ts, H1 t = none) → (∀ (j : Nat) (t : Addr), ts[j]? = some t → H' t = some (.lst (o j))) → Q (.ref p) H') : lcB J (gName k) tYes te [k] σ Q H1 := by
  refine r_lcP w (fun D i ys H => ∃ ts : List Addr, ys = ts.map V.ref ∧ ts.length = i ∧ (D :: ts).Nodup ∧ (∀ t ∈ ts, H1 t = none) ∧ ∀ (j : Nat) (t : Addr), ts[j]? = some t → H t = some (.lst (o j))) hn hG
    (fun D H e => ⟨[], rfl, rfl, by simp, (fun t h => nomatch h), fun j t h => by simp at h⟩) (fun D i ys H H' ⟨ts, h1, h2, h3, h4, h5⟩ b => ⟨ts, h1, h2, h3, h4, fun j t h => b _ _ (fun z => (List.nodup_cons.mp h3).1 (by rw [← z]; exact List.mem_of_getElem? h)) (h5 j t h)⟩) ?_ ?_
  · rintro D i x ys H H' hi hD e hd ⟨ts, rfl, h2, h3, h4, h5⟩ y N hN
    obtain ⟨e1, go⟩ := he i x H H' hi e y
    refine ⟨hw x, go N fun t H4 e4 ht ho => hN _ H4 (e1.trans e4) ⟨ts ++ [t], by simp, by simp [h2], ?_, fun u hu => ?_, fun j u hu => ?_⟩⟩
    · obtain ⟨n1, n2⟩ := List.nodup_cons.mp h3
      have tD : t ≠ D := fun z => by rw [z, e1 _ _ hd] at ht; cases ht
      have tts : t ∉ ts := fun z => by
        obtain ⟨j, hj⟩ := List.getElem?_of_mem z
        rw [e1 _ _ (h5 j t hj)] at ht
        cases ht
      refine List.nodup_cons.mpr ⟨fun z => ?_, List.nodup_append.mpr ⟨n2, by simp, fun a ha b hb => ?_⟩⟩
      · rcases List.mem_append.mp z with z | z
        · exact n1 z
        · exact tD (List.mem_singleton.mp z).symm
      · rw [List.mem_singleton.mp hb]
        rintro rfl
        exact tts ha
    · rcases List.mem_append.mp hu with z | z
      · exact h4 u z
      · rw [List.mem_singleton.mp z]
        exact (e.trans e1).free ht
    · rcases Nat.lt_or_ge j ts.length with c | c
      · rw [List.getElem?_append_left c] at hu
        exact e4 _ _ (e1 _ _ (h5 j u hu))
      · rw [List.getElem?_append_right c] at hu
        cases z : j - ts.length with
        | zero =>
          rw [z] at hu
          cases hu
          have : j = i := by omega
          rw [this]
          exact ho
        | succ m => rw [z] at hu; simp at hu
  · rintro D ys H' h1 h2 h3 h4 ⟨ts, rfl, g2, g3, g4, g5⟩
    exact q D ts H' h1 h2 h3 g2 g3 g4 g5
end GS
/-! Comprehensions with two for. -/
namespace GS
open PySem PySem.Spec PyProof.Rows L2
def flatV (F : Nat → List V) (i : Nat) : List V := ((List.range i).map F).flatten
theorem flatV_succ (F : Nat → List V) (i : Nat) : flatV F (i + 1) = flatV F i ++ F i := by
  unfold flatV
  rw [List.range_succ, List.map_append, List.flatten_append]
  simp
theorem flatV_len {F : Nat → List V} : ∀ i, (∀ j, j < i → (F j).length ≤ 200) → (flatV F i).length ≤ 200 * i
  | 0, _ => by simp [flatV]
  | i + 1, h => by
    rw [flatV_succ, List.length_append]
    have := flatV_len i fun j hj => h j (by omega)
    have := h i (by omega)
    omega
/-- tLc2 behind its outer walk -/
def lc2B (J : It) (g : TG) (tt : TT) (wi1 : TI) (g1 : TG) (tt1 : TT) (te : TE) (vs vs1 : List Nat) (σ : L2.St) (Q : VK) : Hp → Prop := fun H1 => tLc2 (fun _ H R => R J H) g tt wi1 g1 tt1 te vs vs1 σ H1 Q
theorem r_lc2 {wi wi1 : TI} {g g1 : TG} {tt tt1 : TT} {te : TE} {vs vs1 : List Nat} {σ : L2.St} {H : Hp} {Q : VK} (q : wi σ H fun J H1 => lc2B J g tt wi1 g1 tt1 te vs vs1 σ Q H1) : tLc2 wi g tt wi1 g1 tt1 te vs vs1 σ H Q := q
theorem if_go {A B : Prop} (h : A) : if true = true then A else B := by
  rw [if_pos rfl]
  exact h
/-- what an inner walk is to give -/
def inB2 (H1 : Hp) (f : List V) (k1 : Nat) (te : TE) (σ2 : L2.St) (J1 : It) : Prop := ∃ (G1 : Hp → Prop) (Y1 : Nat → Hp → V → Hp → Prop), Walk J1 f.length G1 Y1 ∧ (∀ H5, Ex H1 H5 → G1 H5) ∧
  ∀ j y H5 H6, j < f.length → Ex H1 H5 → Y1 j H5 y H6 → Ex H5 H6 ∧ ∀ N : VK, (∀ H7, Ex H6 H7 → N (f.getD j .non) H7) → te ((wipe σ2 [k1]).set k1 (some y)) H6 N
theorem r_lc2P {J : It} {n : Nat} {G : Hp → Prop} {Y : Nat → Hp → V → Hp → Prop} {k k1 : Nat} {wi1 : TI} {te : TE} {σ : L2.St} {H1 : Hp} {Q : VK} (w : Walk J n G Y) (F : Nat → List V) (hn : n ≤ 200) (hF : ∀ i, i < n → (F i).length ≤ 200) (hG : ∀ H' : Hp, Ex H1 H' → G H')
    (hw : ∀ x, wipe ((wipe σ [k, k1]).set k (some x)) [k, k1] = wipe σ [k, k1]) (hw1 : ∀ x y, wipe ((wipe ((wipe σ [k, k1]).set k (some x)) [k1]).set k1 (some y)) [k1] = wipe ((wipe σ [k, k1]).set k (some x)) [k1])
    (he : ∀ i x H H', i < n → Ex H1 H → Y i H x H' → Ex H H' ∧ ∀ R : It → Hp → Prop, (∀ J1, inB2 H1 (F i) k1 te ((wipe σ [k, k1]).set k (some x)) J1 → R J1 H') → wi1 ((wipe σ [k, k1]).set k (some x)) H' R)
    (q : ∀ p H', H1 p = none → Ex H1 H' → H' p = some (.lst (flatV F n)) → Q (.ref p) H') : lc2B J (gName k) tYes wi1 (gName k1) tYes te [k, k1] [k1] σ Q H1 := by
  intro D hD
  have mu : ∀ {H : Hp} {o : HO}, Ex H1 H → Ex H1 (upd H D o) := fun e => Ex.mut e hD
  have len : ∀ i, i ≤ n → (flatV F i).length ≤ 200 * i := fun i hi => flatV_len i fun j hj => hF j (by omega)
  refine ⟨fun i m H => i ≤ n ∧ m = n - i ∧ Ex H1 H ∧ H D = some (.lst (flatV F i)), ⟨n, Nat.zero_le _, by simp, mu (Ex.refl _), upd_same⟩, ?_⟩
  rintro i m H ⟨hi, rfl, e, hd⟩
  rcases Nat.lt_or_eq_of_le hi with c | rfl
  · refine .inr ⟨w.goes i H c (hG H e), fun H' => Ex H1 H' ∧ H' D = some (.lst (flatV F (i + 1))), fun H' h => ⟨n - (i + 1), by omega, by omega, rfl, h⟩, fun x H' y => ?_⟩
    obtain ⟨e1, go⟩ := he i x H H' c e (w.yields i H x H' c (hG H e) y)
    refine r_gName ⟨hw x, ?_⟩
    show wi1 _ _ _
    refine go _ fun J1 ⟨G1, Y1, w1, hG1, st⟩ => ?_
    have l1 := hF i c
    have l2 := len i hi
    refine ⟨fun j k H => j ≤ (F i).length ∧ k = (F i).length - j ∧ Ex H1 H ∧ H D = some (.lst (flatV F i ++ (F i).take j)), ⟨(F i).length, Nat.zero_le _, by simp, e.trans e1, by simpa using e1 _ _ hd⟩, ?_⟩
    rintro j kk H5 ⟨hj, rfl, e5, hd5⟩
    rcases Nat.lt_or_eq_of_le hj with cj | rfl
    · refine .inr ⟨w1.goes j H5 cj (hG1 H5 e5), fun H' => Ex H1 H' ∧ H' D = some (.lst (flatV F i ++ (F i).take (j + 1))), fun H' h => ⟨(F i).length - (j + 1), by omega, by omega, rfl, h⟩, fun z H6 y1 => ?_⟩
      obtain ⟨e6, go1⟩ := st j z H5 H6 cj e5 (w1.yields j H5 z H6 cj (hG1 H5 e5) y1)
      refine r_gName ⟨hw1 x z, ?_⟩
      show te _ _ _
      refine go1 _ fun H7 e7 => ⟨_, e7 _ _ (e6 _ _ hd5), ?_, mu ((e5.trans e6).trans e7), ?_⟩
      · refine sz_lt ?_
        rw [List.length_append, List.length_take]
        omega
      · rw [upd_same, List.append_assoc, List.take_add_one, List.getElem?_eq_getElem cj, List.getD_eq_getElem?_getD, List.getElem?_eq_getElem cj]
        rfl
    · refine .inl ⟨w1.stops H5 (hG1 H5 e5), e5, ?_⟩
      rw [hd5, List.take_length, flatV_succ]
  · exact .inl ⟨w.stops H (hG H e), q D H hD e hd⟩
end GS
/-! A field stored: the value is read first. -/
namespace GS
open PySem PySem.Spec PyProof.Rows L2
/-- sFld behind its value -/
def fldS (K : PySem.W.Frag) (ta : TE) (f : PySem.Str) (D : Ends) (σ : L2.St) : VK := fun y H1 => sFld K ta (fun _ H Q => Q y H) f D σ H1
theorem r_fldS {K : PySem.W.Frag} {ta tv : TE} {f : PySem.Str} {D : Ends} {σ : L2.St} {H : Hp} (q : tv σ H (fldS K ta f D σ)) : sFld K ta tv f D σ H := q
end GS
/-! zip, enumerate within comprehensions within comprehensions. -/
namespace GS
open PySem PySem.Spec PyProof.Rows L2
theorem kx_zipX {X : Cx} {K : PySem.W.Frag} (h : X.K = K) {e e2 : Expr} {ta : TA} {p pos tpos : Pos} {elts : List Expr} {kk : Nat} (hg : Gl X "zip") (hm : X.mg "zip" = none) (ha : PA X [e, e2] ta)
    (hs : starEach [e, e2] X.env = (false, eval e X.env) :: starEach [e2] X.env := by rfl) (hpl : (backTo pos (starEach [e2] X.env)).any (·.1) = false := by rfl) :
    PI X (.Tuple elts kk tpos) (.Call (.Name "zip" p) [e, e2] [] pos) (iZipX K ta) := by
  subst h
  exact pi_zipX hg hm ha hs hpl
theorem kx_enum {X : Cx} {K : PySem.W.Frag} (h : X.K = K) {e : Expr} {ta : TA} {p pos tpos : Pos} {elts : List Expr} {kk : Nat} (hg : Gl X "enumerate") (hm : X.mg "enumerate" = none) (ha : PA X [e] ta) (hs : starEach [e] X.env = [(false, eval e X.env)] := by rfl) :
    PI X (.Tuple elts kk tpos) (.Call (.Name "enumerate" p) [e] [] pos) (iEnum K ta) := by
  subst h
  exact pi_enum hg hm ha hs
end GS
/-! zip of three lists or tuples, in any mix. -/
namespace GS
open PySem PySem.Spec PyProof.Rows L2 TL
def ItzY (K : PySem.W.Frag) (t1 t2 t3 : Bool) (a b c : Addr) : It :=
  ⟨fun i H => ∃ (xs ys zs : List V) (x y z : V), SqX K H t1 a xs ∧ SqX K H t2 b ys ∧ SqX K H t3 c zs ∧ xs[i]? = some x ∧ ys[i]? = some y ∧ zs[i]? = some z,
    fun i H v H' => ∃ T x y z, v = .ref T ∧ H T = none ∧ H' = upd H T (.tup [x, y, z]) ∧ (∀ xs, SqX K H t1 a xs → xs[i]? = some x) ∧ (∀ ys, SqX K H t2 b ys → ys[i]? = some y) ∧ ∀ zs, SqX K H t3 c zs → zs[i]? = some z,
    fun i H => ∃ xs ys zs : List V, SqX K H t1 a xs ∧ SqX K H t2 b ys ∧ SqX K H t3 c zs ∧ i ≤ xs.length ∧ i ≤ ys.length ∧ i ≤ zs.length ∧ (i = xs.length ∨ i = ys.length ∨ i = zs.length)⟩
theorem turn_zipY {P : Program} {w : World} {K : PySem.W.Frag} {elts : List Expr} {kk : Nat} {tpos : Pos} {t1 t2 t3 : Bool} {a b c0 z TI TO i1 i2 i3 : Addr} (D : ZipSep3 z TI TO i1 i2 i3 [i1, a] [i2, b] [i3, c0]) :
    Turn P w K (.Tuple elts kk tpos) (ItzY K t1 t2 t3 a b c0) [z, TI, TO, i1, i2, i3] z (fun i h => IsZip h z TI TO .none ∧ IsTupOf3 h TI (.ref i1) (.ref i2) (.ref i3) ∧ (∃ x y u, IsTupOf3 h TO x y u) ∧ itAt h t1 i1 a i ∧ itAt h t2 i2 b i ∧ itAt h t3 i3 c0 i) where
  mem := by simp
  obj := fun i h st c hc => by
    obtain ⟨hz, hTI, ⟨x, y, u, hTO⟩, h1, h2, h3⟩ := st
    have e' : c = z ∨ c = TI ∨ c = TO ∨ c = i1 ∨ c = i2 ∨ c = i3 := by simpa using hc
    rcases e' with q | q | q | q | q | q
    · rw [q]; exact ⟨_, hz, fun v q => nomatch q⟩
    · rw [q]; exact ⟨_, hTI, fun v q => nomatch q⟩
    · rw [q]; exact ⟨_, hTO, fun v q => nomatch q⟩
    · rw [q]; exact itAt_obj h1
    · rw [q]; exact itAt_obj h2
    · rw [q]; exact itAt_obj h3
  keep := fun i h h' st k => by
    obtain ⟨hz, hTI, ⟨x, y, u, hTO⟩, h1, h2, h3⟩ := st
    exact ⟨k z (by simp) _ hz, k TI (by simp) _ hTI, ⟨x, y, u, k TO (by simp) _ hTO⟩, itAt_keep h1 fun o q => k i1 (by simp) o q, itAt_keep h2 fun o q => k i2 (by simp) o q, itAt_keep h3 fun o q => k i3 (by simp) o q⟩
  item := by
    intro X hP hw hK hc i pins s σ H E I hf st hg
    subst hP hw hK
    obtain ⟨hz, hTI, ⟨x0, y0, u0, hTO⟩, h1, h2, h3⟩ := st
    obtain ⟨xs, ys, zs, x, y, zz, hqx, hqy, hqz, hx, hy, hzz⟩ := hg
    obtain ⟨its, rv, p⟩ := sqX_get I hqx
    obtain ⟨its2, rv2, p2⟩ := sqX_get I hqy
    obtain ⟨its3, rv3, p3⟩ := sqX_get I hqz
    obtain ⟨u, hu, ru⟩ := rv.get hx
    obtain ⟨u2, hu2, ru2⟩ := rv2.get hy
    obtain ⟨u3, hu3, ru3⟩ := rv3.get hzz
    have hzl : z < s.heap.objs.size := Heap.lt_size hz
    have n1 : a ≠ i1 := fun e => by
      cases t1 with
      | true =>
        obtain ⟨o2, e2, c2, _⟩ := (show s.heap.IsTuple a its.toArray from p)
        obtain ⟨o3, e3, c3, _⟩ := (show s.heap.IsTupleIter i1 a i from h1)
        rw [← e, e2] at e3
        cases e3
        rw [c2] at c3
        exact absurd c3 (by decide)
      | false =>
        obtain ⟨o2, e2, c2, _⟩ := (show s.heap.IsList a its.toArray from p)
        obtain ⟨o3, e3, c3, _⟩ := (show s.heap.IsListIter i1 a i from h1)
        rw [← e, e2] at e3
        cases e3
        rw [c2] at c3
        exact absurd c3 (by decide)
    have n2 : b ≠ i2 := fun e => by
      cases t2 with
      | true =>
        obtain ⟨o2, e2, c2, _⟩ := (show s.heap.IsTuple b its2.toArray from p2)
        obtain ⟨o3, e3, c3, _⟩ := (show s.heap.IsTupleIter i2 b i from h2)
        rw [← e, e2] at e3
        cases e3
        rw [c2] at c3
        exact absurd c3 (by decide)
      | false =>
        obtain ⟨o2, e2, c2, _⟩ := (show s.heap.IsList b its2.toArray from p2)
        obtain ⟨o3, e3, c3, _⟩ := (show s.heap.IsListIter i2 b i from h2)
        rw [← e, e2] at e3
        cases e3
        rw [c2] at c3
        exact absurd c3 (by decide)
    have n3 : c0 ≠ i3 := fun e => by
      cases t3 with
      | true =>
        obtain ⟨o2, e2, c2, _⟩ := (show s.heap.IsTuple c0 its3.toArray from p3)
        obtain ⟨o3, e3, c3, _⟩ := (show s.heap.IsTupleIter i3 c0 i from h3)
        rw [← e, e2] at e3
        cases e3
        rw [c2] at c3
        exact absurd c3 (by decide)
      | false =>
        obtain ⟨o2, e2, c2, _⟩ := (show s.heap.IsList c0 its3.toArray from p3)
        obtain ⟨o3, e3, c3, _⟩ := (show s.heap.IsListIter i3 c0 i from h3)
        rw [← e, e2] at e3
        cases e3
        rw [c2] at c3
        exact absurd c3 (by decide)
    have k1 : i < its.toArray.size := by have := (List.getElem?_eq_some_iff.mp hu).1; simpa using this
    have k2 : i < its2.toArray.size := by have := (List.getElem?_eq_some_iff.mp hu2).1; simpa using this
    have k3 : i < its3.toArray.size := by have := (List.getElem?_eq_some_iff.mp hu3).1; simpa using this
    refine wpAny_pyNext_zipD3_item D (dr_at (prog := X.prog) (w := X.w) (A := X.A.in1) (I.ok.hd hc) t1 i1 a n1 its.toArray) (dr_at (prog := X.prog) (w := X.w) (A := X.A.in1) (I.ok.hd hc) t2 i2 b n2 its2.toArray) (dr_at (prog := X.prog) (w := X.w) (A := X.A.in1) (I.ok.hd hc) t3 i3 c0 n3 its3.toArray) hz hTI hTO ⟨h1, p⟩ ⟨h2, p2⟩ ⟨h3, p3⟩ k1 k2 k3 fun x1 x2 x3 h' tk y1 y2 y3 z' TO' st1' st2' st3' hT hsz hk => ?_
    have e1 : x1 = u := by have : its[i]? = some x1 := by simpa using y1
                           rw [hu] at this; exact (Option.some.inj this).symm
    have e2 : x2 = u2 := by have : its2[i]? = some x2 := by simpa using y2
                            rw [hu2] at this; exact (Option.some.inj this).symm
    have e3 : x3 = u3 := by have : its3[i]? = some x3 := by simpa using y3
                            rw [hu3] at this; exact (Option.some.inj this).symm
    subst e1 e2 e3
    refine ⟨_, rfl, wpAny_letOwnedTupleGo_zip (s := { s with heap := h', toks := tk }) z' fun h'' z'' sb => ?_⟩
    have hT2 : h''.get? s.heap.objs.size = some { cls := .type "tuple", data := .seq #[x1, x2, x3] } := (sb.2 _ (Nat.ne_of_gt hzl)).trans hT
    have new : ObjOk X.prog X.w (upd H s.heap.objs.size (.tup [x, y, zz])) h'' s.heap.objs.size (.tup [x, y, zz]) :=
      ⟨by show 3 ≤ sizeLine; decide, [x1, x2, x3], .cons ru (.cons ru2 (.cons ru3 .nil)), ⟨_, hT2, rfl, _, rfl⟩⟩
    have I1 : Inv X pins σ (upd H s.heap.objs.size (.tup [x, y, zz])) { s with heap := h'', toks := tk } :=
      I.turnedNew (t' := tk) (ch := [z, TI, TO, i1, i2, i3]) (fun c o hb q => (sb.2 c (fun q' => hb (by simp [q']))).trans (hk c o (fun q' => hb (by simp [q'])) (fun q' => hb (by simp [q'])) (fun q' => hb (by simp [q'])) (fun q' => hb (by simp [q'])) (fun q' => hb (by simp [q'])) q)) hf (Nat.le_refl _) new
    refine ⟨.ref s.heap.objs.size, _, I1, rfl, ⟨_, x, y, zz, rfl, I.hok.fresh (Nat.le_refl _), rfl, (fun l hl => by rw [sqX_inj I hl hqx]; exact hx), (fun l hl => by rw [sqX_inj I hl hqy]; exact hy), fun l hl => by rw [sqX_inj I hl hqz]; exact hzz⟩, ⟨z'', ?_, ⟨x1, x2, x3, ?_⟩, ?_, ?_, ?_⟩, fun c hcm => ?_⟩
    · exact (sb.2 _ D.TIz).trans (hk _ _ D.TIz D.TITO D.TIi1 D.TIi2 D.TIi3 hTI)
    · exact (sb.2 _ D.TOz).trans TO'
    · exact itAt_keep st1'.1 fun o q => (sb.2 _ (Ne.symm D.zi1)).trans q
    · exact itAt_keep st2'.1 fun o q => (sb.2 _ (Ne.symm D.zi2)).trans q
    · exact itAt_keep st3'.1 fun o q => (sb.2 _ (Ne.symm D.zi3)).trans q
    · have hlt : c < s.heap.objs.size := by
        have e' : c = z ∨ c = TI ∨ c = TO ∨ c = i1 ∨ c = i2 ∨ c = i3 := by simpa using hcm
        rcases e' with q | q | q | q | q | q
        · rw [q]; exact hzl
        · rw [q]; exact Heap.lt_size hTI
        · rw [q]; exact Heap.lt_size hTO
        · rw [q]; obtain ⟨_, e1, _⟩ := itAt_obj h1; exact Heap.lt_size e1
        · rw [q]; obtain ⟨_, e2, _⟩ := itAt_obj h2; exact Heap.lt_size e2
        · rw [q]; obtain ⟨_, e3, _⟩ := itAt_obj h3; exact Heap.lt_size e3
      rw [upd_ne (Nat.ne_of_lt hlt)]
      exact (hf c hcm).1
  done := by
    intro X hP hw hK hc i pins s σ H E I hf st hg
    subst hP hw hK
    obtain ⟨hz, hTI, ⟨x0, y0, u0, hTO⟩, h1, h2, h3⟩ := st
    obtain ⟨xs, ys, zs, hqx, hqy, hqz, l1, l2, l3, hend⟩ := hg
    obtain ⟨its, rv, p⟩ := sqX_get I hqx
    obtain ⟨its2, rv2, p2⟩ := sqX_get I hqy
    obtain ⟨its3, rv3, p3⟩ := sqX_get I hqz
    have m1 := rv.length
    have m2 := rv2.length
    have m3 := rv3.length
    have n1 : a ≠ i1 := fun e => by
      cases t1 with
      | true =>
        obtain ⟨o2, e2, c2, _⟩ := (show s.heap.IsTuple a its.toArray from p)
        obtain ⟨o3, e3, c3, _⟩ := (show s.heap.IsTupleIter i1 a i from h1)
        rw [← e, e2] at e3
        cases e3
        rw [c2] at c3
        exact absurd c3 (by decide)
      | false =>
        obtain ⟨o2, e2, c2, _⟩ := (show s.heap.IsList a its.toArray from p)
        obtain ⟨o3, e3, c3, _⟩ := (show s.heap.IsListIter i1 a i from h1)
        rw [← e, e2] at e3
        cases e3
        rw [c2] at c3
        exact absurd c3 (by decide)
    have n2 : b ≠ i2 := fun e => by
      cases t2 with
      | true =>
        obtain ⟨o2, e2, c2, _⟩ := (show s.heap.IsTuple b its2.toArray from p2)
        obtain ⟨o3, e3, c3, _⟩ := (show s.heap.IsTupleIter i2 b i from h2)
        rw [← e, e2] at e3
        cases e3
        rw [c2] at c3
        exact absurd c3 (by decide)
      | false =>
        obtain ⟨o2, e2, c2, _⟩ := (show s.heap.IsList b its2.toArray from p2)
        obtain ⟨o3, e3, c3, _⟩ := (show s.heap.IsListIter i2 b i from h2)
        rw [← e, e2] at e3
        cases e3
        rw [c2] at c3
        exact absurd c3 (by decide)
    have n3 : c0 ≠ i3 := fun e => by
      cases t3 with
      | true =>
        obtain ⟨o2, e2, c2, _⟩ := (show s.heap.IsTuple c0 its3.toArray from p3)
        obtain ⟨o3, e3, c3, _⟩ := (show s.heap.IsTupleIter i3 c0 i from h3)
        rw [← e, e2] at e3
        cases e3
        rw [c2] at c3
        exact absurd c3 (by decide)
      | false =>
        obtain ⟨o2, e2, c2, _⟩ := (show s.heap.IsList c0 its3.toArray from p3)
        obtain ⟨o3, e3, c3, _⟩ := (show s.heap.IsListIter i3 c0 i from h3)
        rw [← e, e2] at e3
        cases e3
        rw [c2] at c3
        exact absurd c3 (by decide)
    refine wpAny_pyNext_zipD3_end D (dr_at (prog := X.prog) (w := X.w) (A := X.A.in1) (I.ok.hd hc) t1 i1 a n1 its.toArray) (dr_at (prog := X.prog) (w := X.w) (A := X.A.in1) (I.ok.hd hc) t2 i2 b n2 its2.toArray) (dr_at (prog := X.prog) (w := X.w) (A := X.A.in1) (I.ok.hd hc) t3 i3 c0 n3 its3.toArray) hz hTI hTO ⟨h1, p⟩ ⟨h2, p2⟩ ⟨h3, p3⟩ (by rw [List.size_toArray]; omega) (by rw [List.size_toArray]; omega) (by rw [List.size_toArray]; omega) (by rw [List.size_toArray, List.size_toArray, List.size_toArray]; omega) fun h' tk hk => ⟨rfl, ?_⟩
    exact I.turnedL (t' := tk) (ch := [z, TI, TO, i1, i2, i3]) (fun c o hb q => hk c o (fun q' => hb (by simp [q'])) (fun q' => hb (by simp [q'])) (fun q' => hb (by simp [q'])) (fun q' => hb (by simp [q'])) (fun q' => hb (by simp [q'])) q) hf
  self := fun A i s Q E st h => wpAny_pyIter_zip st.1 h
def iZipY (K : PySem.W.Frag) (ta : TA) : TI := fun σ H R => ta σ H fun vs H1 => ∃ t1 t2 t3 a b c xs ys zs, vs = [.ref a, .ref b, .ref c] ∧ SqX K H1 t1 a xs ∧ SqX K H1 t2 b ys ∧ SqX K H1 t3 c zs ∧ R (ItzY K t1 t2 t3 a b c) H1
theorem pi_zipY {X : Cx} {e e2 e3 : Expr} {ta : TA} {p pos tpos : Pos} {elts : List Expr} {kk : Nat} (hg : Gl X "zip") (hm : X.mg "zip" = none) (ha : PA X [e, e2, e3] ta)
    (hs : starEach [e, e2, e3] X.env = (false, eval e X.env) :: starEach [e2, e3] X.env := by rfl) (hpl : (backTo pos (starEach [e2, e3] X.env)).any (·.1) = false := by rfl) :
    PI X (.Tuple elts kk tpos) (.Call (.Name "zip" p) [e, e2, e3] [] pos) (iZipY X.K ta) := by
  refine ⟨fun pins s σ H R I h => ?_⟩
  refine Call_ (ld_blt I hg hm PyProof.Rows.boot_zip (PyProof.Rows.callWith_type1 (thn (ha.run pos pins s σ H _ I h) fun us s1 ⟨vs, H1, I1, r1, q1⟩ => ?_) hs hpl))
  obtain ⟨t1, t2, t3, a, b, c0, xs, ys, zs, ex, hqx, hqy, hqz, q⟩ := q1
  subst ex
  cases r1 with
  | cons r rr =>
    cases rr with
    | cons r' rr =>
      cases rr with
      | cons r'' rr =>
        cases rr
        cases r
        cases r'
        cases r''
        have fresh6 : ∀ c, c ∈ [s1.heap.objs.size + 5, s1.heap.objs.size + 3, s1.heap.objs.size + 4, s1.heap.objs.size, s1.heap.objs.size + 1, s1.heap.objs.size + 2] → FpOk X pins H1 c := fun c hcm => by
          have hle : s1.heap.objs.size ≤ c := by
            simp only [List.mem_cons, List.not_mem_nil, or_false] at hcm
            rcases hcm with z | z | z | z | z | z
            · rw [z]; exact Nat.le_add_right _ _
            · rw [z]; exact Nat.le_add_right _ _
            · rw [z]; exact Nat.le_add_right _ _
            · rw [z]; exact Nat.le_refl _
            · rw [z]; exact Nat.le_add_right _ _
            · rw [z]; exact Nat.le_add_right _ _
          exact I1.fpOk hle (I1.hok.fresh hle)
        obtain ⟨its, rv, p1⟩ := sqX_get I1 hqx
        obtain ⟨its2, rv2, p2⟩ := sqX_get I1 hqy
        obtain ⟨its3, rv3, p3⟩ := sqX_get I1 hqz
        refine zip_begins3 (beg_at t1 a its.toArray) (beg_at t2 b its2.toArray) (beg_at t3 c0 its3.toArray) p1 p2 p3 fun h' hz hTI hTO h1 h2 h3 hsz hk => wpAny_pyIter_zip hz ?_
        have I2 : Inv X pins σ H1 { s1 with heap := h' } := I1.kept (t' := s1.toks) hk
        have la := isAt_lt p1
        have lb := isAt_lt p2
        have lc := isAt_lt p3
        have sep : ZipSep3 (s1.heap.objs.size + 5) (s1.heap.objs.size + 3) (s1.heap.objs.size + 4) s1.heap.objs.size (s1.heap.objs.size + 1) (s1.heap.objs.size + 2) [s1.heap.objs.size, a] [s1.heap.objs.size + 1, b] [s1.heap.objs.size + 2, c0] :=
          zip_sep3 (fun c hc => by rw [List.mem_singleton.mp hc]; exact isAt_lt p1) (fun c hc => by rw [List.mem_singleton.mp hc]; exact isAt_lt p2) (fun c hc => by rw [List.mem_singleton.mp hc]; exact isAt_lt p3)
        exact ⟨s1.heap.objs.size + 5, [s1.heap.objs.size + 5, s1.heap.objs.size + 3, s1.heap.objs.size + 4, s1.heap.objs.size, s1.heap.objs.size + 1, s1.heap.objs.size + 2], _, _, H1, rfl, I2, turn_zipY sep, ⟨hz, hTI, ⟨_, _, _, hTO⟩, itAt_new h1, itAt_new h2, itAt_new h3⟩, fresh6, q⟩
theorem kx_zipY {X : Cx} {K : PySem.W.Frag} (h : X.K = K) {e e2 e3 : Expr} {ta : TA} {p pos tpos : Pos} {elts : List Expr} {kk : Nat} (hg : Gl X "zip") (hm : X.mg "zip" = none) (ha : PA X [e, e2, e3] ta)
    (hs : starEach [e, e2, e3] X.env = (false, eval e X.env) :: starEach [e2, e3] X.env := by rfl) (hpl : (backTo pos (starEach [e2, e3] X.env)).any (·.1) = false := by rfl) :
    PI X (.Tuple elts kk tpos) (.Call (.Name "zip" p) [e, e2, e3] [] pos) (iZipY K ta) := by
  subst h
  exact pi_zipY hg hm ha hs hpl
def YTri (f g h : Nat → Option V) (i : Nat) (H : Hp) (v : V) (H' : Hp) : Prop := ∃ T x y z, v = .ref T ∧ H T = none ∧ H' = upd H T (.tup [x, y, z]) ∧ f i = some x ∧ g i = some y ∧ h i = some z
theorem walk_zipY {K : PySem.W.Frag} {t1 t2 t3 : Bool} {a b c : Addr} {xs ys zs : List V} {n : Nat} (hn : n = min (min xs.length ys.length) zs.length) : Walk (ItzY K t1 t2 t3 a b c) n (fun H => SqX K H t1 a xs ∧ SqX K H t2 b ys ∧ SqX K H t3 c zs) (YTri (fun i => xs[i]?) (fun i => ys[i]?) (fun i => zs[i]?)) := by
  subst hn
  refine ⟨fun i _ hi q => ?_, fun _ q => ⟨xs, ys, zs, q.1, q.2.1, q.2.2, by omega, by omega, by omega, by omega⟩, fun i H v H' _ q y => ?_⟩
  · have h1 : i < xs.length := by omega
    have h2 : i < ys.length := by omega
    have h3 : i < zs.length := by omega
    exact ⟨xs, ys, zs, xs[i], ys[i], zs[i], q.1, q.2.1, q.2.2, by simp [h1], by simp [h2], by simp [h3]⟩
  · obtain ⟨T, x, y', z, h1, h2, h3, h4, h5, h6⟩ := y
    exact ⟨T, x, y', z, h1, h2, h3, h4 xs q.1, h5 ys q.2.1, h6 zs q.2.2⟩
theorem r_zipY {K : PySem.W.Frag} {ta : TA} {σ : L2.St} {H : Hp} {R : It → Hp → Prop} (q : ta σ H fun vs H1 => ∃ t1 t2 t3 a b c xs ys zs, vs = [.ref a, .ref b, .ref c] ∧ SqX K H1 t1 a xs ∧ SqX K H1 t2 b ys ∧ SqX K H1 t3 c zs ∧ R (ItzY K t1 t2 t3 a b c) H1) : iZipY K ta σ H R := q
end GS
/-! sorted(d), d a dict whose keys are pairs of ints -/
namespace L2
open PySem PySem.Spec PyProof.Rows
def pairK (p : Int × Int) : List Key := [Sum.inl p.1, Sum.inl p.2]
/-- sorted(d): the keys, pairs of ints, by their first, then by their second -/
def rSortedDP : List V → Hp → VK → Prop := fun vs H Q => ∃ (a : Addr) (kvs : List (List Key × V)) (ps : List (Int × Int)), vs = [V.ref a] ∧ Rd H a (.dT kvs) ∧ kvs.map (·.1) = ps.map pairK ∧
  ∀ (p : Addr) (ts : List Addr) (qs : List (Int × Int)), qs.Perm ps → SrtO.Srtd SrtO.lexB qs → ts.length = qs.length → (∀ (j : Nat) (t : Addr) (q : Int × Int), ts[j]? = some t → qs[j]? = some q → H t = some (.tup [.int q.1, .int q.2])) → H p = none → Q (.ref p) (upd H p (.lst (ts.map V.ref)))
theorem dp_pair {f : List Key → Addr → Prop} : ∀ {kvs : List (List Key × V)} {bs : List Addr} {ps : List (Int × Int)}, Paired (fun p b => f p.1 b) kvs bs → kvs.map (·.1) = ps.map pairK → Paired (fun (p : Int × Int) b => f (pairK p) b) ps bs
  | [], _, ps, .nil, e => by
    cases ps with
    | nil => exact .nil
    | cons p q => cases e
  | k :: kvs, _, ps, .cons h t, e => by
    cases ps with
    | nil => cases e
    | cons p q =>
      rw [List.map_cons, List.map_cons] at e
      injection e with e1 e2
      exact .cons (by rw [← e1]; exact h) (dp_pair t e2)
def pairOf : Option HO → Int × Int
  | some (.tup [.int i, .int j]) => (i, j)
  | _ => (0, 0)
def kOf (H : Hp) : Value → Int × Int
  | .ref b => pairOf (H b)
  | _ => (0, 0)
theorem kOf_ref {H : Hp} {b : Addr} {p : Int × Int} (h : H b = some (.tup ((pairK p).map kV))) : kOf H (.ref b) = p := by
  show pairOf (H b) = p
  rw [h]
  rfl
theorem paired_mem {α β : Type} {R : α → β → Prop} : ∀ {xs : List α} {ys : List β} {y : β}, Paired R xs ys → y ∈ ys → ∃ x, x ∈ xs ∧ R x y
  | _, _, _, .nil, h => nomatch h
  | x :: xs, y' :: ys, y, .cons h t, hm => by
    rcases List.mem_cons.mp hm with rfl | hm
    · exact ⟨x, List.mem_cons_self, h⟩
    · obtain ⟨z, hz, r⟩ := paired_mem t hm
      exact ⟨z, List.mem_cons_of_mem _ hz, r⟩
theorem kOf_keys {H : Hp} : ∀ {ps : List (Int × Int)} {bs : List Addr}, Paired (fun (p : Int × Int) b => H b = some (.tup ((pairK p).map kV))) ps bs → ps = bs.map (kOf H ∘ Value.ref)
  | _, _, .nil => rfl
  | p :: ps, b :: bs, .cons h t => by
    rw [List.map_cons, ← kOf_keys t]
    congr 1
    exact (kOf_ref h).symm
theorem refs_all : ∀ {out : List Value}, (∀ v ∈ out, ∃ a, v = Value.ref a) → ∃ ts : List Addr, out = ts.map Value.ref
  | [], _ => ⟨[], rfl⟩
  | v :: out, h => by
    obtain ⟨a, rfl⟩ := h v List.mem_cons_self
    obtain ⟨ts, rfl⟩ := refs_all (out := out) fun u hu => h u (List.mem_cons_of_mem _ hu)
    exact ⟨a :: ts, rfl⟩
section
variable {X : Cx}
theorem cr_sortedDP (hc : X.calm = true) : CallR X (.builtin "sorted") rSortedDP := by
  intro pins s σ H xs us Q I r h
  obtain ⟨d, kvs, ps, rfl, hd, hks, q⟩ := h
  obtain ⟨u, rfl, rx⟩ := r.one
  cases rx
  obtain ⟨z, hs, ks, pr, o, es, ep, ho, hx, hdt, he, hn⟩ := (show ObjOk X.prog X.w H s.heap d (.dT kvs) from hd.ok I.hok)
  have l1 : es.size = ks.length := size_of_entries he
  have l2 : kvs.length = ks.length := Paired.length pr
  have hsz : es.size ≤ sizeLine := by omega
  refine Calls.call_function_entry kind_sorted plain_sorted entry_sorted (args_sorted1 _) ?_
  unfold Builtin.«sorted»
  refine wpAny_bind (m := checkCount "sorted" 1 1 _) (wpAny_pure ?_)
  refine wpAny_bind (PySem.W.kdu_collect (A := X.A.in1) (kdl_raw hs hx hdt) (I.ok.hd hc) ho hsz fun h' tk acc hk it => ?_)
  have ea : acc.toList = ks.map fun x => Value.ref x.2.1 := by
    have hl : acc.toList.length = ks.length := by rw [Array.length_toList, it.1]; exact l1
    apply List.ext_getElem?
    intro j
    rw [List.getElem?_map]
    cases hj : acc.toList[j]? with
    | none =>
      have h1 := List.getElem?_eq_none_iff.mp hj
      rw [List.getElem?_eq_none (by omega)]
      all_goals rfl
    | some v =>
      obtain ⟨en, hen, hv⟩ := it.2 j v (by rw [← Array.getElem?_toList]; exact hj)
      have qe := entry_at he j
      rw [hen] at qe
      cases hb : ks[j]? with
      | none =>
        rw [hb] at qe
        exact nomatch (show some en = none from qe)
      | some b =>
        rw [hb] at qe
        have e2 : en = entryOfKey (tupleKind (mixKind X.prog X.w)) b := Option.some.inj qe
        rw [hv, e2]
        all_goals rfl
  have eb : acc.toList = (ks.map fun x => x.2.1).map Value.ref := by rw [ea, List.map_map]; all_goals rfl
  have keys : Paired (fun (p : Int × Int) b => H b = some (.tup ((pairK p).map kV))) ps (ks.map fun x => x.2.1) := dp_pair (f := fun k b => H b = some (.tup (k.map kV))) (isKeys_of pr) hks
  generalize (ks.map fun x => x.2.1) = bs at eb keys
  have I1 : Inv X pins σ H { s with heap := h', toks := tk } := I.kept hk
  have hla : acc.toList.length ≤ sizeLine := by rw [ea, List.length_map]; omega
  refine wpAny_bind (wpAny_newList ?_ (by simpa using hla))
  have hoL : (h'.push (seqObj "list" acc.toList.toArray 0)).get? h'.objs.size = some (seqObj "list" acc.toList.toArray 0) := Heap.get?_push_size _ rfl
  show wpAny _ _ _ _ _ { s with heap := h'.push (seqObj "list" acc.toList.toArray 0), toks := tk }
  have mem : ∀ v ∈ acc.toList, ∃ b, v = Value.ref b ∧ H b = some (.tup [.int (kOf H v).1, .int (kOf H v).2]) := fun v hv => by
    rw [eb] at hv
    obtain ⟨b, hb, rfl⟩ := List.mem_map.mp hv
    obtain ⟨p, _, hp⟩ := paired_mem keys hb
    refine ⟨b, rfl, ?_⟩
    have e : kOf H (.ref b) = p := kOf_ref hp
    rw [e]
    exact hp
  refine wpAny_bind (wpAny_holding (wpAny_call_entry slot_list_sort ⟨_, hoL, rfl⟩ entry_list_sort (SrtO.list_sort_ord (s := { s with heap := h'.push (seqObj "list" acc.toList.toArray 0), toks := tk }) (ltv := fun v u => SrtO.lexB (kOf H v) (kOf H u)) (SrtO.swo_lex (kOf H)) hoL hla (fun h2 => ?_) fun out g1 g2 => ⟨_, rfl, ?_⟩) (args_list_sort _)))
  · refine SrtO.pairs_sortableO (by omega) (fun v hv => ?_) fun o e => ?_
    · obtain ⟨b, rfl, hb⟩ := mem v hv
      obtain ⟨_, its2, r2, o2, ho2, hc2, n2, hd2⟩ := I1.hok _ _ hb
      obtain ⟨u1, u2, rfl, ri, rj⟩ := vals2 r2
      obtain ⟨t1, rfl⟩ := ri
      obtain ⟨t2, rfl⟩ := rj
      exact ⟨b, o2, t1, t2, n2, rfl, Heap.get?_push_of_some _ ho2, hc2, hd2⟩
    · have e' : some o = some (seqObj "list" acc.toList.toArray 0) := e.symm.trans hoL
      cases e'
      intro c
      exact absurd (Value.type.inj c) (by decide)
  · obtain ⟨e', he'⟩ := PyProof.Rows.sortedHeap_at (vs := acc.toList) (out := out.toArray) hoL
    obtain ⟨ts, rfl⟩ : ∃ ts : List Addr, out = ts.map Value.ref := refs_all fun v hv => by
      obtain ⟨b, e, _⟩ := mem v (g2.perm.mem_iff.mp hv)
      exact ⟨b, e⟩
    have lt : ts.length ≤ sizeLine := by
      have := g2.perm.length_eq
      rw [List.length_map] at this
      omega
    refine wpAny_pure ⟨_, rfl, .ref h'.objs.size, upd H h'.objs.size (.lst (ts.map V.ref)), I1.laid (t' := tk) (fun b u e => ?_) (Nat.le_refl _)
      (show ObjOk X.prog X.w _ _ _ (.lst (ts.map V.ref)) from ⟨by rw [List.length_map]; exact lt, ts.map Value.ref, e', vals_refs _, he'⟩), rfl, q _ ts (ts.map fun b => kOf H (.ref b)) ?_ ?_ (by simp) (fun j t q' h1 h2 => ?_) (I1.hok.fresh (Nat.le_refl _))⟩
    · have hb : b < h'.objs.size := Heap.lt_size e
      rw [PyProof.Rows.sortedHeap_old (Nat.ne_of_lt hb) (by rw [size_push']; exact Nat.lt_succ_of_lt hb)]
      exact Heap.get?_push_of_some _ e
    · have p1 := g2.perm.map (kOf H)
      rw [eb, List.map_map, List.map_map] at p1
      rw [show ps = bs.map (kOf H ∘ Value.ref) from kOf_keys keys]
      exact p1
    · have := SrtO.srtd_map (f := kOf H) (lt := SrtO.lexB) g1
      rw [List.map_map] at this
      exact this
    · rw [List.getElem?_map, h1] at h2
      obtain rfl := Option.some.inj h2
      obtain ⟨b, e, hb⟩ := mem (.ref t) (g2.perm.mem_iff.mp (List.mem_map.mpr ⟨t, List.mem_of_getElem? h1, rfl⟩))
      cases e
      exact hb
end
end L2
/-! A lambda where several defs make such. -/
namespace GS
open PySem PySem.Spec PyProof.Rows L2 LamX
theorem pe_lamT {X : Cx} {T : List (Addr × Str)} {TT : (XK → Hp → VK → Prop) → Hp → VK → Prop} {x a : Str} {g c P : Addr} {k : Nat} {pg : Arguments} {bg : List Stmt} {sg : Scope} {fd : FuncData} {Ng : List Str}
    {params : Arguments} {body : Expr} {scope : Scope} {t : XK → TE} {p lpos pos : Pos} (hg : Gl X x) (hm : X.mg x = some (.ref g)) (hk : PySem.W.keepIn X.K (.ref g) = true)
    (F : FunD X.K x x pg bg sg [] [] g fd) (hb : L2.Binds X.K fd [a] []) (Sg : FnScope Ng [a] sg) (hNg : Ng[0]? = some a) (hva : Vis sg a)
    (hG : ∀ cdg, GivesS X Ng x sg g cdg bg a (X.env.qual ++ "<lambda>") TT)
    (TB : TabB X.base X.mg c P) (hcode : X.env.code = .ref c) (hmT : (P, X.env.qual ++ "<lambda>") ∈ T) (hu : ∀ p ∈ T, p.1 = P → p.2 = X.env.qual ++ "<lambda>") (hr : Room (k + 2) X.A) (L : LamS X.env.scope scope) (hdef : defaultsOf params X.env = ([], []))
    (hbind : ∀ (q : Str) (cl : List (Str × Addr)) (pm cv ctv : Value), bindArgs (PySem.W.kla_fn "<lambda>" q params body scope cl pm cv ctv) ⟨[], []⟩ = pure [])
    (hbody : ∀ (A : Around) (outer : List Env) (s : Shared) (H : Hp) (E : XK) (f c' : Addr), Room k (A.deeper (lamEnv X scope s.heap.objs.size f c')) → PE (lamCx X A outer s H E scope f c') body (t E))
    (hdb : (x == ("__debug__" : Str)) = false := by decide) (hd : (a == ("__debug__" : Str)) = false := by decide) (hcd : (a == ("__classdict__" : Str)) = false := by decide) :
    PE X (.Call (.Name x p) [.Lambda params body scope lpos] [] pos) (tLam T TT t) := by
  obtain ⟨oc, od, dV, kV, doc, pm, an, cdv, ct, osl, rfl, known, hcg, -, -⟩ := F.ex
  refine ⟨fun pins s σ H Q I want => ?_⟩
  obtain ⟨tabs, goal⟩ := want
  refine wpAny_Call_Name_kw (ld_glob I hg hm ?_ hdb)
  refine PySem.W.callWith_K (h₀ := X.base) I.ok.mod.kin hk ?_ (by rfl) (by rfl)
  show wpAny _ _ (spliced ((false, eval (.Lambda params body scope lpos) X.env) :: backTo pos (starEach [] X.env))) _ _ s
  refine Calls.spliced_cons (lam_make2 I TB hcode hmT hu tabs hdef (L.has I.ok) fun f c' pm' ctv H1 s' I1 eN T1 hf hfn hfr hco => ?_)
  refine Calls.spliced_nil ⟨I1.kIn, ?_⟩
  have ran : codeAny (model X.prog X.w) X.A (.call (.ref g) ⟨[.ref f], []⟩) (CR C8.CX0 X.stack X.prog X.w H1 s' Q C8.E0) s' := by
    refine run_ofS (N := Ng) (ps := [a]) (us := [.ref f]) (vs := [.ref f]) known hcg Sg hr I1.env0 (hb s' [.ref f] I1.kIn rfl) (.cons rfl .nil) rfl fun hr' => ?_
    obtain ⟨t', reads, wants⟩ := hG cdv f c' s' H1 Q (fun E H' Q' => t E σ H' Q') (fun W pn xe E p1 p2 tk hW => act_at (i := 0) I1 L hf hfn hfr (hbind _ _ _ _ _) tk hW hr' (fun A outer s H E hr2 => hbody A outer s H E f c' hr2) hNg hva hd hcd) hco (goal H1 eN T1)
    exact ⟨t', reads.nox, wants⟩
  refine wpAny_call (codeAny_mono ran fun r s2 hq => ?_)
  match r, hq with
  | .error e, hq => exact (show False from hq).elim
  | .ok (.ret u), hq => exact I1.after hq
  | .ok .next, hq => exact False.elim hq
  | .ok .brk, hq => exact False.elim hq
  | .ok .cont, hq => exact False.elim hq
/-- the tables of two defs are two -/
def tnB (x y : Str) : Chk := fun K => decide ((He.cT K (x, none)).2 ≠ (He.cT K (y, none)).2)
theorem tnB_ok {K : PySem.W.Frag} {x y : Str} (h : tnB x y K = true) : (He.cT K (x, none)).2 ≠ (He.cT K (y, none)).2 := of_decide_eq_true h
end GS
/-! A comprehension with a test whose turns change the heap. -/
namespace GS
open PySem PySem.Spec PyProof.Rows L2
theorem r_lcGT {J : It} {n : Nat} {G : Hp → Prop} {Y : Nat → Hp → V → Hp → Prop} {g : TG} {vs : List Nat} {tt : TT} {te : TE} {σ : L2.St} {H1 : Hp} {Q : VK} (w : Walk J n G Y) (P : Addr → Nat → List V → Hp → Prop) (hn : n ≤ 50000) (hG : ∀ D i ys H, P D i ys H → G H)
    (h0 : ∀ D, H1 D = none → P D 0 [] (upd H1 D (.lst []))) (mono : ∀ D i ys H o, H1 D = none → P D i ys H → P D i ys (upd H D o))
    (step : ∀ D i x ys H H', i < n → H1 D = none → H D = some (.lst ys) → ys.length ≤ i → P D i ys H → Y i H x H' → ∀ (N : VK) (M : Hp → Prop), (∀ y H4, H4 D = some (.lst ys) → P D (i + 1) (ys ++ [y]) H4 → N y H4) → (∀ H4, H4 D = some (.lst ys) → P D (i + 1) ys H4 → M H4) →
      g x (wipe σ vs) H' fun σ2 H2 => wipe σ2 vs = wipe σ vs ∧ tt σ2 H2 fun b H3 => if b = true then te σ2 H3 N else M H3)
    (q : ∀ D ys H', H1 D = none → H' D = some (.lst ys) → ys.length ≤ n → P D n ys H' → Q (.ref D) H') : lcB J g tt te vs σ Q H1 := by
  intro D hD
  refine lc_it w (fun i H => ∃ ys, H D = some (.lst ys) ∧ ys.length ≤ i ∧ P D i ys H) ⟨[], upd_same, Nat.le_refl _, h0 D hD⟩ (fun i H _ p => let ⟨ys, _, _, h⟩ := p; hG D i ys H h) ?_ (fun H p => let ⟨ys, h1, h2, h3⟩ := p; q D ys H hD h1 h2 h3)
  intro i x H H' hi p y
  obtain ⟨ys, p2, p3, p4⟩ := p
  exact step D i x ys H H' hi hD p2 p3 p4 y _ _ (fun z H4 h4 hp4 => ⟨ys, h4, sz_lt (by omega), ys ++ [z], upd_same, (by rw [List.length_append]; simp; omega), mono D _ _ _ _ hD hp4⟩) fun H4 h4 hp4 => ⟨ys, h4, by omega, hp4⟩
end GS
namespace K02
open PySem PySem.Spec PyProof.Rows L2 GS LamX
def topS (i : Nat) : Stmt := PySem.Challenge.pw_goodsigns_k02_texts_bent_anywhere.main.body.getD i (.Pass ⟨0, 0, 0, 0⟩)
abbrev s__wall : Stmt := topS 0
abbrev s_BadNumber_init : Stmt := inClass (topS 3) 0
abbrev s_BadPoly_init : Stmt := inClass (topS 4) 0
abbrev s_BadWeb_init : Stmt := inClass (topS 5) 0
abbrev s_Misfit_init : Stmt := inClass (topS 6) 0
abbrev s_Missing_init : Stmt := inClass (topS 7) 0
abbrev s_Twice_init : Stmt := inClass (topS 9) 0
abbrev s_BadText_init : Stmt := inClass (topS 10) 0
abbrev s_is_integer : Stmt := topS 13
abbrev s_is_within : Stmt := topS 14
abbrev s_is_row : Stmt := topS 15
abbrev s_are_integers : Stmt := topS 16
abbrev s_need_integer : Stmt := topS 17
abbrev s_items_of : Stmt := topS 20
abbrev s_is_integer_text : Stmt := topS 21
abbrev s_integer_at : Stmt := topS 22
abbrev s_need_item : Stmt := topS 23
abbrev s_need_end : Stmt := topS 24
abbrev s_integer_text : Stmt := topS 25
abbrev s_Web_init : Stmt := inClass (topS 28) 0
abbrev s_Web_eq : Stmt := inClass (topS 28) 1
abbrev s_Web_str : Stmt := inClass (topS 28) 2
abbrev s_Web_neighbours : Stmt := inClass (topS 28) 3
abbrev s_Web_read : Stmt := inClass (topS 28) 4
abbrev s_are_pairs : Stmt := topS 29
abbrev s_sorted_ties : Stmt := topS 30
abbrev s_near_places : Stmt := topS 31
abbrev s_read_ties : Stmt := topS 32
abbrev s_need_among : Stmt := topS 33
abbrev s_Bound_init : Stmt := inClass (topS 35) 0
abbrev s_Bound_eq : Stmt := inClass (topS 35) 1
abbrev s_Bound_str : Stmt := inClass (topS 35) 2
abbrev s_Bound_read : Stmt := inClass (topS 35) 3
abbrev s_Poly_init : Stmt := inClass (topS 38) 0
abbrev s_Poly_eq : Stmt := inClass (topS 38) 1
abbrev s_Poly_str : Stmt := inClass (topS 38) 2
abbrev s_Poly_worth : Stmt := inClass (topS 38) 3
abbrev s_Poly_read : Stmt := inClass (topS 38) 4
abbrev s__law_ark : Stmt := topS 40
abbrev s__law_haul : Stmt := topS 41
abbrev s__law_fish : Stmt := topS 42
abbrev s__law_number : Stmt := topS 43
abbrev s__law_bound : Stmt := topS 44
abbrev s__law_poly : Stmt := topS 45
abbrev s__law_web : Stmt := topS 46
abbrev s__law_is : Stmt := topS 47
abbrev s__law_bound_stop : Stmt := topS 48
abbrev s__law_poly_stop : Stmt := topS 49
abbrev s__law_web_stop : Stmt := topS 50
abbrev s__law_bent : Stmt := topS 51
abbrev s__law_heard : Stmt := topS 52
abbrev s__law_bound_right : Stmt := topS 53
abbrev s__law_poly_right : Stmt := topS 54
abbrev s__law_web_right : Stmt := topS 55
abbrev s_law : Stmt := topS 56
theorem sc__wall : FnScope ["k"] ["k"] (defScope s__wall) := ⟨rfl, rfl, rfl, by decide +kernel, rfl, by decide +kernel, by decide +kernel⟩
theorem sc_BadNumber_init : FnScope ["self", "part"] ["self", "part"] (defScope s_BadNumber_init) := ⟨rfl, rfl, rfl, by decide +kernel, rfl, by decide +kernel, by decide +kernel⟩
theorem sc_BadPoly_init : FnScope ["self", "part"] ["self", "part"] (defScope s_BadPoly_init) := ⟨rfl, rfl, rfl, by decide +kernel, rfl, by decide +kernel, by decide +kernel⟩
theorem sc_BadWeb_init : FnScope ["self", "part"] ["self", "part"] (defScope s_BadWeb_init) := ⟨rfl, rfl, rfl, by decide +kernel, rfl, by decide +kernel, by decide +kernel⟩
theorem sc_Misfit_init : FnScope ["self", "part"] ["self", "part"] (defScope s_Misfit_init) := ⟨rfl, rfl, rfl, by decide +kernel, rfl, by decide +kernel, by decide +kernel⟩
theorem sc_Missing_init : FnScope ["self", "value"] ["self", "value"] (defScope s_Missing_init) := ⟨rfl, rfl, rfl, by decide +kernel, rfl, by decide +kernel, by decide +kernel⟩
theorem sc_Twice_init : FnScope ["self", "value"] ["self", "value"] (defScope s_Twice_init) := ⟨rfl, rfl, rfl, by decide +kernel, rfl, by decide +kernel, by decide +kernel⟩
theorem sc_BadText_init : FnScope ["self", "line", "item"] ["self", "line", "item"] (defScope s_BadText_init) := ⟨rfl, rfl, rfl, by decide +kernel, rfl, by decide +kernel, by decide +kernel⟩
theorem sc_is_integer : FnScope ["value"] ["value"] (defScope s_is_integer) := ⟨rfl, rfl, rfl, by decide +kernel, rfl, by decide +kernel, by decide +kernel⟩
theorem sc_is_within : FnScope ["value", "least", "most"] ["value", "least", "most"] (defScope s_is_within) := ⟨rfl, rfl, rfl, by decide +kernel, rfl, by decide +kernel, by decide +kernel⟩
theorem sc_is_row : FnScope ["value"] ["value"] (defScope s_is_row) := ⟨rfl, rfl, rfl, by decide +kernel, rfl, by decide +kernel, by decide +kernel⟩
theorem sc_are_integers : FnScope ["value", "each"] ["value"] (defScope s_are_integers) := ⟨rfl, rfl, rfl, by decide +kernel, rfl, by decide +kernel, by decide +kernel⟩
theorem sc_need_integer : FnScope ["value", "part", "least", "most"] ["value", "part", "least", "most"] (defScope s_need_integer) := ⟨rfl, rfl, rfl, by decide +kernel, rfl, by decide +kernel, by decide +kernel⟩
theorem sc_items_of : FnScope ["text"] ["text"] (defScope s_items_of) := ⟨rfl, rfl, rfl, by decide +kernel, rfl, by decide +kernel, by decide +kernel⟩
theorem sc_is_integer_text : FnScope ["item", "digits", "each"] ["item"] (defScope s_is_integer_text) := ⟨rfl, rfl, rfl, by decide +kernel, rfl, by decide +kernel, by decide +kernel⟩
theorem sc_integer_at : FnScope ["items", "at", "least", "most", "number"] ["items", "at", "least", "most"] (defScope s_integer_at) := ⟨rfl, rfl, rfl, by decide +kernel, rfl, by decide +kernel, by decide +kernel⟩
theorem sc_need_item : FnScope ["items", "at", "word"] ["items", "at", "word"] (defScope s_need_item) := ⟨rfl, rfl, rfl, by decide +kernel, rfl, by decide +kernel, by decide +kernel⟩
theorem sc_need_end : FnScope ["items", "many"] ["items", "many"] (defScope s_need_end) := ⟨rfl, rfl, rfl, by decide +kernel, rfl, by decide +kernel, by decide +kernel⟩
theorem sc_integer_text : FnScope ["number", "chunk", "left", "parts", "sign"] ["number"] (defScope s_integer_text) := ⟨rfl, rfl, rfl, by decide +kernel, rfl, by decide +kernel, by decide +kernel⟩
theorem sc_Web_init : FnScope ["self", "places", "ties", "row"] ["self", "places", "ties"] (defScope s_Web_init) := ⟨rfl, rfl, rfl, by decide +kernel, rfl, by decide +kernel, by decide +kernel⟩
theorem sc_Web_eq : FnScope ["self", "other"] ["self", "other"] (defScope s_Web_eq) := ⟨rfl, rfl, rfl, by decide +kernel, rfl, by decide +kernel, by decide +kernel⟩
theorem sc_Web_str : FnScope ["self", "tie", "place"] ["self"] (defScope s_Web_str) := ⟨rfl, rfl, rfl, by decide +kernel, rfl, by decide +kernel, by decide +kernel⟩
theorem sc_Web_neighbours : FnScope ["self", "place"] ["self", "place"] (defScope s_Web_neighbours) := ⟨rfl, rfl, rfl, by decide +kernel, rfl, by decide +kernel, by decide +kernel⟩
theorem sc_Web_read : FnScope ["text", "items", "places"] ["text"] (defScope s_Web_read) := ⟨rfl, rfl, rfl, by decide +kernel, rfl, by decide +kernel, by decide +kernel⟩
theorem sc_are_pairs : FnScope ["value", "each"] ["value"] (defScope s_are_pairs) := ⟨rfl, rfl, rfl, by decide +kernel, rfl, by decide +kernel, by decide +kernel⟩
theorem sc_sorted_ties : FnScope ["places", "ties", "found", "one", "other", "tie"] ["places", "ties"] (defScope s_sorted_ties) := ⟨rfl, rfl, rfl, by decide +kernel, rfl, by decide +kernel, by decide +kernel⟩
theorem sc_near_places : FnScope ["places", "ties", "near", "_", "one", "other", "row"] ["places", "ties"] (defScope s_near_places) := ⟨rfl, rfl, rfl, by decide +kernel, rfl, by decide +kernel, by decide +kernel⟩
theorem sc_read_ties : FnScope ["items", "places", "ties", "first", "second", "at", "one", "least", "other"] ["items", "places"] (defScope s_read_ties) := ⟨rfl, rfl, rfl, by decide +kernel, rfl, by decide +kernel, by decide +kernel⟩
theorem sc_need_among : FnScope ["places", "value"] ["places", "value"] (defScope s_need_among) := ⟨rfl, rfl, rfl, by decide +kernel, rfl, by decide +kernel, by decide +kernel⟩
theorem sc_Bound_init : FnScope ["self", "whole", "part", "under"] ["self", "whole", "part", "under"] (defScope s_Bound_init) := ⟨rfl, rfl, rfl, by decide +kernel, rfl, by decide +kernel, by decide +kernel⟩
theorem sc_Bound_eq : FnScope ["self", "other"] ["self", "other"] (defScope s_Bound_eq) := ⟨rfl, rfl, rfl, by decide +kernel, rfl, by decide +kernel, by decide +kernel⟩
theorem sc_Bound_str : FnScope ["self", "each"] ["self"] (defScope s_Bound_str) := ⟨rfl, rfl, rfl, by decide +kernel, rfl, by decide +kernel, by decide +kernel⟩
theorem sc_Bound_read : FnScope ["text", "items", "whole", "part", "under"] ["text"] (defScope s_Bound_read) := ⟨rfl, rfl, rfl, by decide +kernel, rfl, by decide +kernel, by decide +kernel⟩
theorem sc_Poly_init : FnScope ["self", "numbers"] ["self", "numbers"] (defScope s_Poly_init) := ⟨rfl, rfl, rfl, by decide +kernel, rfl, by decide +kernel, by decide +kernel⟩
theorem sc_Poly_eq : FnScope ["self", "other"] ["self", "other"] (defScope s_Poly_eq) := ⟨rfl, rfl, rfl, by decide +kernel, rfl, by decide +kernel, by decide +kernel⟩
theorem sc_Poly_str : FnScope ["self", "number"] ["self"] (defScope s_Poly_str) := ⟨rfl, rfl, rfl, by decide +kernel, rfl, by decide +kernel, by decide +kernel⟩
theorem sc_Poly_worth : FnScope ["self", "x"] ["self", "x"] (defScope s_Poly_worth) := ⟨rfl, rfl, rfl, by decide +kernel, rfl, by decide +kernel, by decide +kernel⟩
theorem sc_Poly_read : FnScope ["text", "items", "numbers", "at"] ["text"] (defScope s_Poly_read) := ⟨rfl, rfl, rfl, by decide +kernel, rfl, by decide +kernel, by decide +kernel⟩
theorem sc__law_ark : FnScope ["script", "cell"] ["script"] (defScope s__law_ark) := ⟨rfl, rfl, rfl, by decide +kernel, rfl, by decide +kernel, by decide +kernel⟩
theorem sc__law_haul : FnScope ["ark", "many", "left", "turn", "cell", "mixed"] ["ark", "many"] (defScope s__law_haul) := ⟨rfl, rfl, rfl, by decide +kernel, rfl, by decide +kernel, by decide +kernel⟩
theorem sc__law_fish : FnScope ["ark", "some"] ["ark", "some"] (defScope s__law_fish) := ⟨rfl, rfl, rfl, by decide +kernel, rfl, by decide +kernel, by decide +kernel⟩
theorem sc__law_number : FnScope ["ark", "number"] ["ark"] (defScope s__law_number) := ⟨rfl, rfl, rfl, by decide +kernel, rfl, by decide +kernel, by decide +kernel⟩
theorem sc__law_bound : FnScope ["ark"] ["ark"] (defScope s__law_bound) := ⟨rfl, rfl, rfl, by decide +kernel, rfl, by decide +kernel, by decide +kernel⟩
theorem sc__law_poly : FnScope ["ark", "turn"] ["ark"] (defScope s__law_poly) := ⟨rfl, rfl, rfl, by decide +kernel, rfl, by decide +kernel, by decide +kernel⟩
theorem sc__law_web : FnScope ["ark", "places", "found", "first", "second", "items"] ["ark"] (defScope s__law_web) := ⟨rfl, rfl, rfl, by decide +kernel, rfl, by decide +kernel, by decide +kernel⟩
theorem sc__law_is : FnScope ["item", "least", "most", "figures", "sign"] ["item", "least", "most"] (defScope s__law_is) := ⟨rfl, rfl, rfl, by decide +kernel, rfl, by decide +kernel, by decide +kernel⟩
theorem sc__law_bound_stop : FnScope ["items", "at"] ["items"] (defScope s__law_bound_stop) := ⟨rfl, rfl, rfl, by decide +kernel, rfl, by decide +kernel, by decide +kernel⟩
theorem sc__law_poly_stop : FnScope ["items", "at"] ["items"] (defScope s__law_poly_stop) := ⟨rfl, rfl, rfl, by decide +kernel, rfl, by decide +kernel, by decide +kernel⟩
theorem sc__law_web_stop : FnScope ["items", "first", "second", "at", "least"] ["items"] (defScope s__law_web_stop) := ⟨rfl, rfl, rfl, by decide +kernel, rfl, by decide +kernel, by decide +kernel⟩
theorem sc__law_bent : FnScope ["ark", "items", "at", "way", "odd", "new"] ["ark", "items"] (defScope s__law_bent) := ⟨rfl, rfl, rfl, by decide +kernel, rfl, by decide +kernel, by decide +kernel⟩
theorem sc__law_heard : FnScope ["ask", "caught", "error"] ["ask"] (defScope s__law_heard) := ⟨rfl, rfl, rfl, by decide +kernel, rfl, by decide +kernel, by decide +kernel⟩
theorem sc__law_bound_right : FnScope ["items", "text", "stop", "told", "numbers", "item"] ["items"] (defScope s__law_bound_right) := ⟨rfl, rfl, rfl, by decide +kernel, rfl, by decide +kernel, by decide +kernel⟩
theorem sc__law_poly_right : FnScope ["items", "text", "stop", "told", "numbers", "item"] ["items"] (defScope s__law_poly_right) := ⟨rfl, rfl, rfl, by decide +kernel, rfl, by decide +kernel, by decide +kernel⟩
theorem sc__law_web_right : FnScope ["items", "text", "stop", "told", "ties", "at"] ["items"] (defScope s__law_web_right) := ⟨rfl, rfl, rfl, by decide +kernel, rfl, by decide +kernel, by decide +kernel⟩
theorem sc_law : FnScope ["script", "ark", "turn", "bound", "poly", "web", "bend", "odd", "heard"] ["script"] (defScope s_law) := ⟨rfl, rfl, rfl, by decide +kernel, rfl, by decide +kernel, by decide +kernel⟩
abbrev tys : List String := ["int", "bool", "str", "NoneType", "list", "tuple", "dict"]
def fa_0 : List He.Fa := [.glo "_wall",
  .glo "is_integer",
  .glo "is_within",
  .glo "is_row",
  .glo "are_integers",
  .glo "need_integer",
  .glo "items_of",
  .glo "is_integer_text",
  .glo "integer_at",
  .glo "need_item",
  .glo "need_end",
  .glo "integer_text",
  .glo "are_pairs",
  .glo "sorted_ties",
  .glo "near_places",
  .glo "read_ties",
  .glo "need_among",
  .glo "_law_ark",
  .glo "_law_haul",
  .glo "_law_fish",
  .glo "_law_number",
  .glo "_law_bound",
  .glo "_law_poly",
  .glo "_law_web",
  .glo "_law_is",
  .glo "_law_bound_stop",
  .glo "_law_poly_stop",
  .glo "_law_web_stop",
  .glo "_law_bent",
  .glo "_law_heard"]
def fa_1 : List He.Fa := [.glo "_law_bound_right",
  .glo "_law_poly_right",
  .glo "_law_web_right",
  .glo "law",
  .glo "SignsError",
  .glo "BadNumber",
  .glo "BadPoly",
  .glo "BadWeb",
  .glo "Misfit",
  .glo "Missing",
  .glo "NoPlace",
  .glo "Twice",
  .glo "BadText",
  .glo "Web",
  .glo "Bound",
  .glo "Poly",
  .keep "_wall",
  .keep "is_integer",
  .keep "is_within",
  .keep "is_row",
  .keep "are_integers",
  .keep "need_integer",
  .keep "items_of",
  .keep "is_integer_text",
  .keep "integer_at",
  .keep "need_item",
  .keep "need_end",
  .keep "integer_text",
  .keep "are_pairs",
  .keep "sorted_ties"]
def fa_2 : List He.Fa := [.keep "near_places",
  .keep "read_ties",
  .keep "need_among",
  .keep "_law_ark",
  .keep "_law_haul",
  .keep "_law_fish",
  .keep "_law_number",
  .keep "_law_bound",
  .keep "_law_poly",
  .keep "_law_web",
  .keep "_law_is",
  .keep "_law_bound_stop",
  .keep "_law_poly_stop",
  .keep "_law_web_stop",
  .keep "_law_bent",
  .keep "_law_heard",
  .keep "_law_bound_right",
  .keep "_law_poly_right",
  .keep "_law_web_right",
  .keep "law",
  .free "isinstance",
  .free "int",
  .free "bool",
  .free "str",
  .free "list",
  .free "tuple",
  .free "len",
  .free "abs",
  .free "range",
  .free "all"]
def fa_3 : List He.Fa := [.free "max",
  .free "min",
  .free "sorted",
  .free "repr",
  .str "DIGITS" "0123456789",
  .int "MOST_DIGITS" 60,
  .int "MOST_PLACES" 60,
  .int "MOST_NUMBERS" 64,
  .cls "Bound",
  .noat "Bound" "whole",
  .noat "Bound" "part",
  .noat "Bound" "under",
  .mkr "Bound",
  .meth "Bound" "__eq__",
  .meth "Bound" "__str__",
  .cls "Poly",
  .noat "Poly" "numbers",
  .noat "Poly" "degree",
  .mkr "Poly",
  .meth "Poly" "__eq__",
  .meth "Poly" "__str__",
  .cls "Web",
  .noat "Web" "places",
  .noat "Web" "ties",
  .noat "Web" "_near",
  .noat "Web" "most",
  .mkr "Web",
  .meth "Web" "__eq__",
  .meth "Web" "__str__"]
def fa_all : List He.Fa := fa_0 ++ fa_1 ++ fa_2 ++ fa_3
def ex_0 : List Chk := [clsB "Bound" tys,
  neB "Bound",
  smB "Bound" "read",
  clsB "Poly" tys,
  neB "Poly",
  smB "Poly" "read",
  clsB "Web" tys,
  neB "Web",
  smB "Web" "read",
  topB,
  errB "BadText" ["line", "item"] ["BadText", "SignsError"] [],
  otB "Bound" "Poly",
  otB "Bound" "Web",
  otB "Poly" "Bound",
  otB "Poly" "Web",
  otB "Web" "Bound",
  otB "Web" "Poly",
  excB "BadText",
  kiB "BadText" "BadText" true,
  tnB "_law_bound_right" "_law_poly_right",
  tnB "_law_bound_right" "_law_web_right",
  tnB "_law_bound_right" "law",
  tnB "_law_poly_right" "_law_web_right",
  tnB "_law_poly_right" "law",
  tnB "_law_web_right" "law"]
def ex_all : List Chk := ex_0
def fn_0 : List He5.DefA := [⟨fun K => He.ga K "_wall", "_wall", "_wall", defArgs s__wall, defBody s__wall, defScope s__wall, [], []⟩,
  ⟨fun K => He.ma K (He.ga K "BadNumber") "__init__", "__init__", "BadNumber.__init__", defArgs s_BadNumber_init, defBody s_BadNumber_init, defScope s_BadNumber_init, [], []⟩,
  ⟨fun K => He.ma K (He.ga K "BadPoly") "__init__", "__init__", "BadPoly.__init__", defArgs s_BadPoly_init, defBody s_BadPoly_init, defScope s_BadPoly_init, [], []⟩,
  ⟨fun K => He.ma K (He.ga K "BadWeb") "__init__", "__init__", "BadWeb.__init__", defArgs s_BadWeb_init, defBody s_BadWeb_init, defScope s_BadWeb_init, [], []⟩,
  ⟨fun K => He.ma K (He.ga K "Misfit") "__init__", "__init__", "Misfit.__init__", defArgs s_Misfit_init, defBody s_Misfit_init, defScope s_Misfit_init, [], []⟩,
  ⟨fun K => He.ma K (He.ga K "Missing") "__init__", "__init__", "Missing.__init__", defArgs s_Missing_init, defBody s_Missing_init, defScope s_Missing_init, [], []⟩,
  ⟨fun K => He.ma K (He.ga K "Twice") "__init__", "__init__", "Twice.__init__", defArgs s_Twice_init, defBody s_Twice_init, defScope s_Twice_init, [], []⟩,
  ⟨fun K => He.ma K (He.ga K "BadText") "__init__", "__init__", "BadText.__init__", defArgs s_BadText_init, defBody s_BadText_init, defScope s_BadText_init, [], []⟩,
  ⟨fun K => He.ga K "is_integer", "is_integer", "is_integer", defArgs s_is_integer, defBody s_is_integer, defScope s_is_integer, [], []⟩,
  ⟨fun K => He.ga K "is_within", "is_within", "is_within", defArgs s_is_within, defBody s_is_within, defScope s_is_within, [], []⟩,
  ⟨fun K => He.ga K "is_row", "is_row", "is_row", defArgs s_is_row, defBody s_is_row, defScope s_is_row, [], []⟩,
  ⟨fun K => He.ga K "are_integers", "are_integers", "are_integers", defArgs s_are_integers, defBody s_are_integers, defScope s_are_integers, [], []⟩,
  ⟨fun K => He.ga K "need_integer", "need_integer", "need_integer", defArgs s_need_integer, defBody s_need_integer, defScope s_need_integer, [], []⟩,
  ⟨fun K => He.ga K "items_of", "items_of", "items_of", defArgs s_items_of, defBody s_items_of, defScope s_items_of, [], []⟩,
  ⟨fun K => He.ga K "is_integer_text", "is_integer_text", "is_integer_text", defArgs s_is_integer_text, defBody s_is_integer_text, defScope s_is_integer_text, [], []⟩,
  ⟨fun K => He.ga K "integer_at", "integer_at", "integer_at", defArgs s_integer_at, defBody s_integer_at, defScope s_integer_at, [], []⟩,
  ⟨fun K => He.ga K "need_item", "need_item", "need_item", defArgs s_need_item, defBody s_need_item, defScope s_need_item, [], []⟩,
  ⟨fun K => He.ga K "need_end", "need_end", "need_end", defArgs s_need_end, defBody s_need_end, defScope s_need_end, [], []⟩,
  ⟨fun K => He.ga K "integer_text", "integer_text", "integer_text", defArgs s_integer_text, defBody s_integer_text, defScope s_integer_text, [], []⟩,
  ⟨fun K => He.ma K (He.ga K "Web") "__init__", "__init__", "Web.__init__", defArgs s_Web_init, defBody s_Web_init, defScope s_Web_init, [], []⟩,
  ⟨fun K => He.ma K (He.ga K "Web") "__eq__", "__eq__", "Web.__eq__", defArgs s_Web_eq, defBody s_Web_eq, defScope s_Web_eq, [], []⟩,
  ⟨fun K => He.ma K (He.ga K "Web") "__str__", "__str__", "Web.__str__", defArgs s_Web_str, defBody s_Web_str, defScope s_Web_str, [], []⟩,
  ⟨fun K => He.ma K (He.ga K "Web") "neighbours", "neighbours", "Web.neighbours", defArgs s_Web_neighbours, defBody s_Web_neighbours, defScope s_Web_neighbours, [], []⟩,
  ⟨fun K => He5.wf K (He.ga K "Web") "staticmethod" "read", "read", "Web.read", defArgs s_Web_read, defBody s_Web_read, defScope s_Web_read, [], []⟩,
  ⟨fun K => He.ga K "are_pairs", "are_pairs", "are_pairs", defArgs s_are_pairs, defBody s_are_pairs, defScope s_are_pairs, [], []⟩,
  ⟨fun K => He.ga K "sorted_ties", "sorted_ties", "sorted_ties", defArgs s_sorted_ties, defBody s_sorted_ties, defScope s_sorted_ties, [], []⟩,
  ⟨fun K => He.ga K "near_places", "near_places", "near_places", defArgs s_near_places, defBody s_near_places, defScope s_near_places, [], []⟩,
  ⟨fun K => He.ga K "read_ties", "read_ties", "read_ties", defArgs s_read_ties, defBody s_read_ties, defScope s_read_ties, [], []⟩,
  ⟨fun K => He.ga K "need_among", "need_among", "need_among", defArgs s_need_among, defBody s_need_among, defScope s_need_among, [], []⟩,
  ⟨fun K => He.ma K (He.ga K "Bound") "__init__", "__init__", "Bound.__init__", defArgs s_Bound_init, defBody s_Bound_init, defScope s_Bound_init, [], []⟩]
def fn_1 : List He5.DefA := [⟨fun K => He.ma K (He.ga K "Bound") "__eq__", "__eq__", "Bound.__eq__", defArgs s_Bound_eq, defBody s_Bound_eq, defScope s_Bound_eq, [], []⟩,
  ⟨fun K => He.ma K (He.ga K "Bound") "__str__", "__str__", "Bound.__str__", defArgs s_Bound_str, defBody s_Bound_str, defScope s_Bound_str, [], []⟩,
  ⟨fun K => He5.wf K (He.ga K "Bound") "staticmethod" "read", "read", "Bound.read", defArgs s_Bound_read, defBody s_Bound_read, defScope s_Bound_read, [], []⟩,
  ⟨fun K => He.ma K (He.ga K "Poly") "__init__", "__init__", "Poly.__init__", defArgs s_Poly_init, defBody s_Poly_init, defScope s_Poly_init, [], []⟩,
  ⟨fun K => He.ma K (He.ga K "Poly") "__eq__", "__eq__", "Poly.__eq__", defArgs s_Poly_eq, defBody s_Poly_eq, defScope s_Poly_eq, [], []⟩,
  ⟨fun K => He.ma K (He.ga K "Poly") "__str__", "__str__", "Poly.__str__", defArgs s_Poly_str, defBody s_Poly_str, defScope s_Poly_str, [], []⟩,
  ⟨fun K => He.ma K (He.ga K "Poly") "worth", "worth", "Poly.worth", defArgs s_Poly_worth, defBody s_Poly_worth, defScope s_Poly_worth, [], []⟩,
  ⟨fun K => He5.wf K (He.ga K "Poly") "staticmethod" "read", "read", "Poly.read", defArgs s_Poly_read, defBody s_Poly_read, defScope s_Poly_read, [], []⟩,
  ⟨fun K => He.ga K "_law_ark", "_law_ark", "_law_ark", defArgs s__law_ark, defBody s__law_ark, defScope s__law_ark, [], []⟩,
  ⟨fun K => He.ga K "_law_haul", "_law_haul", "_law_haul", defArgs s__law_haul, defBody s__law_haul, defScope s__law_haul, [], []⟩,
  ⟨fun K => He.ga K "_law_fish", "_law_fish", "_law_fish", defArgs s__law_fish, defBody s__law_fish, defScope s__law_fish, [], []⟩,
  ⟨fun K => He.ga K "_law_number", "_law_number", "_law_number", defArgs s__law_number, defBody s__law_number, defScope s__law_number, [], []⟩,
  ⟨fun K => He.ga K "_law_bound", "_law_bound", "_law_bound", defArgs s__law_bound, defBody s__law_bound, defScope s__law_bound, [], []⟩,
  ⟨fun K => He.ga K "_law_poly", "_law_poly", "_law_poly", defArgs s__law_poly, defBody s__law_poly, defScope s__law_poly, [], []⟩,
  ⟨fun K => He.ga K "_law_web", "_law_web", "_law_web", defArgs s__law_web, defBody s__law_web, defScope s__law_web, [], []⟩,
  ⟨fun K => He.ga K "_law_is", "_law_is", "_law_is", defArgs s__law_is, defBody s__law_is, defScope s__law_is, [], []⟩,
  ⟨fun K => He.ga K "_law_bound_stop", "_law_bound_stop", "_law_bound_stop", defArgs s__law_bound_stop, defBody s__law_bound_stop, defScope s__law_bound_stop, [], []⟩,
  ⟨fun K => He.ga K "_law_poly_stop", "_law_poly_stop", "_law_poly_stop", defArgs s__law_poly_stop, defBody s__law_poly_stop, defScope s__law_poly_stop, [], []⟩,
  ⟨fun K => He.ga K "_law_web_stop", "_law_web_stop", "_law_web_stop", defArgs s__law_web_stop, defBody s__law_web_stop, defScope s__law_web_stop, [], []⟩,
  ⟨fun K => He.ga K "_law_bent", "_law_bent", "_law_bent", defArgs s__law_bent, defBody s__law_bent, defScope s__law_bent, [], []⟩,
  ⟨fun K => He.ga K "_law_heard", "_law_heard", "_law_heard", defArgs s__law_heard, defBody s__law_heard, defScope s__law_heard, [], []⟩,
  ⟨fun K => He.ga K "_law_bound_right", "_law_bound_right", "_law_bound_right", defArgs s__law_bound_right, defBody s__law_bound_right, defScope s__law_bound_right, [], []⟩,
  ⟨fun K => He.ga K "_law_poly_right", "_law_poly_right", "_law_poly_right", defArgs s__law_poly_right, defBody s__law_poly_right, defScope s__law_poly_right, [], []⟩,
  ⟨fun K => He.ga K "_law_web_right", "_law_web_right", "_law_web_right", defArgs s__law_web_right, defBody s__law_web_right, defScope s__law_web_right, [], []⟩,
  ⟨fun K => He.ga K "law", "law", "law", defArgs s_law, defBody s_law, defScope s_law, [], []⟩]
def fn_all : List He5.DefA := fn_0 ++ fn_1
structure Txt (K : PySem.W.Frag) (mg : Str → Option Value) : Prop where
  g__wall : mg "_wall" = some (.ref (He.ga K "_wall"))
  g_is_integer : mg "is_integer" = some (.ref (He.ga K "is_integer"))
  g_is_within : mg "is_within" = some (.ref (He.ga K "is_within"))
  g_is_row : mg "is_row" = some (.ref (He.ga K "is_row"))
  g_are_integers : mg "are_integers" = some (.ref (He.ga K "are_integers"))
  g_need_integer : mg "need_integer" = some (.ref (He.ga K "need_integer"))
  g_items_of : mg "items_of" = some (.ref (He.ga K "items_of"))
  g_is_integer_text : mg "is_integer_text" = some (.ref (He.ga K "is_integer_text"))
  g_integer_at : mg "integer_at" = some (.ref (He.ga K "integer_at"))
  g_need_item : mg "need_item" = some (.ref (He.ga K "need_item"))
  g_need_end : mg "need_end" = some (.ref (He.ga K "need_end"))
  g_integer_text : mg "integer_text" = some (.ref (He.ga K "integer_text"))
  g_are_pairs : mg "are_pairs" = some (.ref (He.ga K "are_pairs"))
  g_sorted_ties : mg "sorted_ties" = some (.ref (He.ga K "sorted_ties"))
  g_near_places : mg "near_places" = some (.ref (He.ga K "near_places"))
  g_read_ties : mg "read_ties" = some (.ref (He.ga K "read_ties"))
  g_need_among : mg "need_among" = some (.ref (He.ga K "need_among"))
  g__law_ark : mg "_law_ark" = some (.ref (He.ga K "_law_ark"))
  g__law_haul : mg "_law_haul" = some (.ref (He.ga K "_law_haul"))
  g__law_fish : mg "_law_fish" = some (.ref (He.ga K "_law_fish"))
  g__law_number : mg "_law_number" = some (.ref (He.ga K "_law_number"))
  g__law_bound : mg "_law_bound" = some (.ref (He.ga K "_law_bound"))
  g__law_poly : mg "_law_poly" = some (.ref (He.ga K "_law_poly"))
  g__law_web : mg "_law_web" = some (.ref (He.ga K "_law_web"))
  g__law_is : mg "_law_is" = some (.ref (He.ga K "_law_is"))
  g__law_bound_stop : mg "_law_bound_stop" = some (.ref (He.ga K "_law_bound_stop"))
  g__law_poly_stop : mg "_law_poly_stop" = some (.ref (He.ga K "_law_poly_stop"))
  g__law_web_stop : mg "_law_web_stop" = some (.ref (He.ga K "_law_web_stop"))
  g__law_bent : mg "_law_bent" = some (.ref (He.ga K "_law_bent"))
  g__law_heard : mg "_law_heard" = some (.ref (He.ga K "_law_heard"))
  g__law_bound_right : mg "_law_bound_right" = some (.ref (He.ga K "_law_bound_right"))
  g__law_poly_right : mg "_law_poly_right" = some (.ref (He.ga K "_law_poly_right"))
  g__law_web_right : mg "_law_web_right" = some (.ref (He.ga K "_law_web_right"))
  g_law : mg "law" = some (.ref (He.ga K "law"))
  g_SignsError : mg "SignsError" = some (.ref (He.ga K "SignsError"))
  g_BadNumber : mg "BadNumber" = some (.ref (He.ga K "BadNumber"))
  g_BadPoly : mg "BadPoly" = some (.ref (He.ga K "BadPoly"))
  g_BadWeb : mg "BadWeb" = some (.ref (He.ga K "BadWeb"))
  g_Misfit : mg "Misfit" = some (.ref (He.ga K "Misfit"))
  g_Missing : mg "Missing" = some (.ref (He.ga K "Missing"))
  g_NoPlace : mg "NoPlace" = some (.ref (He.ga K "NoPlace"))
  g_Twice : mg "Twice" = some (.ref (He.ga K "Twice"))
  g_BadText : mg "BadText" = some (.ref (He.ga K "BadText"))
  g_Web : mg "Web" = some (.ref (He.ga K "Web"))
  g_Bound : mg "Bound" = some (.ref (He.ga K "Bound"))
  g_Poly : mg "Poly" = some (.ref (He.ga K "Poly"))
  k__wall : PySem.W.keepIn K (.ref (He.ga K "_wall")) = true
  k_is_integer : PySem.W.keepIn K (.ref (He.ga K "is_integer")) = true
  k_is_within : PySem.W.keepIn K (.ref (He.ga K "is_within")) = true
  k_is_row : PySem.W.keepIn K (.ref (He.ga K "is_row")) = true
  k_are_integers : PySem.W.keepIn K (.ref (He.ga K "are_integers")) = true
  k_need_integer : PySem.W.keepIn K (.ref (He.ga K "need_integer")) = true
  k_items_of : PySem.W.keepIn K (.ref (He.ga K "items_of")) = true
  k_is_integer_text : PySem.W.keepIn K (.ref (He.ga K "is_integer_text")) = true
  k_integer_at : PySem.W.keepIn K (.ref (He.ga K "integer_at")) = true
  k_need_item : PySem.W.keepIn K (.ref (He.ga K "need_item")) = true
  k_need_end : PySem.W.keepIn K (.ref (He.ga K "need_end")) = true
  k_integer_text : PySem.W.keepIn K (.ref (He.ga K "integer_text")) = true
  k_are_pairs : PySem.W.keepIn K (.ref (He.ga K "are_pairs")) = true
  k_sorted_ties : PySem.W.keepIn K (.ref (He.ga K "sorted_ties")) = true
  k_near_places : PySem.W.keepIn K (.ref (He.ga K "near_places")) = true
  k_read_ties : PySem.W.keepIn K (.ref (He.ga K "read_ties")) = true
  k_need_among : PySem.W.keepIn K (.ref (He.ga K "need_among")) = true
  k__law_ark : PySem.W.keepIn K (.ref (He.ga K "_law_ark")) = true
  k__law_haul : PySem.W.keepIn K (.ref (He.ga K "_law_haul")) = true
  k__law_fish : PySem.W.keepIn K (.ref (He.ga K "_law_fish")) = true
  k__law_number : PySem.W.keepIn K (.ref (He.ga K "_law_number")) = true
  k__law_bound : PySem.W.keepIn K (.ref (He.ga K "_law_bound")) = true
  k__law_poly : PySem.W.keepIn K (.ref (He.ga K "_law_poly")) = true
  k__law_web : PySem.W.keepIn K (.ref (He.ga K "_law_web")) = true
  k__law_is : PySem.W.keepIn K (.ref (He.ga K "_law_is")) = true
  k__law_bound_stop : PySem.W.keepIn K (.ref (He.ga K "_law_bound_stop")) = true
  k__law_poly_stop : PySem.W.keepIn K (.ref (He.ga K "_law_poly_stop")) = true
  k__law_web_stop : PySem.W.keepIn K (.ref (He.ga K "_law_web_stop")) = true
  k__law_bent : PySem.W.keepIn K (.ref (He.ga K "_law_bent")) = true
  k__law_heard : PySem.W.keepIn K (.ref (He.ga K "_law_heard")) = true
  k__law_bound_right : PySem.W.keepIn K (.ref (He.ga K "_law_bound_right")) = true
  k__law_poly_right : PySem.W.keepIn K (.ref (He.ga K "_law_poly_right")) = true
  k__law_web_right : PySem.W.keepIn K (.ref (He.ga K "_law_web_right")) = true
  k_law : PySem.W.keepIn K (.ref (He.ga K "law")) = true
  b_isinstance : mg "isinstance" = none
  b_int : mg "int" = none
  b_bool : mg "bool" = none
  b_str : mg "str" = none
  b_list : mg "list" = none
  b_tuple : mg "tuple" = none
  b_len : mg "len" = none
  b_abs : mg "abs" = none
  b_range : mg "range" = none
  b_all : mg "all" = none
  b_max : mg "max" = none
  b_min : mg "min" = none
  b_sorted : mg "sorted" = none
  b_repr : mg "repr" = none
  c_DIGITS : ∃ t, mg "DIGITS" = some (.str "0123456789" t)
  c_MOST_DIGITS : ∃ t, mg "MOST_DIGITS" = some (.int 60 t)
  c_MOST_PLACES : ∃ t, mg "MOST_PLACES" = some (.int 60 t)
  c_MOST_NUMBERS : ∃ t, mg "MOST_NUMBERS" = some (.int 64 t)
  cl_Bound : Cls K (He.ga K "Bound")
  na_Bound_whole : NoAttr K (He.ga K "Bound") "whole"
  na_Bound_part : NoAttr K (He.ga K "Bound") "part"
  na_Bound_under : NoAttr K (He.ga K "Bound") "under"
  mk_Bound : Mk K (He.ga K "Bound") (He.ma K (He.ga K "Bound") "__init__")
  me_Bound_eq : Meth K (He.ga K "Bound") "__eq__" (He.ma K (He.ga K "Bound") "__eq__")
  me_Bound_str : Meth K (He.ga K "Bound") "__str__" (He.ma K (He.ga K "Bound") "__str__")
  cc_Bound : ClsC K "Bound" tys
  ne_Bound : PySem.W.findIn K (.ref (He.ga K "Bound")) "__ne__" = some (some (.builtin "object.__ne__"))
  sm_Bound_read : SMet K (He.ga K "Bound") (.type "type") "read" (He.ma K (He.ga K "Bound") "read") (He5.wf K (He.ga K "Bound") "staticmethod" "read") ∧ ClX.CRead K (He.ga K "Bound") (.type "type") ∧ PySem.W.keepIn K (.ref (He5.wf K (He.ga K "Bound") "staticmethod" "read")) = true
  cl_Poly : Cls K (He.ga K "Poly")
  na_Poly_numbers : NoAttr K (He.ga K "Poly") "numbers"
  na_Poly_degree : NoAttr K (He.ga K "Poly") "degree"
  mk_Poly : Mk K (He.ga K "Poly") (He.ma K (He.ga K "Poly") "__init__")
  me_Poly_eq : Meth K (He.ga K "Poly") "__eq__" (He.ma K (He.ga K "Poly") "__eq__")
  me_Poly_str : Meth K (He.ga K "Poly") "__str__" (He.ma K (He.ga K "Poly") "__str__")
  cc_Poly : ClsC K "Poly" tys
  ne_Poly : PySem.W.findIn K (.ref (He.ga K "Poly")) "__ne__" = some (some (.builtin "object.__ne__"))
  sm_Poly_read : SMet K (He.ga K "Poly") (.type "type") "read" (He.ma K (He.ga K "Poly") "read") (He5.wf K (He.ga K "Poly") "staticmethod" "read") ∧ ClX.CRead K (He.ga K "Poly") (.type "type") ∧ PySem.W.keepIn K (.ref (He5.wf K (He.ga K "Poly") "staticmethod" "read")) = true
  cl_Web : Cls K (He.ga K "Web")
  na_Web_places : NoAttr K (He.ga K "Web") "places"
  na_Web_ties : NoAttr K (He.ga K "Web") "ties"
  na_Web__near : NoAttr K (He.ga K "Web") "_near"
  na_Web_most : NoAttr K (He.ga K "Web") "most"
  mk_Web : Mk K (He.ga K "Web") (He.ma K (He.ga K "Web") "__init__")
  me_Web_eq : Meth K (He.ga K "Web") "__eq__" (He.ma K (He.ga K "Web") "__eq__")
  me_Web_str : Meth K (He.ga K "Web") "__str__" (He.ma K (He.ga K "Web") "__str__")
  cc_Web : ClsC K "Web" tys
  ne_Web : PySem.W.findIn K (.ref (He.ga K "Web")) "__ne__" = some (some (.builtin "object.__ne__"))
  sm_Web_read : SMet K (He.ga K "Web") (.type "type") "read" (He.ma K (He.ga K "Web") "read") (He5.wf K (He.ga K "Web") "staticmethod" "read") ∧ ClX.CRead K (He.ga K "Web") (.type "type") ∧ PySem.W.keepIn K (.ref (He5.wf K (He.ga K "Web") "staticmethod" "read")) = true
  top : topB K = true
  e_BadText : ErrC K "BadText" ["line", "item"] ["BadText", "SignsError"] []
  ot_Bound_Poly : PySem.W.kitOne K (.ref (He.ga K "Bound")) (.ref (He.ga K "Poly")) = some false ∧ PySem.W.notFirst K (He.ga K "Poly") (.ref (He.ga K "Bound")) = true
  ot_Bound_Web : PySem.W.kitOne K (.ref (He.ga K "Bound")) (.ref (He.ga K "Web")) = some false ∧ PySem.W.notFirst K (He.ga K "Web") (.ref (He.ga K "Bound")) = true
  ot_Poly_Bound : PySem.W.kitOne K (.ref (He.ga K "Poly")) (.ref (He.ga K "Bound")) = some false ∧ PySem.W.notFirst K (He.ga K "Bound") (.ref (He.ga K "Poly")) = true
  ot_Poly_Web : PySem.W.kitOne K (.ref (He.ga K "Poly")) (.ref (He.ga K "Web")) = some false ∧ PySem.W.notFirst K (He.ga K "Web") (.ref (He.ga K "Poly")) = true
  ot_Web_Bound : PySem.W.kitOne K (.ref (He.ga K "Web")) (.ref (He.ga K "Bound")) = some false ∧ PySem.W.notFirst K (He.ga K "Bound") (.ref (He.ga K "Web")) = true
  ot_Web_Poly : PySem.W.kitOne K (.ref (He.ga K "Web")) (.ref (He.ga K "Poly")) = some false ∧ PySem.W.notFirst K (He.ga K "Poly") (.ref (He.ga K "Web")) = true
  x_BadText : ExcC K (He.ga K "BadText")
  ki_BadText_BadText : PySem.W.kitOne K (.ref (He.ga K "BadText")) (.ref (He.ga K "BadText")) = some true
  tn__law_bound_right__law_poly_right : (He.cT K ("_law_bound_right", none)).2 ≠ (He.cT K ("_law_poly_right", none)).2
  tn__law_bound_right__law_web_right : (He.cT K ("_law_bound_right", none)).2 ≠ (He.cT K ("_law_web_right", none)).2
  tn__law_bound_right_law : (He.cT K ("_law_bound_right", none)).2 ≠ (He.cT K ("law", none)).2
  tn__law_poly_right__law_web_right : (He.cT K ("_law_poly_right", none)).2 ≠ (He.cT K ("_law_web_right", none)).2
  tn__law_poly_right_law : (He.cT K ("_law_poly_right", none)).2 ≠ (He.cT K ("law", none)).2
  tn__law_web_right_law : (He.cT K ("_law_web_right", none)).2 ≠ (He.cT K ("law", none)).2
  d__wall : ∃ fd, FunD K "_wall" "_wall" (defArgs s__wall) (defBody s__wall) (defScope s__wall) [] [] (He.ga K "_wall") fd
  d_BadNumber_init : ∃ fd, FunD K "__init__" "BadNumber.__init__" (defArgs s_BadNumber_init) (defBody s_BadNumber_init) (defScope s_BadNumber_init) [] [] (He.ma K (He.ga K "BadNumber") "__init__") fd
  d_BadPoly_init : ∃ fd, FunD K "__init__" "BadPoly.__init__" (defArgs s_BadPoly_init) (defBody s_BadPoly_init) (defScope s_BadPoly_init) [] [] (He.ma K (He.ga K "BadPoly") "__init__") fd
  d_BadWeb_init : ∃ fd, FunD K "__init__" "BadWeb.__init__" (defArgs s_BadWeb_init) (defBody s_BadWeb_init) (defScope s_BadWeb_init) [] [] (He.ma K (He.ga K "BadWeb") "__init__") fd
  d_Misfit_init : ∃ fd, FunD K "__init__" "Misfit.__init__" (defArgs s_Misfit_init) (defBody s_Misfit_init) (defScope s_Misfit_init) [] [] (He.ma K (He.ga K "Misfit") "__init__") fd
  d_Missing_init : ∃ fd, FunD K "__init__" "Missing.__init__" (defArgs s_Missing_init) (defBody s_Missing_init) (defScope s_Missing_init) [] [] (He.ma K (He.ga K "Missing") "__init__") fd
  d_Twice_init : ∃ fd, FunD K "__init__" "Twice.__init__" (defArgs s_Twice_init) (defBody s_Twice_init) (defScope s_Twice_init) [] [] (He.ma K (He.ga K "Twice") "__init__") fd
  d_BadText_init : ∃ fd, FunD K "__init__" "BadText.__init__" (defArgs s_BadText_init) (defBody s_BadText_init) (defScope s_BadText_init) [] [] (He.ma K (He.ga K "BadText") "__init__") fd
  d_is_integer : ∃ fd, FunD K "is_integer" "is_integer" (defArgs s_is_integer) (defBody s_is_integer) (defScope s_is_integer) [] [] (He.ga K "is_integer") fd
  d_is_within : ∃ fd, FunD K "is_within" "is_within" (defArgs s_is_within) (defBody s_is_within) (defScope s_is_within) [] [] (He.ga K "is_within") fd
  d_is_row : ∃ fd, FunD K "is_row" "is_row" (defArgs s_is_row) (defBody s_is_row) (defScope s_is_row) [] [] (He.ga K "is_row") fd
  d_are_integers : ∃ fd, FunD K "are_integers" "are_integers" (defArgs s_are_integers) (defBody s_are_integers) (defScope s_are_integers) [] [] (He.ga K "are_integers") fd
  d_need_integer : ∃ fd, FunD K "need_integer" "need_integer" (defArgs s_need_integer) (defBody s_need_integer) (defScope s_need_integer) [] [] (He.ga K "need_integer") fd
  d_items_of : ∃ fd, FunD K "items_of" "items_of" (defArgs s_items_of) (defBody s_items_of) (defScope s_items_of) [] [] (He.ga K "items_of") fd
  d_is_integer_text : ∃ fd, FunD K "is_integer_text" "is_integer_text" (defArgs s_is_integer_text) (defBody s_is_integer_text) (defScope s_is_integer_text) [] [] (He.ga K "is_integer_text") fd
  d_integer_at : ∃ fd, FunD K "integer_at" "integer_at" (defArgs s_integer_at) (defBody s_integer_at) (defScope s_integer_at) [] [] (He.ga K "integer_at") fd
  d_need_item : ∃ fd, FunD K "need_item" "need_item" (defArgs s_need_item) (defBody s_need_item) (defScope s_need_item) [] [] (He.ga K "need_item") fd
  d_need_end : ∃ fd, FunD K "need_end" "need_end" (defArgs s_need_end) (defBody s_need_end) (defScope s_need_end) [] [] (He.ga K "need_end") fd
  d_integer_text : ∃ fd, FunD K "integer_text" "integer_text" (defArgs s_integer_text) (defBody s_integer_text) (defScope s_integer_text) [] [] (He.ga K "integer_text") fd
  d_Web_init : ∃ fd, FunD K "__init__" "Web.__init__" (defArgs s_Web_init) (defBody s_Web_init) (defScope s_Web_init) [] [] (He.ma K (He.ga K "Web") "__init__") fd
  d_Web_eq : ∃ fd, FunD K "__eq__" "Web.__eq__" (defArgs s_Web_eq) (defBody s_Web_eq) (defScope s_Web_eq) [] [] (He.ma K (He.ga K "Web") "__eq__") fd
  d_Web_str : ∃ fd, FunD K "__str__" "Web.__str__" (defArgs s_Web_str) (defBody s_Web_str) (defScope s_Web_str) [] [] (He.ma K (He.ga K "Web") "__str__") fd
  d_Web_neighbours : ∃ fd, FunD K "neighbours" "Web.neighbours" (defArgs s_Web_neighbours) (defBody s_Web_neighbours) (defScope s_Web_neighbours) [] [] (He.ma K (He.ga K "Web") "neighbours") fd
  d_Web_read : ∃ fd, FunD K "read" "Web.read" (defArgs s_Web_read) (defBody s_Web_read) (defScope s_Web_read) [] [] (He5.wf K (He.ga K "Web") "staticmethod" "read") fd
  d_are_pairs : ∃ fd, FunD K "are_pairs" "are_pairs" (defArgs s_are_pairs) (defBody s_are_pairs) (defScope s_are_pairs) [] [] (He.ga K "are_pairs") fd
  d_sorted_ties : ∃ fd, FunD K "sorted_ties" "sorted_ties" (defArgs s_sorted_ties) (defBody s_sorted_ties) (defScope s_sorted_ties) [] [] (He.ga K "sorted_ties") fd
  d_near_places : ∃ fd, FunD K "near_places" "near_places" (defArgs s_near_places) (defBody s_near_places) (defScope s_near_places) [] [] (He.ga K "near_places") fd
  d_read_ties : ∃ fd, FunD K "read_ties" "read_ties" (defArgs s_read_ties) (defBody s_read_ties) (defScope s_read_ties) [] [] (He.ga K "read_ties") fd
  d_need_among : ∃ fd, FunD K "need_among" "need_among" (defArgs s_need_among) (defBody s_need_among) (defScope s_need_among) [] [] (He.ga K "need_among") fd
  d_Bound_init : ∃ fd, FunD K "__init__" "Bound.__init__" (defArgs s_Bound_init) (defBody s_Bound_init) (defScope s_Bound_init) [] [] (He.ma K (He.ga K "Bound") "__init__") fd
  d_Bound_eq : ∃ fd, FunD K "__eq__" "Bound.__eq__" (defArgs s_Bound_eq) (defBody s_Bound_eq) (defScope s_Bound_eq) [] [] (He.ma K (He.ga K "Bound") "__eq__") fd
  d_Bound_str : ∃ fd, FunD K "__str__" "Bound.__str__" (defArgs s_Bound_str) (defBody s_Bound_str) (defScope s_Bound_str) [] [] (He.ma K (He.ga K "Bound") "__str__") fd
  d_Bound_read : ∃ fd, FunD K "read" "Bound.read" (defArgs s_Bound_read) (defBody s_Bound_read) (defScope s_Bound_read) [] [] (He5.wf K (He.ga K "Bound") "staticmethod" "read") fd
  d_Poly_init : ∃ fd, FunD K "__init__" "Poly.__init__" (defArgs s_Poly_init) (defBody s_Poly_init) (defScope s_Poly_init) [] [] (He.ma K (He.ga K "Poly") "__init__") fd
  d_Poly_eq : ∃ fd, FunD K "__eq__" "Poly.__eq__" (defArgs s_Poly_eq) (defBody s_Poly_eq) (defScope s_Poly_eq) [] [] (He.ma K (He.ga K "Poly") "__eq__") fd
  d_Poly_str : ∃ fd, FunD K "__str__" "Poly.__str__" (defArgs s_Poly_str) (defBody s_Poly_str) (defScope s_Poly_str) [] [] (He.ma K (He.ga K "Poly") "__str__") fd
  d_Poly_worth : ∃ fd, FunD K "worth" "Poly.worth" (defArgs s_Poly_worth) (defBody s_Poly_worth) (defScope s_Poly_worth) [] [] (He.ma K (He.ga K "Poly") "worth") fd
  d_Poly_read : ∃ fd, FunD K "read" "Poly.read" (defArgs s_Poly_read) (defBody s_Poly_read) (defScope s_Poly_read) [] [] (He5.wf K (He.ga K "Poly") "staticmethod" "read") fd
  d__law_ark : ∃ fd, FunD K "_law_ark" "_law_ark" (defArgs s__law_ark) (defBody s__law_ark) (defScope s__law_ark) [] [] (He.ga K "_law_ark") fd
  d__law_haul : ∃ fd, FunD K "_law_haul" "_law_haul" (defArgs s__law_haul) (defBody s__law_haul) (defScope s__law_haul) [] [] (He.ga K "_law_haul") fd
  d__law_fish : ∃ fd, FunD K "_law_fish" "_law_fish" (defArgs s__law_fish) (defBody s__law_fish) (defScope s__law_fish) [] [] (He.ga K "_law_fish") fd
  d__law_number : ∃ fd, FunD K "_law_number" "_law_number" (defArgs s__law_number) (defBody s__law_number) (defScope s__law_number) [] [] (He.ga K "_law_number") fd
  d__law_bound : ∃ fd, FunD K "_law_bound" "_law_bound" (defArgs s__law_bound) (defBody s__law_bound) (defScope s__law_bound) [] [] (He.ga K "_law_bound") fd
  d__law_poly : ∃ fd, FunD K "_law_poly" "_law_poly" (defArgs s__law_poly) (defBody s__law_poly) (defScope s__law_poly) [] [] (He.ga K "_law_poly") fd
  d__law_web : ∃ fd, FunD K "_law_web" "_law_web" (defArgs s__law_web) (defBody s__law_web) (defScope s__law_web) [] [] (He.ga K "_law_web") fd
  d__law_is : ∃ fd, FunD K "_law_is" "_law_is" (defArgs s__law_is) (defBody s__law_is) (defScope s__law_is) [] [] (He.ga K "_law_is") fd
  d__law_bound_stop : ∃ fd, FunD K "_law_bound_stop" "_law_bound_stop" (defArgs s__law_bound_stop) (defBody s__law_bound_stop) (defScope s__law_bound_stop) [] [] (He.ga K "_law_bound_stop") fd
  d__law_poly_stop : ∃ fd, FunD K "_law_poly_stop" "_law_poly_stop" (defArgs s__law_poly_stop) (defBody s__law_poly_stop) (defScope s__law_poly_stop) [] [] (He.ga K "_law_poly_stop") fd
  d__law_web_stop : ∃ fd, FunD K "_law_web_stop" "_law_web_stop" (defArgs s__law_web_stop) (defBody s__law_web_stop) (defScope s__law_web_stop) [] [] (He.ga K "_law_web_stop") fd
  d__law_bent : ∃ fd, FunD K "_law_bent" "_law_bent" (defArgs s__law_bent) (defBody s__law_bent) (defScope s__law_bent) [] [] (He.ga K "_law_bent") fd
  d__law_heard : ∃ fd, FunD K "_law_heard" "_law_heard" (defArgs s__law_heard) (defBody s__law_heard) (defScope s__law_heard) [] [] (He.ga K "_law_heard") fd
  d__law_bound_right : ∃ fd, FunD K "_law_bound_right" "_law_bound_right" (defArgs s__law_bound_right) (defBody s__law_bound_right) (defScope s__law_bound_right) [] [] (He.ga K "_law_bound_right") fd
  d__law_poly_right : ∃ fd, FunD K "_law_poly_right" "_law_poly_right" (defArgs s__law_poly_right) (defBody s__law_poly_right) (defScope s__law_poly_right) [] [] (He.ga K "_law_poly_right") fd
  d__law_web_right : ∃ fd, FunD K "_law_web_right" "_law_web_right" (defArgs s__law_web_right) (defBody s__law_web_right) (defScope s__law_web_right) [] [] (He.ga K "_law_web_right") fd
  d_law : ∃ fd, FunD K "law" "law" (defArgs s_law) (defBody s_law) (defScope s_law) [] [] (He.ga K "law") fd
theorem txt_of {K : PySem.W.Frag} {mg : Str → Option Value} {h : Heap} (X : K.In h) (G : h.Ns mainGlobals mg) (c : SaysM fa_all ex_all fn_all K) : Txt K mg where
  g__wall := He.glo_ok X G (c.fact 0)
  g_is_integer := He.glo_ok X G (c.fact 1)
  g_is_within := He.glo_ok X G (c.fact 2)
  g_is_row := He.glo_ok X G (c.fact 3)
  g_are_integers := He.glo_ok X G (c.fact 4)
  g_need_integer := He.glo_ok X G (c.fact 5)
  g_items_of := He.glo_ok X G (c.fact 6)
  g_is_integer_text := He.glo_ok X G (c.fact 7)
  g_integer_at := He.glo_ok X G (c.fact 8)
  g_need_item := He.glo_ok X G (c.fact 9)
  g_need_end := He.glo_ok X G (c.fact 10)
  g_integer_text := He.glo_ok X G (c.fact 11)
  g_are_pairs := He.glo_ok X G (c.fact 12)
  g_sorted_ties := He.glo_ok X G (c.fact 13)
  g_near_places := He.glo_ok X G (c.fact 14)
  g_read_ties := He.glo_ok X G (c.fact 15)
  g_need_among := He.glo_ok X G (c.fact 16)
  g__law_ark := He.glo_ok X G (c.fact 17)
  g__law_haul := He.glo_ok X G (c.fact 18)
  g__law_fish := He.glo_ok X G (c.fact 19)
  g__law_number := He.glo_ok X G (c.fact 20)
  g__law_bound := He.glo_ok X G (c.fact 21)
  g__law_poly := He.glo_ok X G (c.fact 22)
  g__law_web := He.glo_ok X G (c.fact 23)
  g__law_is := He.glo_ok X G (c.fact 24)
  g__law_bound_stop := He.glo_ok X G (c.fact 25)
  g__law_poly_stop := He.glo_ok X G (c.fact 26)
  g__law_web_stop := He.glo_ok X G (c.fact 27)
  g__law_bent := He.glo_ok X G (c.fact 28)
  g__law_heard := He.glo_ok X G (c.fact 29)
  g__law_bound_right := He.glo_ok X G (c.fact 30)
  g__law_poly_right := He.glo_ok X G (c.fact 31)
  g__law_web_right := He.glo_ok X G (c.fact 32)
  g_law := He.glo_ok X G (c.fact 33)
  g_SignsError := He.glo_ok X G (c.fact 34)
  g_BadNumber := He.glo_ok X G (c.fact 35)
  g_BadPoly := He.glo_ok X G (c.fact 36)
  g_BadWeb := He.glo_ok X G (c.fact 37)
  g_Misfit := He.glo_ok X G (c.fact 38)
  g_Missing := He.glo_ok X G (c.fact 39)
  g_NoPlace := He.glo_ok X G (c.fact 40)
  g_Twice := He.glo_ok X G (c.fact 41)
  g_BadText := He.glo_ok X G (c.fact 42)
  g_Web := He.glo_ok X G (c.fact 43)
  g_Bound := He.glo_ok X G (c.fact 44)
  g_Poly := He.glo_ok X G (c.fact 45)
  k__wall := He.keep_ok (c.fact 46)
  k_is_integer := He.keep_ok (c.fact 47)
  k_is_within := He.keep_ok (c.fact 48)
  k_is_row := He.keep_ok (c.fact 49)
  k_are_integers := He.keep_ok (c.fact 50)
  k_need_integer := He.keep_ok (c.fact 51)
  k_items_of := He.keep_ok (c.fact 52)
  k_is_integer_text := He.keep_ok (c.fact 53)
  k_integer_at := He.keep_ok (c.fact 54)
  k_need_item := He.keep_ok (c.fact 55)
  k_need_end := He.keep_ok (c.fact 56)
  k_integer_text := He.keep_ok (c.fact 57)
  k_are_pairs := He.keep_ok (c.fact 58)
  k_sorted_ties := He.keep_ok (c.fact 59)
  k_near_places := He.keep_ok (c.fact 60)
  k_read_ties := He.keep_ok (c.fact 61)
  k_need_among := He.keep_ok (c.fact 62)
  k__law_ark := He.keep_ok (c.fact 63)
  k__law_haul := He.keep_ok (c.fact 64)
  k__law_fish := He.keep_ok (c.fact 65)
  k__law_number := He.keep_ok (c.fact 66)
  k__law_bound := He.keep_ok (c.fact 67)
  k__law_poly := He.keep_ok (c.fact 68)
  k__law_web := He.keep_ok (c.fact 69)
  k__law_is := He.keep_ok (c.fact 70)
  k__law_bound_stop := He.keep_ok (c.fact 71)
  k__law_poly_stop := He.keep_ok (c.fact 72)
  k__law_web_stop := He.keep_ok (c.fact 73)
  k__law_bent := He.keep_ok (c.fact 74)
  k__law_heard := He.keep_ok (c.fact 75)
  k__law_bound_right := He.keep_ok (c.fact 76)
  k__law_poly_right := He.keep_ok (c.fact 77)
  k__law_web_right := He.keep_ok (c.fact 78)
  k_law := He.keep_ok (c.fact 79)
  b_isinstance := He.free_ok X G (c.fact 80)
  b_int := He.free_ok X G (c.fact 81)
  b_bool := He.free_ok X G (c.fact 82)
  b_str := He.free_ok X G (c.fact 83)
  b_list := He.free_ok X G (c.fact 84)
  b_tuple := He.free_ok X G (c.fact 85)
  b_len := He.free_ok X G (c.fact 86)
  b_abs := He.free_ok X G (c.fact 87)
  b_range := He.free_ok X G (c.fact 88)
  b_all := He.free_ok X G (c.fact 89)
  b_max := He.free_ok X G (c.fact 90)
  b_min := He.free_ok X G (c.fact 91)
  b_sorted := He.free_ok X G (c.fact 92)
  b_repr := He.free_ok X G (c.fact 93)
  c_DIGITS := He.str_ok X G (c.fact 94)
  c_MOST_DIGITS := He.int_ok X G (c.fact 95)
  c_MOST_PLACES := He.int_ok X G (c.fact 96)
  c_MOST_NUMBERS := He.int_ok X G (c.fact 97)
  cl_Bound := He.cls_ok (c.fact 98)
  na_Bound_whole := He.noat_ok (c.fact 99)
  na_Bound_part := He.noat_ok (c.fact 100)
  na_Bound_under := He.noat_ok (c.fact 101)
  mk_Bound := He.mkr_ok (c.fact 102)
  me_Bound_eq := He.meth_ok (c.fact 103)
  me_Bound_str := He.meth_ok (c.fact 104)
  cc_Bound := clsB_ok (c.chk 0)
  ne_Bound := He.eqO_ok (c.chk 1)
  sm_Bound_read := smB_ok (c.chk 2)
  cl_Poly := He.cls_ok (c.fact 105)
  na_Poly_numbers := He.noat_ok (c.fact 106)
  na_Poly_degree := He.noat_ok (c.fact 107)
  mk_Poly := He.mkr_ok (c.fact 108)
  me_Poly_eq := He.meth_ok (c.fact 109)
  me_Poly_str := He.meth_ok (c.fact 110)
  cc_Poly := clsB_ok (c.chk 3)
  ne_Poly := He.eqO_ok (c.chk 4)
  sm_Poly_read := smB_ok (c.chk 5)
  cl_Web := He.cls_ok (c.fact 111)
  na_Web_places := He.noat_ok (c.fact 112)
  na_Web_ties := He.noat_ok (c.fact 113)
  na_Web__near := He.noat_ok (c.fact 114)
  na_Web_most := He.noat_ok (c.fact 115)
  mk_Web := He.mkr_ok (c.fact 116)
  me_Web_eq := He.meth_ok (c.fact 117)
  me_Web_str := He.meth_ok (c.fact 118)
  cc_Web := clsB_ok (c.chk 6)
  ne_Web := He.eqO_ok (c.chk 7)
  sm_Web_read := smB_ok (c.chk 8)
  top := c.chk 9
  e_BadText := errB_ok (c.chk 10)
  ot_Bound_Poly := otB_ok (c.chk 11)
  ot_Bound_Web := otB_ok (c.chk 12)
  ot_Poly_Bound := otB_ok (c.chk 13)
  ot_Poly_Web := otB_ok (c.chk 14)
  ot_Web_Bound := otB_ok (c.chk 15)
  ot_Web_Poly := otB_ok (c.chk 16)
  x_BadText := excB_ok (c.chk 9) (errB_ok (c.chk 10)).xf (c.chk 17)
  ki_BadText_BadText := kiB_ok (c.chk 18)
  tn__law_bound_right__law_poly_right := tnB_ok (c.chk 19)
  tn__law_bound_right__law_web_right := tnB_ok (c.chk 20)
  tn__law_bound_right_law := tnB_ok (c.chk 21)
  tn__law_poly_right__law_web_right := tnB_ok (c.chk 22)
  tn__law_poly_right_law := tnB_ok (c.chk 23)
  tn__law_web_right_law := tnB_ok (c.chk 24)
  d__wall := c.def_ 0
  d_BadNumber_init := c.def_ 1
  d_BadPoly_init := c.def_ 2
  d_BadWeb_init := c.def_ 3
  d_Misfit_init := c.def_ 4
  d_Missing_init := c.def_ 5
  d_Twice_init := c.def_ 6
  d_BadText_init := c.def_ 7
  d_is_integer := c.def_ 8
  d_is_within := c.def_ 9
  d_is_row := c.def_ 10
  d_are_integers := c.def_ 11
  d_need_integer := c.def_ 12
  d_items_of := c.def_ 13
  d_is_integer_text := c.def_ 14
  d_integer_at := c.def_ 15
  d_need_item := c.def_ 16
  d_need_end := c.def_ 17
  d_integer_text := c.def_ 18
  d_Web_init := c.def_ 19
  d_Web_eq := c.def_ 20
  d_Web_str := c.def_ 21
  d_Web_neighbours := c.def_ 22
  d_Web_read := c.def_ 23
  d_are_pairs := c.def_ 24
  d_sorted_ties := c.def_ 25
  d_near_places := c.def_ 26
  d_read_ties := c.def_ 27
  d_need_among := c.def_ 28
  d_Bound_init := c.def_ 29
  d_Bound_eq := c.def_ 30
  d_Bound_str := c.def_ 31
  d_Bound_read := c.def_ 32
  d_Poly_init := c.def_ 33
  d_Poly_eq := c.def_ 34
  d_Poly_str := c.def_ 35
  d_Poly_worth := c.def_ 36
  d_Poly_read := c.def_ 37
  d__law_ark := c.def_ 38
  d__law_haul := c.def_ 39
  d__law_fish := c.def_ 40
  d__law_number := c.def_ 41
  d__law_bound := c.def_ 42
  d__law_poly := c.def_ 43
  d__law_web := c.def_ 44
  d__law_is := c.def_ 45
  d__law_bound_stop := c.def_ 46
  d__law_poly_stop := c.def_ 47
  d__law_web_stop := c.def_ 48
  d__law_bent := c.def_ 49
  d__law_heard := c.def_ 50
  d__law_bound_right := c.def_ 51
  d__law_poly_right := c.def_ 52
  d__law_web_right := c.def_ 53
  d_law := c.def_ 54
abbrev lamT (K : PySem.W.Frag) : List (Addr × Str) := [((He.cT K ("_law_bound_right", none)).2, ((("_law_bound_right" : Str) ++ ".<locals>.") ++ "<lambda>")), ((He.cT K ("_law_poly_right", none)).2, ((("_law_poly_right" : Str) ++ ".<locals>.") ++ "<lambda>")), ((He.cT K ("_law_web_right", none)).2, ((("_law_web_right" : Str) ++ ".<locals>.") ++ "<lambda>")), ((He.cT K ("law", none)).2, ((("law" : Str) ++ ".<locals>.") ++ "<lambda>"))]
theorem lam_mem__law_bound_right (K : PySem.W.Frag) : ((He.cT K ("_law_bound_right", none)).2, ((("_law_bound_right" : Str) ++ ".<locals>.") ++ "<lambda>")) ∈ lamT K := List.mem_cons_self
theorem lam_uq__law_bound_right {K : PySem.W.Frag} {mg : Str → Option Value} (T : Txt K mg) : ∀ p ∈ lamT K, p.1 = (He.cT K ("_law_bound_right", none)).2 → p.2 = ((("_law_bound_right" : Str) ++ ".<locals>.") ++ "<lambda>") := by
  intro p hp e
  simp only [lamT, List.mem_cons, List.mem_nil_iff, or_false] at hp
  rcases hp with rfl | rfl | rfl | rfl
  · rfl
  · exact absurd e.symm T.tn__law_bound_right__law_poly_right
  · exact absurd e.symm T.tn__law_bound_right__law_web_right
  · exact absurd e.symm T.tn__law_bound_right_law
theorem lam_mem__law_poly_right (K : PySem.W.Frag) : ((He.cT K ("_law_poly_right", none)).2, ((("_law_poly_right" : Str) ++ ".<locals>.") ++ "<lambda>")) ∈ lamT K := List.mem_cons_of_mem _ (List.mem_cons_self)
theorem lam_uq__law_poly_right {K : PySem.W.Frag} {mg : Str → Option Value} (T : Txt K mg) : ∀ p ∈ lamT K, p.1 = (He.cT K ("_law_poly_right", none)).2 → p.2 = ((("_law_poly_right" : Str) ++ ".<locals>.") ++ "<lambda>") := by
  intro p hp e
  simp only [lamT, List.mem_cons, List.mem_nil_iff, or_false] at hp
  rcases hp with rfl | rfl | rfl | rfl
  · exact absurd e T.tn__law_bound_right__law_poly_right
  · rfl
  · exact absurd e.symm T.tn__law_poly_right__law_web_right
  · exact absurd e.symm T.tn__law_poly_right_law
theorem lam_mem__law_web_right (K : PySem.W.Frag) : ((He.cT K ("_law_web_right", none)).2, ((("_law_web_right" : Str) ++ ".<locals>.") ++ "<lambda>")) ∈ lamT K := List.mem_cons_of_mem _ (List.mem_cons_of_mem _ (List.mem_cons_self))
theorem lam_uq__law_web_right {K : PySem.W.Frag} {mg : Str → Option Value} (T : Txt K mg) : ∀ p ∈ lamT K, p.1 = (He.cT K ("_law_web_right", none)).2 → p.2 = ((("_law_web_right" : Str) ++ ".<locals>.") ++ "<lambda>") := by
  intro p hp e
  simp only [lamT, List.mem_cons, List.mem_nil_iff, or_false] at hp
  rcases hp with rfl | rfl | rfl | rfl
  · exact absurd e T.tn__law_bound_right__law_web_right
  · exact absurd e T.tn__law_poly_right__law_web_right
  · rfl
  · exact absurd e.symm T.tn__law_web_right_law
theorem lam_mem_law (K : PySem.W.Frag) : ((He.cT K ("law", none)).2, ((("law" : Str) ++ ".<locals>.") ++ "<lambda>")) ∈ lamT K := List.mem_cons_of_mem _ (List.mem_cons_of_mem _ (List.mem_cons_of_mem _ (List.mem_cons_self)))
theorem lam_uq_law {K : PySem.W.Frag} {mg : Str → Option Value} (T : Txt K mg) : ∀ p ∈ lamT K, p.1 = (He.cT K ("law", none)).2 → p.2 = ((("law" : Str) ++ ".<locals>.") ++ "<lambda>") := by
  intro p hp e
  simp only [lamT, List.mem_cons, List.mem_nil_iff, or_false] at hp
  rcases hp with rfl | rfl | rfl | rfl
  · exact absurd e T.tn__law_bound_right_law
  · exact absurd e T.tn__law_poly_right_law
  · exact absurd e T.tn__law_web_right_law
  · rfl
end K02
set_option maxHeartbeats 0
namespace K02
open PySem PySem.W PySem.Spec PyProof.Rows L2 GS LamX
abbrev R : PySem.W.OpenRow := PySem.W.OpenLaw.row PySem.Challenge.rw_goodsigns_k02_texts_bent_anywhere
abbrev tfs : List He.Defn := [("_law_bound_right", none), ("_law_poly_right", none), ("_law_web_right", none), ("law", none)]
abbrev hk : PySem.W.Hook := hookL 5 fa_all ex_all fn_all tfs
def ob (s : PySem.W.SharedT) : He.AlD × Bool := obsLG 5 fa_all ex_all fn_all tfs (HandSHeadRun.getT s)
theorem ob_eq (s : PySem.W.SharedT) : ob s = hk.obs s.abs := obsLG_eq (HandSHeadRun.getT_eq s)
def loose : List PySem.Str := (["_wall", "SignsError", "BadNumber", "BadPoly", "BadWeb", "Misfit", "Missing", "NoPlace", "Twice", "BadText"] : List PySem.Str) ++ (["DIGITS", "is_integer", "is_within", "is_row", "are_integers", "need_integer", "MOST_DIGITS", "items_of", "is_integer_text", "integer_at"] : List PySem.Str) ++ (["need_item", "need_end", "integer_text", "MOST_PLACES", "Web", "are_pairs", "sorted_ties", "near_places", "read_ties", "need_among"] : List PySem.Str) ++ (["Bound", "MOST_NUMBERS", "Poly", "_law_ark", "_law_haul", "_law_fish", "_law_number", "_law_bound", "_law_poly", "_law_web"] : List PySem.Str) ++ (["_law_is", "_law_bound_stop", "_law_poly_stop", "_law_web_stop", "_law_bent", "_law_heard", "_law_bound_right", "_law_poly_right", "_law_web_right"] : List PySem.Str)
theorem run (w : World) : HandSHeadRun.RunEq R (PySem.W.view R.prog [56]) hk ob 12000 loose w := by
  intro os
  kernel_rfl
end K02
namespace K02
open PySem PySem.Spec PyProof.Rows L2 GS TL LamX
local macro_rules | `(tactic| walk_at "rd") => `(tactic| (repeat (first
  | with_reducible refine r_next ?_
  | with_reducible refine r_seq ?_
  | with_reducible refine r_ret ?_
  | with_reducible refine r_ifS ?_
  | with_reducible refine r_asg ?_
  | with_reducible refine r_drop ?_
  | with_reducible refine r_op ?_
  | with_reducible refine r_un ?_
  | with_reducible refine r_cbInt ?_
  | with_reducible refine r_cbAbs ?_
  | with_reducible refine r_cbLen ?_
  | with_reducible refine r_cbList ?_
  | with_reducible refine r_cbTup ?_
  | with_reducible refine r_iEnT ?_
  | with_reducible refine r_iEnL ?_
  | with_reducible refine r_zipA ?_
  | with_reducible refine r_zipX ?_
  | with_reducible refine r_augS ?_
  | with_reducible refine r_cb ?_
  | with_reducible refine r_call ?_
  | with_reducible refine r_make ?_
  | with_reducible refine r_callN0 ?_
  | with_reducible refine r_makeK0 ?_
  | with_reducible refine r_makeS ?_
  | with_reducible refine r_callS ?_
  | with_reducible refine r_cons ?_
  | with_reducible refine r_nil ?_
  | with_reducible refine r_test ?_
  | with_reducible refine r_B ?_
  | with_reducible refine r_and ?_
  | with_reducible refine r_or ?_
  | with_reducible refine r_not ?_
  | with_reducible refine r_andV ?_
  | with_reducible refine r_orV ?_
  | with_reducible refine r_notV ?_
  | with_reducible refine r_if ?_
  | with_reducible refine r_tup ?_
  | with_reducible refine r_lst ?_
  | with_reducible refine r_c ?_
  | with_reducible refine r_lc ?_
  | with_reducible refine r_chain ?_
  | with_reducible refine r_iT ?_
  | with_reducible refine r_iL ?_
  | with_reducible refine r_iR1 ?_
  | with_reducible refine r_iR2 ?_
  | with_reducible refine r_iR3 ?_
  | with_reducible refine r_asgG ?_
  | with_reducible refine r_gSub ?_
  | with_reducible refine r_for ?_
  | with_reducible refine r_smeth ?_
  | with_reducible refine r_par ?_
  | with_reducible refine r_parK ?_
  | with_reducible refine r_gCons ?_
  | with_reducible refine r_gNil ?_
  | with_reducible refine r_gName ?_
  | with_reducible refine r_intI ?_
  | with_reducible refine r_intB ?_
  | with_reducible refine r_absI ?_
  | with_reducible refine r_k ?_
  | with_reducible refine r_kV ?_
  | ((with_reducible show tVar _ _ _ _); refine r_var3 ?_ (by rfl))
  | with_reducible refine r_I0 ?_
  | with_reducible refine r_U ?_
  | with_reducible refine r_eqI ?_
  | with_reducible refine r_neI ?_
  | dsimp only)))
local macro_rules | `(tactic| walk_at "rx") => `(tactic| (repeat (first
  | with_reducible refine r_next ?_
  | with_reducible refine r_ret ?_
  | with_reducible refine r_ifS ?_
  | with_reducible refine r_asg ?_
  | with_reducible refine r_drop ?_
  | with_reducible refine r_op ?_
  | with_reducible refine r_un ?_
  | with_reducible refine r_cbInt ?_
  | with_reducible refine r_cbAbs ?_
  | with_reducible refine r_cbLen ?_
  | with_reducible refine r_cbList ?_
  | with_reducible refine r_cbTup ?_
  | with_reducible refine r_iEnT ?_
  | with_reducible refine r_iEnL ?_
  | with_reducible refine r_zipA ?_
  | with_reducible refine r_zipX ?_
  | with_reducible refine r_augS ?_
  | with_reducible refine r_cb ?_
  | with_reducible refine r_call ?_
  | with_reducible refine r_make ?_
  | with_reducible refine r_callN0 ?_
  | with_reducible refine r_makeK0 ?_
  | with_reducible refine r_makeS ?_
  | with_reducible refine r_callS ?_
  | with_reducible refine r_cons ?_
  | with_reducible refine r_nil ?_
  | with_reducible refine r_test ?_
  | with_reducible refine r_B ?_
  | with_reducible refine r_and ?_
  | with_reducible refine r_or ?_
  | with_reducible refine r_not ?_
  | with_reducible refine r_andV ?_
  | with_reducible refine r_orV ?_
  | with_reducible refine r_notV ?_
  | with_reducible refine r_if ?_
  | with_reducible refine r_tup ?_
  | with_reducible refine r_lst ?_
  | with_reducible refine r_c ?_
  | with_reducible refine r_lc ?_
  | with_reducible refine r_chain ?_
  | with_reducible refine r_iT ?_
  | with_reducible refine r_iL ?_
  | with_reducible refine r_iR1 ?_
  | with_reducible refine r_iR2 ?_
  | with_reducible refine r_iR3 ?_
  | with_reducible refine r_asgG ?_
  | with_reducible refine r_gSub ?_
  | with_reducible refine r_for ?_
  | with_reducible refine r_smeth ?_
  | with_reducible refine r_par ?_
  | with_reducible refine r_parK ?_
  | with_reducible refine r_gCons ?_
  | with_reducible refine r_gNil ?_
  | with_reducible refine r_gName ?_
  | with_reducible refine r_intI ?_
  | with_reducible refine r_intB ?_
  | with_reducible refine r_absI ?_
  | with_reducible refine r_k ?_
  | with_reducible refine r_kV ?_
  | ((with_reducible show tVar _ _ _ _); refine r_var3 ?_ (by rfl))
  | with_reducible refine r_I0 ?_
  | with_reducible refine r_U ?_
  | with_reducible refine r_eqI ?_
  | with_reducible refine r_neI ?_
  | dsimp only)))
/-! ### values -/
def bf (w p u : Int) : List (Str × V) := [("whole", .int w), ("part", .int p), ("under", .int u)]
def Bd (K : PySem.W.Frag) (H : Hp) (a : Addr) (w p u : Int) : Prop := 0 ≤ u ∧ ∃ dx, H a = some (.ins (He.ga K "Bound") dx (bf w p u))
theorem Bd.ex {K : PySem.W.Frag} {H H' : Hp} {a : Addr} {w p u : Int} (h : Bd K H a w p u) (e : Ex H H') : Bd K H' a w p u := let ⟨hu, dx, h⟩ := h; ⟨hu, dx, e _ _ h⟩
/-- a poly: its numbers stand in a tuple -/
def pf (t : Addr) (n : Int) : List (Str × V) := [("numbers", .ref t), ("degree", .int n)]
def Pl (K : PySem.W.Frag) (H : Hp) (a : Addr) (ns : List Int) : Prop := 1 ≤ ns.length ∧ ns.length ≤ 64 ∧ 0 < ns.headD 0 ∧ ∃ dx t, H a = some (.ins (He.ga K "Poly") dx (pf t ((ns.length : Int) - 1))) ∧ H t = some (.tup (ns.map V.int))
theorem Pl.ex {K : PySem.W.Frag} {H H' : Hp} {a : Addr} {ns : List Int} (h : Pl K H a ns) (e : Ex H H') : Pl K H' a ns := let ⟨h1, h2, h3, dx, t, h4, h5⟩ := h; ⟨h1, h2, h3, dx, t, e _ _ h4, e _ _ h5⟩
/-- a web: its ties stand in tuples in a tuple -/
def wf (n : Int) (t u m : V) : List (Str × V) := [("places", .int n), ("ties", t), ("_near", u), ("most", m)]
/-- pairs that stand in tuples -/
def TP (H : Hp) (ts : List Addr) (ps : List (Int × Int)) : Prop := ts.length = ps.length ∧ ∀ (j : Nat) (t : Addr) (p : Int × Int), ts[j]? = some t → ps[j]? = some p → H t = some (.tup [.int p.1, .int p.2])
theorem TP.ex {H H' : Hp} {ts : List Addr} {ps : List (Int × Int)} (h : TP H ts ps) (e : Ex H H') : TP H' ts ps := ⟨h.1, fun j t p h1 h2 => e _ _ (h.2 j t p h1 h2)⟩
def Wb (K : PySem.W.Frag) (H : Hp) (a : Addr) (n : Int) (ps : List (Int × Int)) : Prop := ∃ dx t ts u m, H a = some (.ins (He.ga K "Web") dx (wf n (.ref t) u m)) ∧ H t = some (.tup (ts.map V.ref)) ∧ TP H ts ps
theorem Wb.ex {K : PySem.W.Frag} {H H' : Hp} {a : Addr} {n : Int} {ps : List (Int × Int)} (h : Wb K H a n ps) (e : Ex H H') : Wb K H' a n ps := let ⟨dx, t, ts, u, m, h1, h2, h3⟩ := h; ⟨dx, t, ts, u, m, e _ _ h1, e _ _ h2, h3.ex e⟩
/-- an instance of a class of the program's -/
abbrev owns : List Str := ["Bound", "Poly", "Web"]
def Own (K : PySem.W.Frag) (H : Hp) (v : V) : Prop := ∃ a C dx fs, v = .ref a ∧ C ∈ owns ∧ H a = some (.ins (He.ga K C) dx fs)
theorem Bd.own {K : PySem.W.Frag} {H : Hp} {a : Addr} {w p u : Int} (h : Bd K H a w p u) : Own K H (.ref a) := let ⟨_, dx, h⟩ := h; ⟨a, "Bound", dx, _, rfl, by decide, h⟩
theorem Pl.own {K : PySem.W.Frag} {H : Hp} {a : Addr} {ns : List Int} (h : Pl K H a ns) : Own K H (.ref a) := let ⟨_, _, _, dx, _, h, _⟩ := h; ⟨a, "Poly", dx, _, rfl, by decide, h⟩
theorem Wb.own {K : PySem.W.Frag} {H : Hp} {a : Addr} {n : Int} {ps : List (Int × Int)} (h : Wb K H a n ps) : Own K H (.ref a) := let ⟨dx, _, _, _, _, h, _⟩ := h; ⟨a, "Web", dx, _, rfl, by decide, h⟩
/-- a value whose kind is known -/
def Kn (K : PySem.W.Frag) (H : Hp) (v : V) : Prop := (∃ T ∈ tys, TyOf K H v (.type T)) ∨ Own K H v
theorem TyOf.ex' {K : PySem.W.Frag} {H H' : Hp} {v : V} {T : String} (b : TyOf K H v (.type T)) (e : ∀ a, v = .ref a → ∀ o, H a = some o → H' a = some o) : TyOf K H' v (.type T) := by
  cases b with
  | non => exact .non
  | bl b => exact .bl b
  | int i => exact .int i
  | str i => exact .str i
  | flt i => exact .flt i
  | lst q => exact .lst (e _ rfl _ q)
  | frz q => exact .frz (e _ rfl _ q)
  | tup q => exact .tup (e _ rfl _ q)
  | dK q => exact .dK (e _ rfl _ q)
  | dT q => exact .dT (e _ rfl _ q)
theorem TyOf.there {K : PySem.W.Frag} {H : Hp} {a : Addr} {T : String} (b : TyOf K H (.ref a) (.type T)) : ∃ o, H a = some o ∧ ∀ C dx fs, o ≠ .ins C dx fs := by
  cases b with
  | lst q => exact ⟨_, q, fun _ _ _ z => by cases z⟩
  | frz q => exact ⟨_, q, fun _ _ _ z => by cases z⟩
  | tup q => exact ⟨_, q, fun _ _ _ z => by cases z⟩
  | dK q => exact ⟨_, q, fun _ _ _ z => by cases z⟩
  | dT q => exact ⟨_, q, fun _ _ _ z => by cases z⟩
theorem Kn.ex {K : PySem.W.Frag} {H H' : Hp} {v : V} (h : Kn K H v) (e : Ex H H') : Kn K H' v := by
  rcases h with ⟨T, hT, h⟩ | ⟨a, C, dx, fs, h, hC, b⟩
  · exact .inl ⟨T, hT, TyOf.ex' h fun a _ o q => e a o q⟩
  · exact .inr ⟨a, C, dx, fs, h, hC, e _ _ b⟩
theorem kn_int {K : PySem.W.Frag} {H : Hp} (i : Int) : Kn K H (.int i) := .inl ⟨"int", by decide, .int i⟩
def isI : V → Bool
  | .int _ => true
  | _ => false
/-- an own class, for isinstance -/
theorem own_facts {K : PySem.W.Frag} {mg : Str → Option Value} (T : Txt K mg) {C : Str} (h : C ∈ owns) : Cls K (He.ga K C) ∧ ClsC K C tys := by
  simp only [owns, List.mem_cons, List.mem_nil_iff, or_false] at h
  rcases h with rfl | rfl | rfl
  · exact ⟨T.cl_Bound, T.cc_Bound⟩
  · exact ⟨T.cl_Poly, T.cc_Poly⟩
  · exact ⟨T.cl_Web, T.cc_Web⟩
theorem ty_own {K : PySem.W.Frag} {mg : Str → Option Value} {H : Hp} {a dx : Addr} {C : Str} {fs : List (Str × V)} (T : Txt K mg) (h : C ∈ owns) (e : H a = some (.ins (He.ga K C) dx fs)) : TyX K H (.ref a) (.ref (He.ga K C)) := by
  obtain ⟨h1, h2⟩ := He.ba T.top
  obtain ⟨c1, c2⟩ := own_facts T h
  exact .base (.ins e c1 c2.ha (He.eqO_ok h1) (of_decide_eq_true h2) c2.hm)
def kitR (T1 T0 : String) : Bool := decide (T1 = T0) || (decide (T1 = "bool") && decide (T0 = "int"))
theorem kit_all : ∀ T1 ∈ tys, ∀ T0 ∈ tys, kitB T1 T0 = some (kitR T1 T0) := by decide +kernel
/-- isinstance(v, T0), T0 built-in -/
theorem kn_kit {K : PySem.W.Frag} {mg : Str → Option Value} {H : Hp} {v : V} (T : Txt K mg) (h : Kn K H v) {T0 : String} (h0 : T0 ∈ tys) : ∃ t b, TyX K H v t ∧ PySem.W.kitOne K t (.type T0) = some b ∧ ((∃ T1 ∈ tys, t = .type T1 ∧ kitR T1 T0 = b) ∨ (b = false ∧ (∃ C, t = .ref (He.ga K C)) ∧ ∃ a, v = .ref a)) := by
  rcases h with ⟨T1, hT, h⟩ | ⟨a, C, dx, fs, rfl, hC, b⟩
  · exact ⟨_, _, .base h, kit_ty (kit_all T1 hT T0 h0), .inl ⟨T1, hT, rfl, rfl⟩⟩
  · exact ⟨_, false, ty_own T hC b, ((own_facts T hC).2.ty T0 h0).2.1, .inr ⟨rfl, ⟨C, rfl⟩, a, rfl⟩⟩
/-- the type of an int is int; what has the type int is one -/
theorem ty_int {K : PySem.W.Frag} {H : Hp} {v : V} {T : String} (h : TyX K H v (.type T)) : (T = "int") ↔ isI v = true := by
  cases h with
  | base b => cases b <;> simp [isI]
  | _ => simp [isI]
def isBl : V → Bool
  | .bl _ => true
  | _ => false
theorem ty_bool {K : PySem.W.Frag} {H : Hp} {v : V} {T : String} (h : TyX K H v (.type T)) : (T = "bool") ↔ isBl v = true := by
  cases h with
  | base b => cases b <;> simp [isBl]
  | _ => simp [isBl]
/-! ### errors -/
def spErrB (K : PySem.W.Frag) : Sp := sp3 fun a v w H Q _ => ∃ e, a = .ref e ∧ H e = some (exo e (He.ga K "BadText") none) ∧ ∀ dx, H dx = none → dx ≠ e → Q .non (upd (upd (upd H dx (exd dx [("line", v)])) e (exo e (He.ga K "BadText") (some dx))) dx (exd dx [("item", w), ("line", v)]))
/-- a text that stops at an item -/
def Stop (K : PySem.W.Frag) (n : Nat) (H : Hp) (E : XK) : Prop := ∀ d H', Ex H H' → H' d = some (.xd [("item", .int n), ("line", .int 0)]) → E (.ref (He.ga K "BadText")) (some d) H'
theorem Stop.ex {K : PySem.W.Frag} {n : Nat} {H H' : Hp} {E : XK} (h : Stop K n H E) (e : Ex H H') : Stop K n H' E := fun d H'' e' hd => h d H'' (e.trans e') hd
theorem r_errB {K : PySem.W.Frag} {n : Nat} {v : V} {H : Hp} {E : XK} {vs : List V} (hv : vs = [.int 0, v]) (hn : v = .int n) (q : Stop K n H E) : vs.length ≤ 1000 ∧ ∀ a, H a = none → spErrB K (.ref a :: (vs ++ [])) (upd H a (exo a (He.ga K "BadText") none))
    (fun v H2 => v = .non ∧ ∃ (d : Addr) (fs : List (Str × V)), H2 a = some (exo a (He.ga K "BadText") (some d)) ∧ H2 d = some (exd d fs) ∧ H d = none ∧ E (.ref (He.ga K "BadText")) (some d) (upd (del H2 a) d (.xd fs))) (fun _ _ _ => False) := by
  subst hv hn
  refine ⟨by simp, fun a ha => ⟨a, rfl, upd_same, fun dx hd hne => ⟨rfl, dx, [("item", .int n), ("line", .int 0)], ?_, upd_same, ?_, ?_⟩⟩⟩
  · rw [upd_ne hne.symm, upd_same]
  · rw [upd_ne hne] at hd
    exact hd
  · rw [upd_ne hne] at hd
    refine q dx _ (fun b o hb => ?_) upd_same
    have n1 : b ≠ dx := ne_of_none hb hd
    have n2 : b ≠ a := ne_of_none hb ha
    rw [upd_ne n1, del_ne n2, upd_ne n1, upd_ne n2, upd_ne n1, upd_ne n2]
    exact hb
theorem ok_BadText_init {P : Program} {w : World} {K : PySem.W.Frag} {mg : Str → Option Value} {base : Heap} (T : Txt K mg) : ∃ fd, FnOk P w K mg base (L2.CX P w) 1 (He.ma K (He.ga K "BadText") "__init__") fd ["self", "line", "item"] (spErrB K) ∧ Binds K fd ["self", "line", "item"] [] := by
  obtain ⟨fd, F⟩ := T.d_BadText_init
  refine ⟨fd, F.ok sc_BadText_init sp3_len (fun cdv A outer s H vs Q E hr h => ?_), F.bindsN fun _ _ _ _ _ _ us hl => match us, hl with | [_, _, _], _ => rfl⟩
  obtain ⟨a, v, w, rfl, e, rfl, he, k⟩ := sp3_is h
  refine ⟨_, (pss_cons (ps_ost (pv 0) (pv 1))
      (pss_one (ps_ost (pv 0) (pv 2)))), ?_⟩
  refine ⟨_, rfl, _, rfl, e, _, rfl, T.e_BadText.o, T.e_BadText.no_ _ (by simp), .inl ⟨he, fun dx h1 h2 => ?_⟩⟩
  exact ⟨_, rfl, _, rfl, e, _, rfl, T.e_BadText.o, T.e_BadText.no_ _ (by simp), .inr ⟨dx, _, upd_same, by rw [upd_ne h2, upd_same], by simp, k dx h1 h2⟩⟩
/-! ### checks -/
def spIsInt (K : PySem.W.Frag) : Sp := sp1 fun v H Q _ => Kn K H v ∧ Q (.bl (isI v)) H
theorem ok_is_integer {P : Program} {w : World} {K : PySem.W.Frag} {mg : Str → Option Value} {base : Heap} (T : Txt K mg) : ∃ fd, FnOk P w K mg base (L2.CX P w) 1 (He.ga K "is_integer") fd ["value"] (spIsInt K) ∧ Binds K fd ["value"] [] := by
  obtain ⟨fd, F⟩ := T.d_is_integer
  refine ⟨fd, F.ok sc_is_integer sp1_len (fun cdv A outer s H vs Q E hr h => ?_), F.bindsN fun _ _ _ _ _ _ us hl => match us, hl with | [_], _ => rfl⟩
  obtain ⟨v, rfl, kv, q⟩ := sp1_is h
  refine ⟨_, (pss_one (ps_ret (pe_and (pe_callB (cr_isi rfl) (by rfl) T.b_isinstance (by decide +kernel) (pa_cons (pv 0) (pa_cons (pe_bltn (v := .ty "int") (by rfl) T.b_int (by decide +kernel) rfl) pa_nil))) (pe_one (pe_not (pe_callB (cr_isi rfl) (by rfl) T.b_isinstance (by decide +kernel) (pa_cons (pv 0) (pa_cons (pe_bltn (v := .ty "bool") (by rfl) T.b_bool (by decide +kernel) rfl) pa_nil)))))))), ?_⟩
  obtain ⟨t, b, ht, hb, hc⟩ := kn_kit T kv (T0 := "int") (by decide)
  obtain ⟨t', b', ht', hb', hc'⟩ := kn_kit T kv (T0 := "bool") (by decide)
  have e : (b && !b') = isI v := by
    rcases hc with ⟨T1, m1, rfl, rfl⟩ | ⟨rfl, ⟨C, rfl⟩, a, rfl⟩
    · have c1 := ty_int ht
      rcases hc' with ⟨T2, m2, rfl, rfl⟩ | ⟨rfl, ⟨C, rfl⟩, a, rfl⟩
      · have c2 := ty_int ht'
        cases hv : isI v with
        | true =>
          obtain rfl := c1.mpr hv
          obtain rfl := c2.mpr hv
          decide
        | false =>
          have n1 : T1 ≠ "int" := fun z => by have := c1.mp z; rw [hv] at this; cases this
          have n2 : T1 = "bool" → T2 = "bool" := fun z => (ty_bool ht').mpr ((ty_bool ht).mp z)
          by_cases z : T1 = "bool"
          · obtain rfl := n2 z
            subst z
            decide
          · simp [kitR, n1, z]
      · cases hv : isI (V.ref a) with
        | true => cases hv
        | false =>
          have n1 : T1 ≠ "int" := fun z => by have := c1.mp z; rw [hv] at this; cases this
          have n2 : T1 ≠ "bool" := fun z => by have := (ty_bool ht).mp z; cases this
          simp [kitR, n1, n2]
    · simp [isI]
  refine ⟨_, rfl, v, .ty "int", t, _, b, rfl, .ty "int", ht, hb, b, rfl, ?_⟩
  cases b with
  | false =>
    rw [if_neg Bool.false_ne_true]
    rw [← e] at q
    exact q
  | true =>
    rw [if_pos rfl]
    rw [← e] at q
    exact ⟨_, rfl, v, .ty "bool", t', _, b', rfl, .ty "bool", ht', hb', b', rfl, q⟩
/-- least, most: none or a bound -/
def bnd : V → Option (Option Int)
  | .non => some none
  | .int i => some (some i)
  | _ => none
def loB (i : Int) : Option Int → Bool
  | none => true
  | some l => decide (l ≤ i)
def upB (i : Int) : Option Int → Bool
  | none => true
  | some m => decide (i ≤ m)
def inB (v : V) (l m : Option Int) : Bool := match v with
  | .int i => loB i l && upB i m
  | _ => false
def spWithin (K : PySem.W.Frag) : Sp := sp3 fun v l m H Q _ => Kn K H v ∧ ∃ l' m', bnd l = some l' ∧ bnd m = some m' ∧ Q (.bl (inB v l' m')) H
theorem bnd_is {v : V} {l : Option Int} (h : bnd v = some l) : (v = .non ∧ l = none) ∨ ∃ i, v = .int i ∧ l = some i := by
  cases v <;> simp [bnd] at h <;> subst h <;> simp
theorem ok_is_within {P : Program} {w : World} {K : PySem.W.Frag} {mg : Str → Option Value} {base : Heap} (T : Txt K mg) : ∃ fd, FnOk P w K mg base (L2.CX P w) 2 (He.ga K "is_within") fd ["value", "least", "most"] (spWithin K) ∧ Binds K fd ["value", "least", "most"] [] := by
  obtain ⟨fd, F⟩ := T.d_is_within
  obtain ⟨fd_is_integer, F_is_integer, B_is_integer⟩ := ok_is_integer (P := P) (w := w) (base := base) T
  refine ⟨fd, F.ok sc_is_within sp3_len (fun cdv A outer s H vs Q E hr h => ?_), F.bindsN fun _ _ _ _ _ _ us hl => match us, hl with | [_, _, _], _ => rfl⟩
  have hr_is_integer : Room 1 _ := hr.mono (by decide)
  obtain ⟨v, l, m, rfl, kv, l', m', hl, hm, q⟩ := sp3_is h
  refine ⟨_, (pss_cons (ps_if (PW.pt (pw_or (pt_not (pt_val (pe_call F_is_integer hr_is_integer (by rfl) T.g_is_integer T.k_is_integer B_is_integer .nil passL (pa_cons (pv 0) pa_nil)))) (pw_or1 (PW.pt (pw_and (pt_cmpR op_notN (pv 1) pe_non (nomark _)) (pw_and1 (pt_cmpR op_lt (pv 0) (pv 1) (nomark _)))))))) (pss_one (ps_ret pe_bl)) pss_nil)
      (pss_one (ps_ret (pe_or (pe_cmpR op_isN (pv 2) pe_non (nomark _)) (pe_one (pe_cmpR op_le (pv 0) (pv 2) (nomark _))))))), ?_⟩
  refine ⟨_, rfl, kv, ⟨_, rfl, ?_⟩⟩
  cases hv : isI v with
  | false =>
    have e : inB v l' m' = false := by cases v <;> first | rfl | cases hv
    rw [e] at q
    exact ite_t rfl (ite_t rfl q)
  | true =>
    obtain ⟨i, rfl⟩ : ∃ i, v = .int i := by cases v <;> first | exact ⟨_, rfl⟩ | cases hv
    refine ite_f rfl ?_
    have last : ∀ {Q' : VK}, Q' (.bl (upB i m')) H → (tOrV (tOp (fun x y H Q => y = .non ∧ Q (.bl (decide (x = .non))) H) (tVar 2) (tC .non)) (tOp (rI0 fun i j => .bl (decide (i ≤ j))) (tVar 0) (tVar 2))) [some (.int i), some l, some m] H Q' := fun {Q'} q' => by
      refine ⟨_, rfl, rfl, _, rfl, ?_⟩
      rcases bnd_is hm with ⟨rfl, rfl⟩ | ⟨j, rfl, rfl⟩
      · exact ite_t (by simp) q'
      · exact ite_f (by simp) ⟨_, rfl, _, rfl, i, j, rfl, rfl, q'⟩
    rcases bnd_is hl with ⟨rfl, rfl⟩ | ⟨j, rfl, rfl⟩
    · refine ⟨_, rfl, rfl, _, rfl, ite_f (by simp) (ite_f rfl (last ?_))⟩
      simpa [inB, loB] using q
    · refine ⟨_, rfl, rfl, _, rfl, ite_t (by simp) ⟨_, rfl, _, rfl, i, j, rfl, rfl, _, rfl, ?_⟩⟩
      by_cases c : i < j
      · refine ite_t (by simp [c]) ?_
        have e : inB (.int i) (some j) m' = false := by simp [inB, loB, show ¬ j ≤ i by omega]
        rw [e] at q
        exact q
      · refine ite_f (by simp [c]) (last ?_)
        have e : inB (.int i) (some j) m' = upB i m' := by simp [inB, loB, show j ≤ i by omega]
        rw [← e]
        exact q
def spNeed (K : PySem.W.Frag) : Sp := sp4 fun v z l m H Q _ => Kn K H v ∧ ∃ l' m' s, z = .str s ∧ bnd l = some l' ∧ bnd m = some m' ∧ inB v l' m' = true ∧ Q v H
theorem ok_need_integer {P : Program} {w : World} {K : PySem.W.Frag} {mg : Str → Option Value} {base : Heap} (T : Txt K mg) : ∃ fd, FnOk P w K mg base (L2.CX P w) 3 (He.ga K "need_integer") fd ["value", "part", "least", "most"] (spNeed K) ∧ Binds K fd ["value", "part", "least", "most"] [] := by
  obtain ⟨fd, F⟩ := T.d_need_integer
  obtain ⟨fd_is_within, F_is_within, B_is_within⟩ := ok_is_within (P := P) (w := w) (base := base) T
  refine ⟨fd, F.ok sc_need_integer sp4_len (fun cdv A outer s H vs Q E hr h => ?_), F.bindsN fun _ _ _ _ _ _ us hl => match us, hl with | [_, _, _, _], _ => rfl⟩
  have hr_is_within : Room 2 _ := hr.mono (by decide)
  obtain ⟨v, z, l, m, rfl, kv, l', m', z', rfl, hl, hm, hv, q⟩ := sp4_is h
  refine ⟨_, (pss_cons (ps_if (pt_not (pt_val (pe_call F_is_within hr_is_within (by rfl) T.g_is_within T.k_is_within B_is_within .nil passL (pa_cons (pv 0) (pa_cons (pv 2) (pa_cons (pv 3) pa_nil)))))) (pss_one ps_never) pss_nil)
      (pss_one (ps_ret (pv 0)))), ?_⟩
  walk_at "rd"
  refine ⟨kv, l', m', hl, hm, ?_⟩
  rw [hv]
  refine ⟨_, rfl, ite_f rfl ?_⟩
  walk_at "rd"
  exact q

end K02
namespace K02
open PySem PySem.Spec PyProof.Rows L2 GS TL LamX
local macro_rules | `(tactic| walk_at "rd") => `(tactic| (repeat (first
  | with_reducible refine r_next ?_
  | with_reducible refine r_seq ?_
  | with_reducible refine r_ret ?_
  | with_reducible refine r_ifS ?_
  | with_reducible refine r_asg ?_
  | with_reducible refine r_drop ?_
  | with_reducible refine r_op ?_
  | with_reducible refine r_un ?_
  | with_reducible refine r_cbInt ?_
  | with_reducible refine r_cbAbs ?_
  | with_reducible refine r_cbLen ?_
  | with_reducible refine r_cbList ?_
  | with_reducible refine r_cbTup ?_
  | with_reducible refine r_iEnT ?_
  | with_reducible refine r_iEnL ?_
  | with_reducible refine r_zipA ?_
  | with_reducible refine r_zipX ?_
  | with_reducible refine r_augS ?_
  | with_reducible refine r_cb ?_
  | with_reducible refine r_call ?_
  | with_reducible refine r_make ?_
  | with_reducible refine r_callN0 ?_
  | with_reducible refine r_makeK0 ?_
  | with_reducible refine r_makeS ?_
  | with_reducible refine r_callS ?_
  | with_reducible refine r_cons ?_
  | with_reducible refine r_nil ?_
  | with_reducible refine r_test ?_
  | with_reducible refine r_B ?_
  | with_reducible refine r_and ?_
  | with_reducible refine r_or ?_
  | with_reducible refine r_not ?_
  | with_reducible refine r_andV ?_
  | with_reducible refine r_orV ?_
  | with_reducible refine r_notV ?_
  | with_reducible refine r_if ?_
  | with_reducible refine r_tup ?_
  | with_reducible refine r_lst ?_
  | with_reducible refine r_c ?_
  | with_reducible refine r_lc ?_
  | with_reducible refine r_chain ?_
  | with_reducible refine r_iT ?_
  | with_reducible refine r_iL ?_
  | with_reducible refine r_iR1 ?_
  | with_reducible refine r_iR2 ?_
  | with_reducible refine r_iR3 ?_
  | with_reducible refine r_asgG ?_
  | with_reducible refine r_gSub ?_
  | with_reducible refine r_for ?_
  | with_reducible refine r_smeth ?_
  | with_reducible refine r_par ?_
  | with_reducible refine r_parK ?_
  | with_reducible refine r_gCons ?_
  | with_reducible refine r_gNil ?_
  | with_reducible refine r_gName ?_
  | with_reducible refine r_intI ?_
  | with_reducible refine r_intB ?_
  | with_reducible refine r_absI ?_
  | with_reducible refine r_k ?_
  | with_reducible refine r_kV ?_
  | ((with_reducible show tVar _ _ _ _); refine r_var3 ?_ (by rfl))
  | with_reducible refine r_I0 ?_
  | with_reducible refine r_U ?_
  | with_reducible refine r_eqI ?_
  | with_reducible refine r_neI ?_
  | dsimp only)))
local macro_rules | `(tactic| walk_at "rx") => `(tactic| (repeat (first
  | with_reducible refine r_next ?_
  | with_reducible refine r_ret ?_
  | with_reducible refine r_ifS ?_
  | with_reducible refine r_asg ?_
  | with_reducible refine r_drop ?_
  | with_reducible refine r_op ?_
  | with_reducible refine r_un ?_
  | with_reducible refine r_cbInt ?_
  | with_reducible refine r_cbAbs ?_
  | with_reducible refine r_cbLen ?_
  | with_reducible refine r_cbList ?_
  | with_reducible refine r_cbTup ?_
  | with_reducible refine r_iEnT ?_
  | with_reducible refine r_iEnL ?_
  | with_reducible refine r_zipA ?_
  | with_reducible refine r_zipX ?_
  | with_reducible refine r_augS ?_
  | with_reducible refine r_cb ?_
  | with_reducible refine r_call ?_
  | with_reducible refine r_make ?_
  | with_reducible refine r_callN0 ?_
  | with_reducible refine r_makeK0 ?_
  | with_reducible refine r_makeS ?_
  | with_reducible refine r_callS ?_
  | with_reducible refine r_cons ?_
  | with_reducible refine r_nil ?_
  | with_reducible refine r_test ?_
  | with_reducible refine r_B ?_
  | with_reducible refine r_and ?_
  | with_reducible refine r_or ?_
  | with_reducible refine r_not ?_
  | with_reducible refine r_andV ?_
  | with_reducible refine r_orV ?_
  | with_reducible refine r_notV ?_
  | with_reducible refine r_if ?_
  | with_reducible refine r_tup ?_
  | with_reducible refine r_lst ?_
  | with_reducible refine r_c ?_
  | with_reducible refine r_lc ?_
  | with_reducible refine r_chain ?_
  | with_reducible refine r_iT ?_
  | with_reducible refine r_iL ?_
  | with_reducible refine r_iR1 ?_
  | with_reducible refine r_iR2 ?_
  | with_reducible refine r_iR3 ?_
  | with_reducible refine r_asgG ?_
  | with_reducible refine r_gSub ?_
  | with_reducible refine r_for ?_
  | with_reducible refine r_smeth ?_
  | with_reducible refine r_par ?_
  | with_reducible refine r_parK ?_
  | with_reducible refine r_gCons ?_
  | with_reducible refine r_gNil ?_
  | with_reducible refine r_gName ?_
  | with_reducible refine r_intI ?_
  | with_reducible refine r_intB ?_
  | with_reducible refine r_absI ?_
  | with_reducible refine r_k ?_
  | with_reducible refine r_kV ?_
  | ((with_reducible show tVar _ _ _ _); refine r_var3 ?_ (by rfl))
  | with_reducible refine r_I0 ?_
  | with_reducible refine r_U ?_
  | with_reducible refine r_eqI ?_
  | with_reducible refine r_neI ?_
  | dsimp only)))
/-! ### rows of integers -/
/-- the items of a list or a tuple -/
def Sq (H : Hp) (v : V) (xs : List V) : Prop := ∃ a, v = .ref a ∧ (H a = some (.lst xs) ∨ H a = some (.tup xs))
theorem Sq.ex {H H' : Hp} {v : V} {xs : List V} (h : Sq H v xs) (e : Ex H H') : Sq H' v xs := by
  obtain ⟨a, rfl, h | h⟩ := h
  · exact ⟨a, rfl, .inl (e _ _ h)⟩
  · exact ⟨a, rfl, .inr (e _ _ h)⟩
theorem Sq.kn {K : PySem.W.Frag} {H : Hp} {v : V} {xs : List V} (h : Sq H v xs) : Kn K H v := by
  obtain ⟨a, rfl, h | h⟩ := h
  · exact .inl ⟨"list", by decide, .lst h⟩
  · exact .inl ⟨"tuple", by decide, .tup h⟩
theorem Own.ex {K : PySem.W.Frag} {H H' : Hp} {v : V} (h : Own K H v) (e : Ex H H') : Own K H' v := let ⟨a, C, dx, fs, h1, h2, h3⟩ := h; ⟨a, C, dx, fs, h1, h2, e _ _ h3⟩
/-- whether it is a list or a tuple -/
def RowB (K : PySem.W.Frag) (H : Hp) (v : V) (b : Bool) : Prop := (∃ T ∈ tys, TyOf K H v (.type T) ∧ b = (T == "list" || T == "tuple")) ∨ (Own K H v ∧ b = false)
theorem RowB.ex {K : PySem.W.Frag} {H H' : Hp} {v : V} {b : Bool} (h : RowB K H v b) (e : Ex H H') : RowB K H' v b := by
  rcases h with ⟨T, hT, h, hb⟩ | ⟨h, hb⟩
  · exact .inl ⟨T, hT, TyOf.ex' h fun a _ o q => e a o q, hb⟩
  · exact .inr ⟨h.ex e, hb⟩
theorem Kn.row {K : PySem.W.Frag} {H : Hp} {v : V} (h : Kn K H v) : ∃ b, RowB K H v b := by
  rcases h with ⟨T, hT, h⟩ | h
  · exact ⟨_, .inl ⟨T, hT, h, rfl⟩⟩
  · exact ⟨false, .inr ⟨h, rfl⟩⟩
theorem Sq.row {K : PySem.W.Frag} {H : Hp} {v : V} {xs : List V} (h : Sq H v xs) : RowB K H v true := by
  obtain ⟨a, rfl, h | h⟩ := h
  · exact .inl ⟨"list", by decide, .lst h, rfl⟩
  · exact .inl ⟨"tuple", by decide, .tup h, rfl⟩
theorem row_kit : ∀ T ∈ tys, kitR T "list" = (T == "list") ∧ kitR T "tuple" = (T == "tuple") := by decide
def spRow (K : PySem.W.Frag) : Sp := sp1 fun v H Q _ => ∃ b, RowB K H v b ∧ ∀ H', Ex H H' → Q (.bl b) H'
theorem ok_is_row {P : Program} {w : World} {K : PySem.W.Frag} {mg : Str → Option Value} {base : Heap} (T : Txt K mg) : ∃ fd, FnOk P w K mg base (L2.CX P w) 1 (He.ga K "is_row") fd ["value"] (spRow K) ∧ Binds K fd ["value"] [] := by
  obtain ⟨fd, F⟩ := T.d_is_row
  refine ⟨fd, F.ok sc_is_row sp1_len (fun cdv A outer s H vs Q E hr h => ?_), F.bindsN fun _ _ _ _ _ _ us hl => match us, hl with | [_], _ => rfl⟩
  obtain ⟨v, rfl, b, hv, k⟩ := sp1_is h
  refine ⟨_, (pss_one (ps_ret (pe_callB call_isiT (by rfl) T.b_isinstance (by decide +kernel) (pa_cons (pv 0) (pa_cons (pe_tup (pa_cons (pe_bltn (v := .ty "list") (by rfl) T.b_list (by decide +kernel) rfl) (pa_cons (pe_bltn (v := .ty "tuple") (by rfl) T.b_tuple (by decide +kernel) rfl) pa_nil))) pa_nil))))), ?_⟩
  walk_at "rd"
  refine r_newT (sz_le (by simp)) fun t H1 _ e1 h1 => ?_
  have hv1 := hv.ex e1
  have any : ∃ t, TyX K H1 v t ∧ PySem.W.kitAny K t [.type "list", .type "tuple"] = some b := by
    rcases hv1 with ⟨T1, hT, hy, rfl⟩ | ⟨⟨a, C, dx, fs, rfl, hC, ha⟩, rfl⟩
    · refine ⟨_, .base hy, ?_⟩
      have k1 := kit_ty (K := K) (kit_all T1 hT "list" (by decide))
      have k2 := kit_ty (K := K) (kit_all T1 hT "tuple" (by decide))
      obtain ⟨r1, r2⟩ := row_kit T1 hT
      rw [r1] at k1
      rw [r2] at k2
      unfold PySem.W.kitAny
      rw [k1]
      cases T1 == "list" with
      | true => rfl
      | false =>
        show PySem.W.kitAny K _ [_] = _
        unfold PySem.W.kitAny
        rw [k2]
        cases T1 == "tuple" <;> rfl
    · refine ⟨_, ty_own T hC ha, ?_⟩
      have k1 := ((own_facts T hC).2.ty "list" (by decide)).2.1
      have k2 := ((own_facts T hC).2.ty "tuple" (by decide)).2.1
      unfold PySem.W.kitAny
      rw [k1]
      show PySem.W.kitAny K _ [_] = _
      unfold PySem.W.kitAny
      rw [k2]
      rfl
  obtain ⟨t0, ty, ka⟩ := any
  exact ⟨v, t, _, t0, _, b, rfl, h1, .cons (.ty "list") (.cons (.ty "tuple") .nil), ty, ka, k H1 e1⟩
theorem getD_map {α : Type} (xs : List V) (f : V → α) : ((List.range xs.length).map fun j => f (xs.getD j .non)) = xs.map f := by
  refine List.ext_getElem (by simp) fun i h1 h2 => ?_
  simp at h1
  simp [h1]
def spInts (K : PySem.W.Frag) : Sp := sp1 fun v H Q _ => (∃ xs, Sq H v xs ∧ xs.length ≤ 50000 ∧ (∀ x ∈ xs, Kn K H x) ∧ ∀ H', Ex H H' → Q (.bl (xs.all isI)) H') ∨ (RowB K H v false ∧ ∀ H', Ex H H' → Q (.bl false) H')
theorem ok_are_integers {P : Program} {w : World} {K : PySem.W.Frag} {mg : Str → Option Value} {base : Heap} (T : Txt K mg) : ∃ fd, FnOk P w K mg base (L2.CX P w) 2 (He.ga K "are_integers") fd ["value"] (spInts K) ∧ Binds K fd ["value"] [] := by
  obtain ⟨fd, F⟩ := T.d_are_integers
  obtain ⟨fd_is_integer, F_is_integer, B_is_integer⟩ := ok_is_integer (P := P) (w := w) (base := base) T
  obtain ⟨fd_is_row, F_is_row, B_is_row⟩ := ok_is_row (P := P) (w := w) (base := base) T
  refine ⟨fd, F.ok sc_are_integers sp1_len (fun cdv A outer s H vs Q E hr h => ?_), F.bindsN fun _ _ _ _ _ _ us hl => match us, hl with | [_], _ => rfl⟩
  have hr_is_integer : Room 1 _ := hr.mono (by decide)
  have hr_is_row : Room 1 _ := hr.mono (by decide)
  obtain ⟨v, rfl, hh⟩ := sp1_is h
  refine ⟨_, (pss_one (ps_ret (pe_and (pe_call F_is_row hr_is_row (by rfl) T.g_is_row T.k_is_row B_is_row .nil passL (pa_cons (pv 0) pa_nil)) (pe_one (pe_callB (cr_all rfl) (by rfl) T.b_all (by decide +kernel) (pa_cons (pe_lc (own := [("each", 1)]) (g := gName 1) (tt := tYes)  rfl sc_are_integers.nd (pi_seq (pv 0)) (blkOk_by (own := [("each", 1)]) (N := ["value", "each"]) (sc := defScope s_are_integers) (by decide +kernel)) (fun _ _ _ _ _ => (pg_name (i := 1) sc_are_integers.nd rfl (Or.inl rfl))) (fun _ _ _ _ _ => pts_nil) (fun _ _ _ _ _ => (pe_call F_is_integer hr_is_integer (by rfl) T.g_is_integer T.k_is_integer B_is_integer .nil passL (pa_cons (pv 1) pa_nil)))) pa_nil)))))), ?_⟩
  walk_at "rd"
  rcases hh with ⟨xs, hs, hl, hk, k⟩ | ⟨hr, k⟩
  · refine ⟨true, hs.row, fun H1 e1 => ?_⟩
    walk_at "rd"
    refine ite_t rfl ?_
    walk_at "rd"
    have go : ∀ {J : It} {a : Addr} {G : Hp → Prop}, v = .ref a → Walk J xs.length G (YAt xs) → (∀ H', Ex H1 H' → G H') → lcB J (gName 1) tYes (tCall (spIsInt K) [] E0 (tCons (tVar 1) tNil)) [1] [some v, none] (fun x H2 => rAll K [x] H2 Q) H1 := by
      intro J a G ev w hG
      refine r_lcM w (fun j => .bl (isI (xs.getD j .non))) hl hG (fun _ => rfl) ?_ ?_
      · rintro j y H0 H' hj e0 ⟨rfl, hy⟩
        refine ⟨Ex.refl _, fun H3 e3 R r => ?_⟩
        have : y = xs.getD j .non := by
          rw [List.getD_eq_getElem?_getD, hy]
          rfl
        subst this
        walk_at "rd"
        exact ⟨((hk _ (List.mem_of_getElem? hy)).ex (e1.trans (e0.trans e3))), r H3 (Ex.refl _)⟩
      · intro p H' hp e h'
        rw [getD_map xs fun x => V.bl (isI x)] at h'
        refine ⟨p, xs.map isI, rfl, SqL.of (by rw [List.map_map]; exact h'), ?_⟩
        have e : (xs.map isI).all id = xs.all isI := by rw [List.all_map]; rfl
        rw [e]
        exact k H' (e1.trans ‹Ex H1 H'›)
    obtain ⟨a, rfl, ha | ha⟩ := hs.ex e1
    · refine ⟨_, rfl, ?_⟩
      exact ⟨a, rfl, .inl ⟨⟨_, SqL.of ha⟩, go rfl walk_list fun H' e => SqL.of (e _ _ ha)⟩⟩
    · refine ⟨_, rfl, ?_⟩
      exact ⟨a, rfl, .inr ⟨⟨_, SqT.of ha⟩, go rfl walk_tup fun H' e => SqT.of (e _ _ ha)⟩⟩
  · refine ⟨false, hr, fun H1 e1 => ?_⟩
    walk_at "rd"
    exact ite_f rfl (k H1 e1)
/-! ### the class Poly -/
theorem Bu.new {p q : Addr} {H : Hp} {o : HO} (h : H q = none) : Bu p H (upd H q o) := Bu.of (Ex.new h)
/-- from 1 to 64 integers, the first above 0 -/
def okN (ns : List Int) : Prop := 1 ≤ ns.length ∧ ns.length ≤ 64 ∧ 0 < ns.headD 0
def spPInit (K : PySem.W.Frag) : Sp := sp2 fun a v H Q _ => ∃ p dx ns, a = .ref p ∧ H p = some (.ins (He.ga K "Poly") dx []) ∧ Sq H v (ns.map V.int) ∧ okN ns ∧ ∀ t H', Bu p H H' → H' t = some (.tup (ns.map V.int)) → t ≠ p → H' p = some (.ins (He.ga K "Poly") dx (pf t ((ns.length : Int) - 1))) → Q .non H'
theorem ok_Poly_init {P : Program} {w : World} {K : PySem.W.Frag} {mg : Str → Option Value} {base : Heap} (T : Txt K mg) : ∃ fd, FnOk P w K mg base (L2.CX P w) 3 (He.ma K (He.ga K "Poly") "__init__") fd ["self", "numbers"] (spPInit K) ∧ Binds K fd ["self", "numbers"] [] := by
  obtain ⟨fd, F⟩ := T.d_Poly_init
  obtain ⟨fd_are_integers, F_are_integers, B_are_integers⟩ := ok_are_integers (P := P) (w := w) (base := base) T
  refine ⟨fd, F.ok sc_Poly_init sp2_len (fun cdv A outer s H vs Q E hr h => ?_), F.bindsN fun _ _ _ _ _ _ us hl => match us, hl with | [_, _], _ => rfl⟩
  have hr_are_integers : Room 2 _ := hr.mono (by decide)
  obtain ⟨a, v, rfl, p, dx, ns, rfl, hp, hs, ok, k1⟩ := sp2_is h
  refine ⟨_, (pss_cons (ps_if (PW.pt (pw_or (pt_not (pt_val (pe_call F_are_integers hr_are_integers (by rfl) T.g_are_integers T.k_are_integers B_are_integers .nil passL (pa_cons (pv 1) pa_nil)))) (pw_or1 (pt_not (pt_chain op_le op_le pe_int (pe_callB (kx_lens rfl) (by rfl) T.b_len PySem.boot_len (pa_cons (pv 1) pa_nil)) (pe_gint rfl T.c_MOST_NUMBERS)))))) (pss_one ps_never) pss_nil)
      (pss_cons (ps_if (pt_cmpR op_le (pe_ix ix_seq (pv 1) pe_int (fun _ _ => rfl)) pe_int (nomark _)) (pss_one ps_never) pss_nil)
      (pss_cons (ps_fld (pv 0) (pe_callTy (kx_tupOf (K := K) rfl) (by rfl) T.b_tuple (by decide +kernel) (pa_cons (pv 1) pa_nil)) rfl)
      (pss_one (ps_fld (pv 0) (pe_op op_sub (pe_callB (kx_lens rfl) (by rfl) T.b_len PySem.boot_len (pa_cons (pv 1) pa_nil)) pe_int) rfl))))), ?_⟩
  obtain ⟨c1, c2, c3⟩ := ok
  walk_at "rd"
  refine .inl ⟨_, hs, by rw [List.length_map]; omega, fun x hx => ?_, fun H1 e1 => ?_⟩
  · obtain ⟨i, _, rfl⟩ := List.mem_map.mp hx
    exact kn_int i
  have all : (ns.map V.int).all isI = true := by rw [List.all_map]; exact List.all_eq_true.mpr fun _ _ => rfl
  rw [all]
  walk_at "rd"
  refine ite_f rfl ?_
  walk_at "rd"
  obtain ⟨b, rfl, hb⟩ := hs.ex e1
  have sq : SqL K H1 b (ns.map V.int) ∨ SqT K H1 b (ns.map V.int) := hb.imp SqL.of SqT.of
  have ix : ∀ {Q' : VK} {i : Int}, ns.head? = some i → Q' (.int i) H1 → rIx K (.ref b) (.int 0) H1 Q' := fun {Q' i} hi q => by
    have e : atI (ns.map V.int) 0 = some (.int i) := atI_nat (j := 0) (by cases ns with | nil => cases hi | cons n r => cases hi; rfl)
    rcases sq with sq | sq
    · exact .inl ⟨b, _, _, _, rfl, rfl, sq, e, q⟩
    · exact .inr (.inl ⟨b, _, _, _, rfl, rfl, sq, e, q⟩)
  refine ⟨b, _, rfl, sq, ?_⟩
  rw [List.length_map]
  walk_at "rd"
  refine ite_t (decide_eq_true (by omega)) ?_
  walk_at "rd"
  rw [decide_eq_true (show (ns.length : Int) ≤ 64 by omega)]
  refine ite_f rfl ?_
  walk_at "rd"
  obtain ⟨i, hi⟩ : ∃ i, ns.head? = some i := by
    cases ns with
    | nil => simp at c1
    | cons n r => exact ⟨n, rfl⟩
  have hd : ns.headD 0 = i := by rw [List.headD_eq_head?_getD, hi]; rfl
  refine ix hi ?_
  walk_at "rd"
  refine ite_f (decide_eq_false (by omega)) ?_
  have fin : ∀ (t : Addr) (H2 : Hp), Ex H1 H2 → H2 t = some (.tup (ns.map V.int)) → sFld K (tVar 0) (tC (.ref t)) "numbers" { nx := sFld K (tVar 0) (tOp (rI0 fun i j => .int (i - j)) (tCB (fun xs H Q => ∃ p ys, xs = [V.ref p] ∧ (SqL K H p ys ∨ SqT K H p ys) ∧ Q (V.int ys.length) H) (tCons (tVar 1) tNil)) (tC (.int 1))) "degree" { nx := fun _ H' => Q .non H', rt := Q }, rt := Q } [some (.ref p), some (.ref b)] H2 := by
    intro t H2 e2 ht
    have hp2 := e2 _ _ (e1 _ _ hp)
    have tn : t ≠ p := by rintro rfl; rw [hp2] at ht; cases ht
    have bn : b ≠ p := by
      rintro rfl
      rcases hb with hb | hb <;> rw [e1 _ _ hp] at hb <;> cases hb
    refine ⟨_, rfl, p, _, dx, [], rfl, hp2, T.cl_Poly, T.na_Poly_numbers, by decide, ?_⟩
    walk_at "rd"
    refine ⟨_, rfl, b, ns.map V.int, rfl, ?_, ?_⟩
    · rcases hb with hb | hb
      · exact .inl (SqL.of (by rw [upd_ne bn]; exact e2 _ _ hb))
      · exact .inr (SqT.of (by rw [upd_ne bn]; exact e2 _ _ hb))
    walk_at "rd"
    rw [List.length_map]
    refine ⟨p, _, dx, _, rfl, upd_same, T.cl_Poly, T.na_Poly_degree, (by show 1 < 1000; decide), ?_⟩
    refine k1 t _ (((Bu.of (e1.trans e2)).trans Bu.upd).trans Bu.upd) ?_ tn ?_
    · rw [upd_ne tn, upd_ne tn]; exact ht
    · rw [upd_same]
      rfl
  walk_at "rd"
  refine ⟨_, rfl, b, ns.map V.int, rfl, ?_⟩
  rcases hb with hb | hb
  · exact .inl ⟨SqL.of hb, fun l hl => fin l _ (Ex.new hl) upd_same⟩
  · exact .inr ⟨SqT.of hb, fin b _ (Ex.refl _) hb⟩
theorem bu_ex {p : Addr} {H H0 H' : Hp} (e0 : Ex H H0) (hp : H p = none) (e : Bu p H0 H') : Ex H H' := fun a o h => e a o (ne_of_none h hp) (e0 a o h)
theorem put_own {H : Hp} {x dx : Addr} {o u : HO} (h1 : H x = none) (h2 : H dx = none) : Ex H (upd (upd H dx o) x u) := fun a v h => by
  rw [upd_ne (ne_of_none h h1), upd_ne (ne_of_none h h2)]
  exact h
/-- Poly(ns) -/
theorem r_Poly {K : PySem.W.Frag} {H : Hp} {Q : VK} {E : XK} {v : V} {ns : List Int} (hs : Sq H v (ns.map V.int)) (ok : okN ns) (q : ∀ p H', H p = none → Ex H H' → Pl K H' p ns → Q (.ref p) H') : mkK (He.ga K "Poly") (spPInit K) E Q [v] H := by
  intro x dx hx hd hn
  have e0 : Ex H (upd (upd H dx (.own x)) x (.ins (He.ga K "Poly") dx [])) := put_own hx hd
  refine ⟨x, dx, ns, rfl, upd_same, hs.ex e0, ok, fun t H' bu ht tn hi => ⟨rfl, ?_⟩⟩
  exact q x H' hx (bu_ex e0 hx bu) ⟨ok.1, ok.2.1, ok.2.2, dx, t, hi, ht⟩
/-! ### Bound -/
def spBInit (K : PySem.W.Frag) : Sp := sp4 fun a x y z H Q E => ∃ p dx i j k, a = .ref p ∧ x = .int i ∧ y = .int j ∧ z = .int k ∧ 0 ≤ k ∧ H p = some (.ins (He.ga K "Bound") dx []) ∧ ∀ H', Bu p H H' → H' p = some (.ins (He.ga K "Bound") dx (bf i j k)) → Q .non H'
theorem ok_Bound_init {P : Program} {w : World} {K : PySem.W.Frag} {mg : Str → Option Value} {base : Heap} (T : Txt K mg) : ∃ fd, FnOk P w K mg base (L2.CX P w) 4 (He.ma K (He.ga K "Bound") "__init__") fd ["self", "whole", "part", "under"] (spBInit K) ∧ Binds K fd ["self", "whole", "part", "under"] [] := by
  obtain ⟨fd, F⟩ := T.d_Bound_init
  obtain ⟨fd_need_integer, F_need_integer, B_need_integer⟩ := ok_need_integer (P := P) (w := w) (base := base) T
  refine ⟨fd, F.ok sc_Bound_init sp4_len (fun cdv A outer s H vs Q E hr h => ?_), F.bindsN fun _ _ _ _ _ _ us hl => match us, hl with | [_, _, _, _], _ => rfl⟩
  have hr_need_integer : Room 3 _ := hr.mono (by decide)
  obtain ⟨a, x, y, z, rfl, p, dx, i, j, k, rfl, rfl, rfl, rfl, hk, hp, q⟩ := sp4_is h
  refine ⟨_, (pss_cons (ps_fld (pv 0) (pe_call F_need_integer hr_need_integer (by rfl) T.g_need_integer T.k_need_integer B_need_integer .nil passL (pa_cons (pv 1) (pa_cons pe_str (pa_cons pe_non (pa_cons pe_non pa_nil))))) rfl)
      (pss_cons (ps_fld (pv 0) (pe_call F_need_integer hr_need_integer (by rfl) T.g_need_integer T.k_need_integer B_need_integer .nil passL (pa_cons (pv 2) (pa_cons pe_str (pa_cons pe_non (pa_cons pe_non pa_nil))))) rfl)
      (pss_one (ps_fld (pv 0) (pe_call F_need_integer hr_need_integer (by rfl) T.g_need_integer T.k_need_integer B_need_integer .nil passL (pa_cons (pv 3) (pa_cons pe_str (pa_cons pe_int (pa_cons pe_non pa_nil))))) rfl)))), ?_⟩
  refine ⟨_, rfl, kn_int i, none, none, _, rfl, rfl, rfl, rfl, ?_⟩
  refine ⟨_, rfl, p, _, dx, [], rfl, hp, T.cl_Bound, T.na_Bound_whole, by decide, ?_⟩
  refine ⟨_, rfl, kn_int j, none, none, _, rfl, rfl, rfl, rfl, ?_⟩
  refine ⟨_, rfl, p, _, dx, _, rfl, upd_same, T.cl_Bound, T.na_Bound_part, (by show 1 < 1000; decide), ?_⟩
  refine ⟨_, rfl, kn_int k, some 0, none, _, rfl, rfl, rfl, by simp [inB, loB, upB, hk], ?_⟩
  refine ⟨_, rfl, p, _, dx, _, rfl, upd_same, T.cl_Bound, T.na_Bound_under, (by show 2 < 1000; decide), ?_⟩
  refine q _ ((Bu.upd.trans Bu.upd).trans Bu.upd) ?_
  rw [upd_same]
  rfl
/-- Bound(i, j, k) -/
theorem r_Bound {K : PySem.W.Frag} {H : Hp} {Q : VK} {E : XK} {i j k : Int} (hk : 0 ≤ k) (q : ∀ p H', H p = none → Ex H H' → Bd K H' p i j k → Q (.ref p) H') :
    mkK (He.ga K "Bound") (spBInit K) E Q [.int i, .int j, .int k] H := by
  intro x dx hx hd hn
  refine ⟨x, dx, i, j, k, rfl, rfl, rfl, rfl, hk, upd_same, fun H' e hb => ⟨rfl, ?_⟩⟩
  exact q x H' hx (bu_ex (put_own hx hd) hx e) ⟨hk, dx, hb⟩

end K02
namespace K02
open PySem PySem.Spec PyProof.Rows L2 GS TL LamX
local macro_rules | `(tactic| walk_at "rd") => `(tactic| (repeat (first
  | with_reducible refine r_next ?_
  | with_reducible refine r_seq ?_
  | with_reducible refine r_ret ?_
  | with_reducible refine r_ifS ?_
  | with_reducible refine r_asg ?_
  | with_reducible refine r_drop ?_
  | with_reducible refine r_op ?_
  | with_reducible refine r_un ?_
  | with_reducible refine r_cbInt ?_
  | with_reducible refine r_cbAbs ?_
  | with_reducible refine r_cbLen ?_
  | with_reducible refine r_cbList ?_
  | with_reducible refine r_cbTup ?_
  | with_reducible refine r_iEnT ?_
  | with_reducible refine r_iEnL ?_
  | with_reducible refine r_zipA ?_
  | with_reducible refine r_zipX ?_
  | with_reducible refine r_augS ?_
  | with_reducible refine r_cb ?_
  | with_reducible refine r_call ?_
  | with_reducible refine r_make ?_
  | with_reducible refine r_callN0 ?_
  | with_reducible refine r_makeK0 ?_
  | with_reducible refine r_makeS ?_
  | with_reducible refine r_callS ?_
  | with_reducible refine r_cons ?_
  | with_reducible refine r_nil ?_
  | with_reducible refine r_test ?_
  | with_reducible refine r_B ?_
  | with_reducible refine r_and ?_
  | with_reducible refine r_or ?_
  | with_reducible refine r_not ?_
  | with_reducible refine r_andV ?_
  | with_reducible refine r_orV ?_
  | with_reducible refine r_notV ?_
  | with_reducible refine r_if ?_
  | with_reducible refine r_tup ?_
  | with_reducible refine r_lst ?_
  | with_reducible refine r_c ?_
  | with_reducible refine r_lc ?_
  | with_reducible refine r_chain ?_
  | with_reducible refine r_iT ?_
  | with_reducible refine r_iL ?_
  | with_reducible refine r_iR1 ?_
  | with_reducible refine r_iR2 ?_
  | with_reducible refine r_iR3 ?_
  | with_reducible refine r_asgG ?_
  | with_reducible refine r_gSub ?_
  | with_reducible refine r_for ?_
  | with_reducible refine r_smeth ?_
  | with_reducible refine r_par ?_
  | with_reducible refine r_parK ?_
  | with_reducible refine r_gCons ?_
  | with_reducible refine r_gNil ?_
  | with_reducible refine r_gName ?_
  | with_reducible refine r_intI ?_
  | with_reducible refine r_intB ?_
  | with_reducible refine r_absI ?_
  | with_reducible refine r_k ?_
  | with_reducible refine r_kV ?_
  | ((with_reducible show tVar _ _ _ _); refine r_var3 ?_ (by rfl))
  | with_reducible refine r_I0 ?_
  | with_reducible refine r_U ?_
  | with_reducible refine r_eqI ?_
  | with_reducible refine r_neI ?_
  | dsimp only)))
local macro_rules | `(tactic| walk_at "rx") => `(tactic| (repeat (first
  | with_reducible refine r_next ?_
  | with_reducible refine r_ret ?_
  | with_reducible refine r_ifS ?_
  | with_reducible refine r_asg ?_
  | with_reducible refine r_drop ?_
  | with_reducible refine r_op ?_
  | with_reducible refine r_un ?_
  | with_reducible refine r_cbInt ?_
  | with_reducible refine r_cbAbs ?_
  | with_reducible refine r_cbLen ?_
  | with_reducible refine r_cbList ?_
  | with_reducible refine r_cbTup ?_
  | with_reducible refine r_iEnT ?_
  | with_reducible refine r_iEnL ?_
  | with_reducible refine r_zipA ?_
  | with_reducible refine r_zipX ?_
  | with_reducible refine r_augS ?_
  | with_reducible refine r_cb ?_
  | with_reducible refine r_call ?_
  | with_reducible refine r_make ?_
  | with_reducible refine r_callN0 ?_
  | with_reducible refine r_makeK0 ?_
  | with_reducible refine r_makeS ?_
  | with_reducible refine r_callS ?_
  | with_reducible refine r_cons ?_
  | with_reducible refine r_nil ?_
  | with_reducible refine r_test ?_
  | with_reducible refine r_B ?_
  | with_reducible refine r_and ?_
  | with_reducible refine r_or ?_
  | with_reducible refine r_not ?_
  | with_reducible refine r_andV ?_
  | with_reducible refine r_orV ?_
  | with_reducible refine r_notV ?_
  | with_reducible refine r_if ?_
  | with_reducible refine r_tup ?_
  | with_reducible refine r_lst ?_
  | with_reducible refine r_c ?_
  | with_reducible refine r_lc ?_
  | with_reducible refine r_chain ?_
  | with_reducible refine r_iT ?_
  | with_reducible refine r_iL ?_
  | with_reducible refine r_iR1 ?_
  | with_reducible refine r_iR2 ?_
  | with_reducible refine r_iR3 ?_
  | with_reducible refine r_asgG ?_
  | with_reducible refine r_gSub ?_
  | with_reducible refine r_for ?_
  | with_reducible refine r_smeth ?_
  | with_reducible refine r_par ?_
  | with_reducible refine r_parK ?_
  | with_reducible refine r_gCons ?_
  | with_reducible refine r_gNil ?_
  | with_reducible refine r_gName ?_
  | with_reducible refine r_intI ?_
  | with_reducible refine r_intB ?_
  | with_reducible refine r_absI ?_
  | with_reducible refine r_k ?_
  | with_reducible refine r_kV ?_
  | ((with_reducible show tVar _ _ _ _); refine r_var3 ?_ (by rfl))
  | with_reducible refine r_I0 ?_
  | with_reducible refine r_U ?_
  | with_reducible refine r_eqI ?_
  | with_reducible refine r_neI ?_
  | dsimp only)))
theorem bools_all {K : PySem.W.Frag} {H : Hp} {p : Addr} {n : Nat} {f : Nat → Bool} {Q : VK} (h : H p = some (.lst ((List.range n).map fun i => V.bl (f i)))) (q : Q (.bl ((List.range n).all f)) H) : rAll K [.ref p] H Q := by
  refine ⟨p, (List.range n).map f, rfl, SqL.of (by rw [List.map_map]; exact h), ?_⟩
  have e : ((List.range n).map f).all id = (List.range n).all f := by rw [List.all_map]; rfl
  rw [e]
  exact q
theorem all_range {α : Type} (os : List α) (d : α) (f : α → Bool) : ((List.range os.length).all fun i => f (os.getD i d)) = os.all f := by
  rw [Bool.eq_iff_iff, List.all_eq_true, List.all_eq_true]
  constructor
  · intro h x hx
    obtain ⟨i, hi⟩ := List.getElem?_of_mem hx
    have hl := (List.getElem?_eq_some_iff.mp hi).1
    have := h i (List.mem_range.mpr hl)
    rw [List.getD_eq_getElem?_getD, hi] at this
    exact this
  · intro h i hi
    have hl := List.mem_range.mp hi
    rw [List.getD_eq_getElem?_getD, List.getElem?_eq_getElem hl]
    exact h _ (List.getElem_mem hl)
theorem int_at {ns : List Int} {i : Nat} {x : V} (hx : (ns.map V.int)[i]? = some x) : ∃ n, ns[i]? = some n ∧ x = .int n := by
  rw [List.getElem?_map] at hx
  cases q : ns[i]? with
  | none => rw [q] at hx; cases hx
  | some n => rw [q] at hx; exact ⟨n, rfl, (Option.some.inj hx).symm⟩
theorem ref_at {ts : List Addr} {i : Nat} {x : V} (hx : (ts.map V.ref)[i]? = some x) : ∃ t, ts[i]? = some t ∧ x = .ref t := by
  rw [List.getElem?_map] at hx
  cases q : ts[i]? with
  | none => rw [q] at hx; cases hx
  | some n => rw [q] at hx; exact ⟨n, rfl, (Option.some.inj hx).symm⟩
/-! ### texts -/
theorem minus_tl : tl (Str.ofString "-") = [45] := rfl
theorem rp_nS (i : Int) : tl (Txt.removeprefix (nS i) (Str.ofString "-")) = dg i := by
  unfold Txt.removeprefix
  by_cases c : i < 0
  · have e := tl_nS_neg c
    have h1 : Builtin.Str.subAt (nS i) (Str.ofString "-") 0 = true := by
      rw [StrLaws.subAt_eq]
      show ((tl (nS i)).drop 0).take 1 == [45]
      rw [e]
      rfl
    have hl : (nS i).length = (dg i).length + 1 := by rw [len_tl, e, List.length_cons]
    rw [if_pos h1]
    show tl (if ((nS i).length - 1 == (nS i).length) = true then nS i else Builtin.Str.strSub (nS i) 1 (nS i).length) = _
    rw [if_neg (by rw [hl]; simp), tl_strSub_end, e]
    rfl
  · have e := tl_nS_nn (i := i) (by omega)
    have h1 : Builtin.Str.subAt (nS i) (Str.ofString "-") 0 = false := by
      rw [StrLaws.subAt_eq]
      show (((tl (nS i)).drop 0).take 1 == [45]) = false
      rw [e]
      have d := dg_digits i
      cases q : dg i with
      | nil => rfl
      | cons x r =>
        rw [q] at d
        have := d x (List.mem_cons_self ..)
        simp
        omega
    rw [h1]
    exact e
theorem iD_mem {c : Nat} (h : 48 ≤ c ∧ c ≤ 57) : c ∈ (Str.ofString "0123456789").cps.toList := by
  have e : (Str.ofString "0123456789").cps.toList = [48, 49, 50, 51, 52, 53, 54, 55, 56, 57] := rfl
  rw [e]
  simp
  omega
theorem numL_head {n : Nat} (h : 0 < n) : (numL n).head? ≠ some 48 := by
  induction n using Nat.strongRecOn with
  | _ n ih =>
    by_cases c : n < 10
    · rw [numL_lt c]
      simp
      omega
    · rw [numL_step (by omega)]
      have := ih (n / 10) (by omega) (by omega)
      cases q : numL (n / 10) with
      | nil => exact absurd q (numL_ne _)
      | cons a r =>
        rw [q] at this
        exact this
/-- the digits behind a sign -/
def dgt (z : Str) : List Nat := tl (Txt.removeprefix z (Str.ofString "-"))
def isD (c : Nat) : Bool := decide (c ∈ (Str.ofString "0123456789").cps.toList)
/-- a text that tells an integer of at most 60 digits -/
def ntB (z : Str) : Bool := decide (1 ≤ (dgt z).length) && decide ((dgt z).length ≤ 60) && (dgt z).all isD && (!decide ((dgt z).headD 48 = 48) || decide (z = Str.ofString "0"))
theorem all_rangeN (l : List Nat) (d : Nat) (f : Nat → Bool) : ((List.range l.length).all fun i => f (l.getD i d)) = l.all f := all_range l d f
theorem rp_le (z : Str) : (Txt.removeprefix z (Str.ofString "-")).length ≤ z.length := by
  unfold Txt.removeprefix
  split
  · show (if (z.length - 1 == z.length) = true then z else Builtin.Str.strSub z 1 z.length).length ≤ _
    split
    · exact Nat.le_refl _
    · rw [len_tl (Builtin.Str.strSub z 1 z.length), tl_strSub_end, List.length_drop, ← len_tl]
      omega
  · exact Nat.le_refl _
def spIIT (K : PySem.W.Frag) : Sp := sp1 fun v H Q _ => ∃ z : Str, v = .str z ∧ z.length ≤ 5000 ∧ ∀ H', Ex H H' → Q (.bl (ntB z)) H'
theorem ok_is_integer_text {P : Program} {w : World} {K : PySem.W.Frag} {mg : Str → Option Value} {base : Heap} (T : Txt K mg) : ∃ fd, FnOk P w K mg base (L2.CX P w) 1 (He.ga K "is_integer_text") fd ["item"] (spIIT K) ∧ Binds K fd ["item"] [] := by
  obtain ⟨fd, F⟩ := T.d_is_integer_text
  refine ⟨fd, F.ok sc_is_integer_text sp1_len (fun cdv A outer s H vs Q E hr h => ?_), F.bindsN fun _ _ _ _ _ _ us hl => match us, hl with | [_], _ => rfl⟩
  obtain ⟨v, rfl, z, rfl, hz, k⟩ := sp1_is h
  refine ⟨_, (pss_cons (ps_set (i := 1) sc_is_integer_text.nd rfl (Or.inl rfl) (pe_bm PySem.F.plainAttrs_str PySem.F.slot_str_removeprefix PySem.F.type_str_removeprefix mt_removeprefix (pv 0) (pa_cons pe_str pa_nil)))
      (pss_cons (ps_if (PW.pt (pw_or (pt_not (pt_chain op_le op_le pe_int (pe_callB call_len_str (by rfl) T.b_len PySem.boot_len (pa_cons (pv 1) pa_nil)) (pe_gint rfl T.c_MOST_DIGITS))) (pw_or1 (pt_not (pt_val (pe_callB (cr_all rfl) (by rfl) T.b_all (by decide +kernel) (pa_cons (pe_lc (own := [("each", 2)]) (g := gName 2) (tt := tYes)  rfl sc_is_integer_text.nd (pi_str (pv 1)) (blkOk_by (own := [("each", 2)]) (N := ["item", "digits", "each"]) (sc := defScope s_is_integer_text) (by decide +kernel)) (fun _ _ _ _ _ => (pg_name (i := 2) sc_is_integer_text.nd rfl (Or.inl rfl))) (fun _ _ _ _ _ => pts_nil) (fun _ _ _ _ _ => (pe_cmpR op_in_sign (pv 2) (pe_gstr rfl T.c_DIGITS) rfl))) pa_nil))))))) (pss_one (ps_ret pe_bl)) pss_nil)
      (pss_one (ps_ret (pe_or (pe_cmpR op_ne (pe_ix ix_str (pv 1) pe_int (fun _ _ => rfl)) pe_str (nomark _)) (pe_one (pe_cmpR op_eq (pv 0) pe_str (nomark _)))))))), ?_⟩
  have hrl := rp_le z
  walk_at "rd"
  refine ⟨_, rfl, rfl, ?_⟩
  walk_at "rd"
  refine ⟨_, _, rfl, rfl, sz_le (by omega), ?_⟩
  walk_at "rd"
  have hd : dgt z = tl (Txt.removeprefix z (Str.ofString "-")) := rfl
  generalize hx : Txt.removeprefix z (Str.ofString "-") = x at hd hrl ⊢
  have hxl : x.length = (dgt z).length := by rw [len_tl, hd]
  have no : ∀ {H2 : Hp}, Ex H H2 → ntB z = false → Q (.bl false) H2 := fun e z' => by
    have := k _ e
    rw [z'] at this
    exact this
  walk_at "rd"
  refine ⟨_, rfl, sz_le (by omega), ?_⟩
  walk_at "rd"
  by_cases c1 : 1 ≤ x.length
  · refine ite_t (decide_eq_true (by omega)) ?_
    walk_at "rd"
    by_cases c2 : x.length ≤ 60
    · refine ite_f (by simp; omega) ?_
      walk_at "rd"
      refine ⟨_, rfl, x, rfl, ?_⟩
      have hsz : x.cps.size = (tl x).length := by show _ = x.cps.toList.length; simp
      refine r_lcM (n := x.cps.size) (k := 2) (walk_str (z := x)) (fun j => .bl (isD ((tl x).getD j 0))) (by have : x.cps.size = x.length := rfl; omega) (fun _ _ => trivial) (fun _ => rfl) ?_ ?_
      · rintro j y H0 H' hj e0 ⟨rfl, c, hc, rfl⟩
        refine ⟨Ex.refl _, fun H3 e3 R r => ?_⟩
        refine ⟨_, rfl, c, _, rfl, rfl, ?_⟩
        have e : (tl x).getD j 0 = c := by
          rw [List.getD_eq_getElem?_getD]
          show (x.cps.toList[j]?).getD 0 = c
          rw [Array.getElem?_toList, hc]
          rfl
        rw [e] at r
        exact r H3 (Ex.refl _)
      · intro p H' hp e hl'
        walk_at "rd"
        rw [hsz] at hl'
        refine bools_all hl' ?_
        rw [all_rangeN (tl x) 0 isD, ← hd]
        cases hall : (dgt z).all isD with
        | false =>
          refine ⟨_, rfl, ite_t rfl ?_⟩
          walk_at "rd"
          exact no e (by unfold ntB; rw [hall]; simp)
        | true =>
          refine ⟨_, rfl, ite_f rfl ?_⟩
          walk_at "rd"
          cases q : dgt z with
          | nil => rw [q] at hxl; simp at hxl; omega
          | cons c r =>
            have nt : ntB z = (!decide (c = 48) || decide (z = Str.ofString "0")) := by
              unfold ntB
              rw [hall, ← hxl, decide_eq_true c1, decide_eq_true c2, q]
              rfl
            refine ⟨x, 0, c, rfl, rfl, sz_le (by omega), ?_, ?_⟩
            · show atI (tl x) ((0 : Nat) : Int) = some c
              refine atI_nat ?_
              rw [← hd, q]
              rfl
            · walk_at "rd"
              refine r_ne rfl ?_
              walk_at "rd"
              have kz := k H' e
              rw [nt] at kz
              by_cases c0 : c = 48
              · subst c0
                refine ite_f (by decide +kernel) ?_
                walk_at "rd"
                refine r_eq rfl ?_
                have e0 : decide (V.str z = V.str (Str.ofString "0")) = decide (z = Str.ofString "0") := by
                  apply decide_eq_decide.mpr
                  exact ⟨fun h => by injection h, fun h => by rw [h]⟩
                rw [e0]
                simpa using kz
              · have e0 : (!decide (V.str (⟨#[c]⟩ : Str) = V.str (Str.ofString "0"))) = true := by
                  have : ¬ V.str (⟨#[c]⟩ : Str) = V.str (Str.ofString "0") := fun z => by
                    have z1 : (⟨#[c]⟩ : Str) = Str.ofString "0" := by injection z
                    have z2 : ([c] : List Nat) = [48] := congrArg tl z1
                    exact c0 (List.cons.inj z2).1
                  simp [this]
                refine ite_t e0 ?_
                simpa [c0] using kz
    · refine ite_t (by simp; omega) (ite_t rfl ?_)
      walk_at "rd"
      exact no (Ex.refl _) (by unfold ntB; rw [← hxl, decide_eq_false c2]; simp)
  · refine ite_f (by simp; omega) ?_
    refine ⟨_, rfl, ?_⟩
    refine ite_t rfl ?_
    refine ite_t rfl ?_
    walk_at "rd"
    exact no (Ex.refl _) (by unfold ntB; rw [← hxl, decide_eq_false c1]; simp)
/-! ### items -/
def spItems (K : PySem.W.Frag) : Sp := sp1 fun v H Q E => (∃ ys : List Str, v = .str (Txt.join (Str.ofString " ") ys) ∧ ys ≠ [] ∧ (∀ y ∈ ys, 32 ∉ tl y) ∧ (Txt.join (Str.ofString " ") ys).length ≤ 20000 ∧ ∀ p H', Ex H H' → H' p = some (.lst (ys.map V.str)) → Q (.ref p) H') ∨
  ((∃ t, TyX K H v t ∧ PySem.W.kitOne K t (.type "str") = some false) ∧ Stop K 0 H E)
theorem ok_items_of {P : Program} {w : World} {K : PySem.W.Frag} {mg : Str → Option Value} {base : Heap} (T : Txt K mg) : ∃ fd, FnOk P w K mg base (L2.CX P w) 3 (He.ga K "items_of") fd ["text"] (spItems K) ∧ Binds K fd ["text"] [] := by
  obtain ⟨fd, F⟩ := T.d_items_of
  obtain ⟨fd_BadText_init, F_BadText_init, B_BadText_init⟩ := ok_BadText_init (P := P) (w := w) (base := base) T
  refine ⟨fd, F.ok sc_items_of sp1_len (fun cdv A outer s H vs Q E hr h => ?_), F.bindsN fun _ _ _ _ _ _ us hl => match us, hl with | [_], _ => rfl⟩
  have hr_BadText_init : Room 2 _ := hr.mono (by decide)
  obtain ⟨v, rfl, h⟩ := sp1_is h
  refine ⟨_, (pss_cons (ps_if (pt_not (pt_val (pe_callB (cr_isi rfl) (by rfl) T.b_isinstance (by decide +kernel) (pa_cons (pv 0) (pa_cons (pe_bltn (v := .ty "str") (by rfl) T.b_str (by decide +kernel) rfl) pa_nil))))) (pss_one (ps_raise rfl (takes_of rfl rfl rfl rfl) (pmk_oex T.e_BadText.o T.e_BadText.i T.e_BadText.t F_BadText_init hr_BadText_init B_BadText_init .nil passL rfl T.g_BadText (pa_cons pe_int (pa_cons pe_int pa_nil))))) pss_nil)
      (pss_one (ps_ret (pe_split (pv 0) pe_str)))), ?_⟩
  walk_at "rd"
  rcases h with ⟨ys, rfl, hne, hf, hl, k⟩ | ⟨⟨t, ht, hk⟩, k⟩
  · refine ⟨_, _, _, _, true, rfl, .ty "str", .base (.str _), kit_ty (by decide +kernel), ?_⟩
    walk_at "rd"
    refine ite_f rfl ?_
    walk_at "rd"
    refine ⟨_, rfl, ⟨_, rfl⟩, ?_⟩
    refine ⟨_, _, rfl, rfl, rfl, sz_le (by omega), fun p hp => ?_⟩
    have e : Txt.split (Txt.join (Str.ofString " ") ys) (Str.ofString " ") = ys := split_join (y := Str.ofString " ") (s := 32) (S := []) rfl (by decide +kernel) hne hf
    rw [e]
    exact k p _ (Ex.new hp) upd_same
  · refine ⟨_, _, _, _, false, rfl, .ty "str", ht, hk, ?_⟩
    walk_at "rd"
    refine ite_t rfl ?_
    walk_at "rd"
    exact r_errB (n := 0) rfl rfl k
def spIntAt (K : PySem.W.Frag) : Sp := sp4 fun a b l m H Q E => ∃ (p : Addr) (ys : List Str) (j : Nat) (l' m' : Option Int), a = .ref p ∧ SqL K H p (ys.map V.str) ∧ b = .int (j : Nat) ∧ bnd l = some l' ∧ bnd m = some m' ∧ (∀ y ∈ ys, y.length ≤ 5000) ∧
  (ys.length ≤ j → Stop K j H E) ∧ ∀ z, ys[j]? = some z → (ntB z = false → Stop K j H E) ∧ (ntB z = true → ∃ i, z = nS i ∧ i.natAbs < 10 ^ 60 ∧ (inB (.int i) l' m' = true → ∀ H', Ex H H' → Q (.int i) H') ∧ (inB (.int i) l' m' = false → Stop K j H E))
theorem ok_integer_at {P : Program} {w : World} {K : PySem.W.Frag} {mg : Str → Option Value} {base : Heap} (T : Txt K mg) : ∃ fd, FnOk P w K mg base (L2.CX P w) 3 (He.ga K "integer_at") fd ["items", "at", "least", "most"] (spIntAt K) ∧ Binds K fd ["items", "at", "least", "most"] [] := by
  obtain ⟨fd, F⟩ := T.d_integer_at
  obtain ⟨fd_is_within, F_is_within, B_is_within⟩ := ok_is_within (P := P) (w := w) (base := base) T
  obtain ⟨fd_BadText_init, F_BadText_init, B_BadText_init⟩ := ok_BadText_init (P := P) (w := w) (base := base) T
  obtain ⟨fd_is_integer_text, F_is_integer_text, B_is_integer_text⟩ := ok_is_integer_text (P := P) (w := w) (base := base) T
  refine ⟨fd, F.ok sc_integer_at sp4_len (fun cdv A outer s H vs Q E hr h => ?_), F.bindsN fun _ _ _ _ _ _ us hl => match us, hl with | [_, _, _, _], _ => rfl⟩
  have hr_is_within : Room 2 _ := hr.mono (by decide)
  have hr_BadText_init : Room 2 _ := hr.mono (by decide)
  have hr_is_integer_text : Room 1 _ := hr.mono (by decide)
  obtain ⟨a, b, l, m, rfl, p, ys, j, l', m', rfl, hp, rfl, hl, hm, hy, k0, k⟩ := sp4_is h
  refine ⟨_, (pss_cons (ps_if (PW.pt (pw_or (pt_cmpR op_ge (pv 1) (pe_callB (kx_lens rfl) (by rfl) T.b_len PySem.boot_len (pa_cons (pv 0) pa_nil)) (nomark _)) (pw_or1 (pt_not (pt_val (pe_call F_is_integer_text hr_is_integer_text (by rfl) T.g_is_integer_text T.k_is_integer_text B_is_integer_text .nil passL (pa_cons (pe_ix (kx_ixl rfl) (pv 0) (pv 1) (fun _ _ => rfl)) pa_nil))))))) (pss_one (ps_raise rfl (takes_of rfl rfl rfl rfl) (pmk_oex T.e_BadText.o T.e_BadText.i T.e_BadText.t F_BadText_init hr_BadText_init B_BadText_init .nil passL rfl T.g_BadText (pa_cons pe_int (pa_cons (pv 1) pa_nil))))) pss_nil)
      (pss_cons (ps_set (i := 4) sc_integer_at.nd rfl (Or.inl rfl) (pe_callTy call_int_str (by rfl) T.b_int (by decide +kernel) (pa_cons (pe_ix (kx_ixl rfl) (pv 0) (pv 1) (fun _ _ => rfl)) pa_nil)))
      (pss_cons (ps_if (pt_not (pt_val (pe_call F_is_within hr_is_within (by rfl) T.g_is_within T.k_is_within B_is_within .nil passL (pa_cons (pv 4) (pa_cons (pv 2) (pa_cons (pv 3) pa_nil)))))) (pss_one (ps_raise rfl (takes_of rfl rfl rfl rfl) (pmk_oex T.e_BadText.o T.e_BadText.i T.e_BadText.t F_BadText_init hr_BadText_init B_BadText_init .nil passL rfl T.g_BadText (pa_cons pe_int (pa_cons (pv 1) pa_nil))))) pss_nil)
      (pss_one (ps_ret (pv 4)))))), ?_⟩
  walk_at "rd"
  refine ⟨_, _, rfl, .inl hp, ?_⟩
  walk_at "rd"
  rcases Nat.lt_or_ge j ys.length with c | c
  · have hz : ys[j]? = some ys[j] := by simp [c]
    generalize ys[j] = z at hz
    have hat : atI (ys.map V.str) ((j : Nat) : Int) = some (.str z) := atI_nat (by rw [List.getElem?_map, hz]; rfl)
    obtain ⟨k1, k2⟩ := k z hz
    refine ite_f (by simp; omega) ?_
    walk_at "rd"
    refine ⟨_, _, _, _, rfl, rfl, hp, hat, ?_⟩
    walk_at "rd"
    refine ⟨z, rfl, hy z (List.mem_of_getElem? hz), fun H' e => ?_⟩
    walk_at "rd"
    cases hn : ntB z with
    | false =>
      refine ite_t rfl ?_
      walk_at "rd"
      exact ⟨_, rfl, r_errB rfl rfl ((k1 hn).ex e)⟩
    | true =>
      obtain ⟨i, rfl, hi, q1, q2⟩ := k2 hn
      refine ite_f rfl ?_
      walk_at "rd"
      refine ⟨_, _, _, _, rfl, rfl, e.sql hp, hat, ?_⟩
      walk_at "rd"
      have hz := nS_len (k := 60) (by decide) hi
      refine ⟨_, i, rfl, nS_int (Nat.lt_of_lt_of_le hi (Nat.pow_le_pow_right (by decide) (by decide))), by omega, ?_⟩
      walk_at "rd"
      refine ⟨kn_int i, l', m', hl, hm, ?_⟩
      cases hb : inB (.int i) l' m' with
      | true =>
        refine ⟨_, rfl, ite_f rfl ?_⟩
        walk_at "rd"
        exact q1 hb H' e
      | false =>
        refine ⟨_, rfl, ite_t rfl ?_⟩
        walk_at "rd"
        exact ⟨_, rfl, r_errB rfl rfl ((q2 hb).ex e)⟩
  · refine ite_t (by simp; omega) ?_
    refine ite_t rfl ?_
    walk_at "rd"
    exact ⟨_, rfl, r_errB rfl rfl (k0 c)⟩
def spNeedEnd (K : PySem.W.Frag) : Sp := sp2 fun a b H Q E => ∃ (p : Addr) (xs : List V) (j : Nat), a = .ref p ∧ SqL K H p xs ∧ b = .int (j : Nat) ∧ (xs.length ≤ j → Q .non H) ∧ (j < xs.length → Stop K j H E)
theorem ok_need_end {P : Program} {w : World} {K : PySem.W.Frag} {mg : Str → Option Value} {base : Heap} (T : Txt K mg) : ∃ fd, FnOk P w K mg base (L2.CX P w) 3 (He.ga K "need_end") fd ["items", "many"] (spNeedEnd K) ∧ Binds K fd ["items", "many"] [] := by
  obtain ⟨fd, F⟩ := T.d_need_end
  obtain ⟨fd_BadText_init, F_BadText_init, B_BadText_init⟩ := ok_BadText_init (P := P) (w := w) (base := base) T
  refine ⟨fd, F.ok sc_need_end sp2_len (fun cdv A outer s H vs Q E hr h => ?_), F.bindsN fun _ _ _ _ _ _ us hl => match us, hl with | [_, _], _ => rfl⟩
  have hr_BadText_init : Room 2 _ := hr.mono (by decide)
  obtain ⟨a, b, rfl, p, xs, j, rfl, hp, rfl, k1, k2⟩ := sp2_is h
  refine ⟨_, (pss_one (ps_if (pt_cmpR op_gt (pe_callB (kx_lens rfl) (by rfl) T.b_len PySem.boot_len (pa_cons (pv 0) pa_nil)) (pv 1) (nomark _)) (pss_one (ps_raise rfl (takes_of rfl rfl rfl rfl) (pmk_oex T.e_BadText.o T.e_BadText.i T.e_BadText.t F_BadText_init hr_BadText_init B_BadText_init .nil passL rfl T.g_BadText (pa_cons pe_int (pa_cons (pv 1) pa_nil))))) pss_nil)), ?_⟩
  walk_at "rd"
  refine ⟨_, _, rfl, .inl hp, ?_⟩
  walk_at "rd"
  by_cases c : j < xs.length
  · refine ite_t (by simp; omega) ?_
    walk_at "rd"
    exact ⟨_, rfl, r_errB rfl rfl (k2 c)⟩
  · refine ite_f (by simp; omega) ?_
    walk_at "rd"
    exact k1 (by omega)
def spNeedItem (K : PySem.W.Frag) : Sp := sp3 fun a b w H Q E => ∃ (p : Addr) (ys : List Str) (j : Nat) (z : Str), a = .ref p ∧ SqL K H p (ys.map V.str) ∧ b = .int (j : Nat) ∧ w = .str z ∧ (ys[j]? = some z → Q .non H) ∧ (ys[j]? ≠ some z → Stop K j H E)
theorem ok_need_item {P : Program} {w : World} {K : PySem.W.Frag} {mg : Str → Option Value} {base : Heap} (T : Txt K mg) : ∃ fd, FnOk P w K mg base (L2.CX P w) 3 (He.ga K "need_item") fd ["items", "at", "word"] (spNeedItem K) ∧ Binds K fd ["items", "at", "word"] [] := by
  obtain ⟨fd, F⟩ := T.d_need_item
  obtain ⟨fd_BadText_init, F_BadText_init, B_BadText_init⟩ := ok_BadText_init (P := P) (w := w) (base := base) T
  refine ⟨fd, F.ok sc_need_item sp3_len (fun cdv A outer s H vs Q E hr h => ?_), F.bindsN fun _ _ _ _ _ _ us hl => match us, hl with | [_, _, _], _ => rfl⟩
  have hr_BadText_init : Room 2 _ := hr.mono (by decide)
  obtain ⟨a, b, w', rfl, p, ys, j, z, rfl, hp, rfl, rfl, k1, k2⟩ := sp3_is h
  refine ⟨_, (pss_one (ps_if (PW.pt (pw_or (pt_cmpR op_ge (pv 1) (pe_callB (kx_lens rfl) (by rfl) T.b_len PySem.boot_len (pa_cons (pv 0) pa_nil)) (nomark _)) (pw_or1 (pt_cmpR op_ne (pe_ix (kx_ixl rfl) (pv 0) (pv 1) (fun _ _ => rfl)) (pv 2) (nomark _))))) (pss_one (ps_raise rfl (takes_of rfl rfl rfl rfl) (pmk_oex T.e_BadText.o T.e_BadText.i T.e_BadText.t F_BadText_init hr_BadText_init B_BadText_init .nil passL rfl T.g_BadText (pa_cons pe_int (pa_cons (pv 1) pa_nil))))) pss_nil)), ?_⟩
  walk_at "rd"
  refine ⟨_, _, rfl, .inl hp, ?_⟩
  walk_at "rd"
  rcases Nat.lt_or_ge j ys.length with c | c
  · have hz : ys[j]? = some ys[j] := by simp [c]
    generalize ys[j] = y at hz
    have hat : atI (ys.map V.str) ((j : Nat) : Int) = some (.str y) := atI_nat (by rw [List.getElem?_map, hz]; rfl)
    refine ite_f (by simp; omega) ?_
    walk_at "rd"
    refine ⟨_, _, _, _, rfl, rfl, hp, hat, ?_⟩
    walk_at "rd"
    refine r_ne rfl ?_
    walk_at "rd"
    by_cases cz : y = z
    · subst cz
      refine ite_f (by simp) ?_
      walk_at "rd"
      exact k1 hz
    · refine ite_t (by simp [cz]) ?_
      walk_at "rd"
      exact ⟨_, rfl, r_errB rfl rfl (k2 (by rw [hz]; simpa using cz))⟩
  · refine ite_t (by simp; omega) ?_
    refine ite_t rfl ?_
    walk_at "rd"
    exact ⟨_, rfl, r_errB rfl rfl (k2 (by rw [List.getElem?_eq_none c]; simp))⟩
/-! ### writing -/
def spIntText (K : PySem.W.Frag) : Sp := sp1 fun v H Q _ => ∃ i, v = .int i ∧ i.natAbs < 10 ^ 60 ∧ ∀ H', Ex H H' → Q (.str (nS i)) H'
theorem ok_integer_text {P : Program} {w : World} {K : PySem.W.Frag} {mg : Str → Option Value} {base : Heap} (T : Txt K mg) : ∃ fd, FnOk P w K mg base (L2.CX P w) 1 (He.ga K "integer_text") fd ["number"] (spIntText K) ∧ Binds K fd ["number"] [] := by
  obtain ⟨fd, F⟩ := T.d_integer_text
  refine ⟨fd, F.ok sc_integer_text sp1_len (fun cdv A outer s H vs Q E hr h => ?_), F.bindsN fun _ _ _ _ _ _ us hl => match us, hl with | [_], _ => rfl⟩
  obtain ⟨v, rfl, i, rfl, hi, k⟩ := sp1_is h
  refine ⟨_, (pss_cons (ps_set (i := 1) sc_integer_text.nd rfl (Or.inl rfl) (pe_op op_powW pe_int pe_int))
      (pss_cons (ps_set (i := 2) sc_integer_text.nd rfl (Or.inl rfl) (pe_callB call_abs (by rfl) T.b_abs (by decide +kernel) (pa_cons (pv 0) pa_nil)))
      (pss_cons (ps_set (i := 3) sc_integer_text.nd rfl (Or.inl rfl) (pe_lst pa_nil))
      (pss_cons (ps_while (passes_of rfl) (pt_cmpR op_ge (pv 2) (pv 1) (nomark _)) (pss_cons (ps_set (i := 3) sc_integer_text.nd rfl (Or.inl rfl) (pe_op op_cat (pe_lst (pa_cons (pe_bm PySem.F.plainAttrs_str PySem.F.slot_str_zfill PySem.F.type_str_zfill mt_zfill (pe_callTy call_str_int (by rfl) T.b_str (by decide +kernel) (pa_cons (pe_op op_mod (pv 2) (pv 1)) pa_nil)) (pa_cons pe_int pa_nil)) pa_nil)) (pv 3)))
      (pss_one (ps_set (i := 2) sc_integer_text.nd rfl (Or.inl rfl) (pe_op op_fdivW (pv 2) (pv 1))))))
      (pss_cons (ps_set (i := 4) sc_integer_text.nd rfl (Or.inl rfl) (pe_ifExp (pt_cmpR op_lt (pv 0) pe_int (nomark _)) pe_str pe_str))
      (pss_one (ps_ret (pe_op op_add_str (pe_op op_add_str (pv 4) (pe_callTy call_str_int (by rfl) T.b_str (by decide +kernel) (pa_cons (pv 2) pa_nil))) (pe_join pe_str (pv 3)))))))))), ?_⟩
  walk_at "rd"
  refine r_I (show CPowW 10 64 from cpow_of (k := 64) (n := 4) (by decide) (by decide)) ?_
  walk_at "rd"
  refine r_newL (Nat.zero_le _) fun p H1 hp e1' h1 => ?_
  walk_at "rd"
  refine ⟨fun _ σ' H' => σ' = _ ∧ H' = H1, ⟨0, rfl, rfl⟩, fun m σ' H' hz => ?_⟩
  obtain ⟨z1, z2⟩ := hz
  rw [z1, z2]
  walk_at "rd"
  refine ite_f (by
    refine decide_eq_false ?_
    have : (10 : Int) ^ (64 : Int).toNat = 10 ^ 64 := rfl
    rw [this]
    have : ((10 : Nat) ^ 60 : Nat) < 10 ^ 64 := by decide
    split <;> omega) ?_
  walk_at "rd"
  refine r_pickS (i := Str.ofString "-") (j := Str.ofString "") (fun Q q => q) (fun Q q => q) ?_
  walk_at "rd"
  refine ⟨_, rfl, ?_, ?_⟩
  · have : (if i < 0 then -i else i).natAbs = i.natAbs := by split <;> omega
    rw [this]
    have h2 : i.natAbs < 2 ^ 1000 := Nat.lt_of_lt_of_le hi (by decide)
    by_cases z : i.natAbs = 0
    · rw [z]; decide +kernel
    · exact Nat.lt_of_lt_of_le ((Nat.log2_lt z).mpr h2) (by decide)
  have ea : ((if i < 0 then -i else i) : Int) = (i.natAbs : Int) := by split <;> omega
  have hz := nS_len (i := (i.natAbs : Int)) (k := 60) (by decide) (by simpa using hi)
  rw [ea]
  refine ⟨_, _, rfl, rfl, ?_, ?_⟩
  · have h5 : (nS (i.natAbs : Int)).length ≤ 61 := hz
    refine sz_le ?_
    have h6 : (if i < 0 then Str.ofString "-" else Str.ofString "").length ≤ 1 := by split <;> decide
    show _ + (nS (i.natAbs : Int)).length ≤ _
    omega
  walk_at "rd"
  refine ⟨⟨_, rfl⟩, _, rfl, ?_⟩
  refine ⟨_, p, [], rfl, rfl, .inl (SqL.of h1), by decide, ?_⟩
  refine ⟨_, _, rfl, rfl, ?_, ?_⟩
  · refine sz_le ?_
    have h6 : (if i < 0 then Str.ofString "-" else Str.ofString "").length ≤ 1 := by split <;> decide
    have e1 : (Txt.join (Str.ofString "") []).length = 0 := by decide
    rw [e1]
    show ((if i < 0 then Str.ofString "-" else Str.ofString "") ++ nS (i.natAbs : Int)).length + 0 ≤ _
    rw [len_tl, tl_append, List.length_append, ← len_tl, ← len_tl]
    omega
  · have e1 : ((if i < 0 then Str.ofString "-" else Str.ofString "") ++ Str.ofString (toString (i.natAbs : Int))) ++ Txt.join (Str.ofString "") [] = nS i := by
      refine str_ext ?_
      rw [tl_append, show tl (Txt.join (Str.ofString "") []) = [] from rfl, List.append_nil, nS_abs i]
      rfl
    rw [e1]
    exact k H1 e1'
/-- what the items tell: an integer, or none -/
def ItS (ys : List Str) (vs : List (Option Int)) : Prop := ys.length = vs.length ∧ (∀ y ∈ ys, y.length ≤ 5000) ∧ ∀ (j : Nat) (y : Str) (o : Option Int), ys[j]? = some y → vs[j]? = some o → ntB y = o.isSome ∧ ∀ i, o = some i → y = nS i ∧ i.natAbs < 10 ^ 60
theorem r_app {H : Hp} {Q : VK} {l : Addr} {xs : List V} {y : V} (h : H l = some (.lst xs)) (hl : xs.length < 50000) (q : Q .non (upd H l (.lst (xs ++ [y])))) : rAppend (.ref l) [y] H Q := ⟨l, xs, y, rfl, rfl, h, sz_lt (by omega), q⟩
theorem r_bm {K : PySem.W.Frag} {T : String} {r : V → List V → Hp → VK → Prop} {to : TE} {t : TA} {σ : L2.St} {H : Hp} {Q : VK} (q : to σ H fun x H1 => tyV K T x H1 ∧ t σ H1 fun xs H2 => r x xs H2 Q) : tBM K T r to t σ H Q := q
theorem tyL {K : PySem.W.Frag} {H : Hp} {p : Addr} {xs : List V} (h : H p = some (.lst xs)) : tyV K "list" (.ref p) H := .inl ⟨rfl, _, SqL.of h⟩

end K02
namespace K02
open PySem PySem.Spec PyProof.Rows L2 GS TL LamX
local macro_rules | `(tactic| walk_at "rd") => `(tactic| (repeat (first
  | with_reducible refine r_next ?_
  | with_reducible refine r_seq ?_
  | with_reducible refine r_ret ?_
  | with_reducible refine r_ifS ?_
  | with_reducible refine r_asg ?_
  | with_reducible refine r_drop ?_
  | with_reducible refine r_op ?_
  | with_reducible refine r_un ?_
  | with_reducible refine r_cbInt ?_
  | with_reducible refine r_cbAbs ?_
  | with_reducible refine r_cbLen ?_
  | with_reducible refine r_cbList ?_
  | with_reducible refine r_cbTup ?_
  | with_reducible refine r_iEnT ?_
  | with_reducible refine r_iEnL ?_
  | with_reducible refine r_zipA ?_
  | with_reducible refine r_zipX ?_
  | with_reducible refine r_augS ?_
  | with_reducible refine r_cb ?_
  | with_reducible refine r_call ?_
  | with_reducible refine r_make ?_
  | with_reducible refine r_callN0 ?_
  | with_reducible refine r_makeK0 ?_
  | with_reducible refine r_makeS ?_
  | with_reducible refine r_callS ?_
  | with_reducible refine r_cons ?_
  | with_reducible refine r_nil ?_
  | with_reducible refine r_test ?_
  | with_reducible refine r_B ?_
  | with_reducible refine r_and ?_
  | with_reducible refine r_or ?_
  | with_reducible refine r_not ?_
  | with_reducible refine r_andV ?_
  | with_reducible refine r_orV ?_
  | with_reducible refine r_notV ?_
  | with_reducible refine r_if ?_
  | with_reducible refine r_tup ?_
  | with_reducible refine r_lst ?_
  | with_reducible refine r_c ?_
  | with_reducible refine r_lc ?_
  | with_reducible refine r_chain ?_
  | with_reducible refine r_iT ?_
  | with_reducible refine r_iL ?_
  | with_reducible refine r_iR1 ?_
  | with_reducible refine r_iR2 ?_
  | with_reducible refine r_iR3 ?_
  | with_reducible refine r_asgG ?_
  | with_reducible refine r_gSub ?_
  | with_reducible refine r_for ?_
  | with_reducible refine r_smeth ?_
  | with_reducible refine r_par ?_
  | with_reducible refine r_parK ?_
  | with_reducible refine r_gCons ?_
  | with_reducible refine r_gNil ?_
  | with_reducible refine r_gName ?_
  | with_reducible refine r_intI ?_
  | with_reducible refine r_intB ?_
  | with_reducible refine r_absI ?_
  | with_reducible refine r_k ?_
  | with_reducible refine r_kV ?_
  | ((with_reducible show tVar _ _ _ _); refine r_var3 ?_ (by rfl))
  | with_reducible refine r_I0 ?_
  | with_reducible refine r_U ?_
  | with_reducible refine r_eqI ?_
  | with_reducible refine r_neI ?_
  | with_reducible refine r_F ?_
  | dsimp only)))
local macro_rules | `(tactic| walk_at "rx") => `(tactic| (repeat (first
  | with_reducible refine r_next ?_
  | with_reducible refine r_ret ?_
  | with_reducible refine r_ifS ?_
  | with_reducible refine r_asg ?_
  | with_reducible refine r_drop ?_
  | with_reducible refine r_op ?_
  | with_reducible refine r_un ?_
  | with_reducible refine r_cbInt ?_
  | with_reducible refine r_cbAbs ?_
  | with_reducible refine r_cbLen ?_
  | with_reducible refine r_cbList ?_
  | with_reducible refine r_cbTup ?_
  | with_reducible refine r_iEnT ?_
  | with_reducible refine r_iEnL ?_
  | with_reducible refine r_zipA ?_
  | with_reducible refine r_zipX ?_
  | with_reducible refine r_augS ?_
  | with_reducible refine r_cb ?_
  | with_reducible refine r_call ?_
  | with_reducible refine r_make ?_
  | with_reducible refine r_callN0 ?_
  | with_reducible refine r_makeK0 ?_
  | with_reducible refine r_makeS ?_
  | with_reducible refine r_callS ?_
  | with_reducible refine r_cons ?_
  | with_reducible refine r_nil ?_
  | with_reducible refine r_test ?_
  | with_reducible refine r_B ?_
  | with_reducible refine r_and ?_
  | with_reducible refine r_or ?_
  | with_reducible refine r_not ?_
  | with_reducible refine r_andV ?_
  | with_reducible refine r_orV ?_
  | with_reducible refine r_notV ?_
  | with_reducible refine r_if ?_
  | with_reducible refine r_tup ?_
  | with_reducible refine r_lst ?_
  | with_reducible refine r_c ?_
  | with_reducible refine r_lc ?_
  | with_reducible refine r_chain ?_
  | with_reducible refine r_iT ?_
  | with_reducible refine r_iL ?_
  | with_reducible refine r_iR1 ?_
  | with_reducible refine r_iR2 ?_
  | with_reducible refine r_iR3 ?_
  | with_reducible refine r_asgG ?_
  | with_reducible refine r_gSub ?_
  | with_reducible refine r_for ?_
  | with_reducible refine r_smeth ?_
  | with_reducible refine r_par ?_
  | with_reducible refine r_parK ?_
  | with_reducible refine r_gCons ?_
  | with_reducible refine r_gNil ?_
  | with_reducible refine r_gName ?_
  | with_reducible refine r_intI ?_
  | with_reducible refine r_intB ?_
  | with_reducible refine r_absI ?_
  | with_reducible refine r_k ?_
  | with_reducible refine r_kV ?_
  | ((with_reducible show tVar _ _ _ _); refine r_var3 ?_ (by rfl))
  | with_reducible refine r_I0 ?_
  | with_reducible refine r_U ?_
  | with_reducible refine r_eqI ?_
  | with_reducible refine r_neI ?_
  | with_reducible refine r_F ?_
  | dsimp only)))
/-! ### items and what they tell -/
theorem ntB_nS {i : Int} (h : i.natAbs < 10 ^ 60) : ntB (nS i) = true := by
  have e : dgt (nS i) = dg i := rp_nS i
  have l1 : 1 ≤ (dg i).length := List.length_pos_iff.mpr (dg_ne i)
  have l2 := dg_len (k := 60) (by decide) h
  have d := dg_digits i
  have ha : (dg i).all isD = true := List.all_eq_true.mpr fun c hc => decide_eq_true (iD_mem (d c hc))
  unfold ntB
  rw [e, ha, decide_eq_true l1, decide_eq_true l2]
  by_cases z : i = 0
  · subst z
    decide +kernel
  · have hh := numL_head (n := i.natAbs) (by omega)
    have : (dg i).headD 48 ≠ 48 := by
      unfold dg at *
      cases q : numL i.natAbs with
      | nil => exact absurd q (numL_ne _)
      | cons a r =>
        rw [q] at hh
        intro z
        exact hh (by show some a = _; rw [show a = 48 from z])
    rw [decide_eq_false this]
    rfl
/-- what an item tells -/
def OkI (y : Str) (o : Option Int) : Prop := (y.length ≤ 5000 ∧ ∀ c ∈ tl y, c < 1114112) ∧ 32 ∉ tl y ∧ ntB y = o.isSome ∧ ∀ i, o = some i → y = nS i ∧ i.natAbs < 10 ^ 60
theorem nS_cp (i : Int) : ∀ c ∈ tl (nS i), c < 1114112 := by
  have d := dg_digits i
  by_cases c : 0 ≤ i
  · rw [tl_nS_nn c]
    exact fun c hc => by have := d c hc; omega
  · rw [tl_nS_neg (by omega)]
    intro c hc
    rcases List.mem_cons.mp hc with rfl | hc
    · decide
    · have := d c hc; omega
theorem okI_nS {i : Int} (h : i.natAbs < 10 ^ 60) : OkI (nS i) (some i) := by
  refine ⟨⟨?_, nS_cp i⟩, nS_free (by decide) (by decide), ntB_nS h, fun j e => ?_⟩
  · have := nS_len (k := 60) (by decide) h
    omega
  · cases e
    exact ⟨rfl, h⟩
theorem okI_no {y : Str} (h : (y.length ≤ 5000 ∧ ∀ c ∈ tl y, c < 1114112) ∧ 32 ∉ tl y ∧ ntB y = false) : OkI y none := ⟨h.1, h.2.1, h.2.2, fun i e => by cases e⟩
/-- items and what they tell -/
inductive Its : List Str → List (Option Int) → Prop
  | nil : Its [] []
  | cons {y : Str} {o : Option Int} {ys : List Str} {vs : List (Option Int)} : OkI y o → Its ys vs → Its (y :: ys) (o :: vs)
theorem Its.its : ∀ {ys : List Str} {vs : List (Option Int)}, Its ys vs → ItS ys vs
  | _, _, .nil => ⟨rfl, (fun _ h => nomatch h), fun j y o h => by simp at h⟩
  | _, _, .cons (ys := ys) (vs := vs) h t => by
    obtain ⟨t1, t2, t3⟩ := t.its
    refine ⟨by simp [t1], fun y hy => ?_, fun j y o h1 h2 => ?_⟩
    · rcases List.mem_cons.mp hy with rfl | hy
      · have := h.1.1; omega
      · exact t2 y hy
    · cases j with
      | zero => cases h1; cases h2; exact h.2.2
      | succ j => exact t3 j y o (by simpa using h1) (by simpa using h2)
theorem Its.free : ∀ {ys : List Str} {vs : List (Option Int)}, Its ys vs → ∀ y ∈ ys, 32 ∉ tl y ∧ y.length ≤ 5000 ∧ ∀ c ∈ tl y, c < 1114112
  | _, _, .nil, _, h => nomatch h
  | _, _, .cons h t, y, hy => by
    rcases List.mem_cons.mp hy with rfl | hy
    · exact ⟨h.2.1, h.1⟩
    · exact t.free y hy
theorem Its.of : ∀ {ys : List Str}, (∀ y ∈ ys, ∃ o, OkI y o) → ∃ vs, Its ys vs
  | [], _ => ⟨[], .nil⟩
  | y :: ys, h => by
    obtain ⟨o, ho⟩ := h y List.mem_cons_self
    obtain ⟨vs, hv⟩ := Its.of fun z m => h z (List.mem_cons_of_mem _ m)
    exact ⟨o :: vs, .cons ho hv⟩
theorem Its.some : ∀ {ys : List Str} {vs : List (Option Int)}, Its ys vs → ∀ y ∈ ys, ∃ o, OkI y o
  | _, _, .cons h t, y, hy => by
    rcases List.mem_cons.mp hy with rfl | hy
    · exact ⟨_, h⟩
    · exact t.some y hy
theorem its_ints : ∀ {cs : List Int}, (∀ c ∈ cs, c.natAbs < 10 ^ 60) → Its (cs.map nS) (cs.map Option.some)
  | [], _ => .nil
  | c :: cs, h => .cons (okI_nS (h c List.mem_cons_self)) (its_ints fun d m => h d (List.mem_cons_of_mem _ m))
theorem sum_len {n : Nat} : ∀ l : List Str, (∀ y ∈ l, y.length ≤ n) → (l.map fun x => x.length).sum ≤ l.length * n
  | [], _ => by simp
  | y :: l, h => by
    rw [List.map_cons, List.sum_cons, List.length_cons, Nat.succ_mul]
    have := sum_len l fun y m => h y (List.mem_cons_of_mem _ m)
    have := h y List.mem_cons_self
    omega
/-- all figures of all items -/
def figs (ys : List Str) : Nat := (ys.map fun x => x.length).sum
theorem join_len : ∀ {ys : List Str}, figs ys + ys.length ≤ 20000 → (Txt.join (Str.ofString " ") ys).length ≤ 20000
  | [], _ => by decide
  | y :: ys, h => by
    show (Builtin.Str.glued (Str.ofString " ") (y :: ys)).length ≤ _
    rw [StrLaws.glued_eq_join, len_join_cons]
    have e : (Str.ofString " ").length = 1 := rfl
    rw [e]
    have : figs (y :: ys) = ((y :: ys).map fun x => x.length).sum := rfl
    simp only [List.length_cons] at *
    omega
theorem figs_app (a b : List Str) : figs (a ++ b) = figs a + figs b := by simp [figs]
theorem figs_take (a : List Str) (k : Nat) : figs (a.take k) + figs (a.drop k) = figs a := by rw [← figs_app, List.take_append_drop]
/-- the items of a text, and what each tells -/
structure Tx (ys : List Str) (vs : List (Option Int)) : Prop where
  ne : ys ≠ []
  its : Its ys vs
  many : ys.length ≤ 200
  fg : figs ys + ys.length ≤ 20000
theorem Tx.len {ys : List Str} {vs : List (Option Int)} (h : Tx ys vs) : (Txt.join (Str.ofString " ") ys).length ≤ 20000 := join_len h.fg
theorem Tx.S {ys : List Str} {vs : List (Option Int)} (h : Tx ys vs) : ItS ys vs := h.its.its
theorem Tx.free {ys : List Str} {vs : List (Option Int)} (h : Tx ys vs) : ∀ y ∈ ys, 32 ∉ tl y := fun y hy => (h.its.free y hy).1
theorem Tx.vlen {ys : List Str} {vs : List (Option Int)} (h : Tx ys vs) : ys.length = vs.length := h.S.1
theorem ib_in (i : Int) (l m : Option Int) : inB (.int i) l m = GX.ib i l m := by
  cases l <;> cases m <;> rfl
/-- an integer at a place -/
theorem r_intAt {K : PySem.W.Frag} {H : Hp} {Q : VK} {E : XK} {p : Addr} {ys : List Str} {vs : List (Option Int)} {j : Int} {n : Nat} {l m : V} {l' m' : Option Int} (hp : H p = some (.lst (ys.map V.str))) (hi : ItS ys vs) (hj : j = (n : Int)) (hl : bnd l = some l') (hm : bnd m = some m')
    (k1 : GX.okJ vs n l' m' = false → Stop K n H E) (k2 : GX.okJ vs n l' m' = true → ∀ H', Ex H H' → Q (.int (GX.vl vs n)) H') : spIntAt K ([.ref p, .int j, l, m] ++ []) H Q E := by
  subst hj
  have no : (∀ i, vs[n]? = some (some i) → GX.ib i l' m' = false) → Stop K n H E := fun h => k1 (by
    cases q : GX.okJ vs n l' m' with
    | false => rfl
    | true =>
      obtain ⟨h1, h2⟩ := GX.okJ_is q
      rw [h _ h1] at h2
      cases h2)
  refine ⟨p, ys, n, l', m', rfl, SqL.of hp, rfl, hl, hm, hi.2.1, fun hge => no fun i hi' => ?_, fun z hz => ?_⟩
  · rw [List.getElem?_eq_none (by rw [← hi.1]; exact hge)] at hi'
    cases hi'
  · have hlt : n < vs.length := by rw [← hi.1]; exact (List.getElem?_eq_some_iff.mp hz).1
    have hv : vs[n]? = some vs[n] := by simp [hlt]
    generalize vs[n] = o at hv
    obtain ⟨hb, hval⟩ := hi.2.2 _ z o hz hv
    refine ⟨fun hf => no fun i hi' => ?_, fun ht => ?_⟩
    · rw [hv] at hi'
      cases hi'
      rw [hb] at hf
      cases hf
    · cases o with
      | none => rw [hb] at ht; cases ht
      | some c =>
        obtain ⟨h1, h2⟩ := hval c rfl
        have ev : GX.vl vs n = c := by unfold GX.vl; rw [List.getD_eq_getElem?_getD, hv]; rfl
        refine ⟨c, h1, h2, fun hin H' e => ?_, fun hin => no fun i hi' => ?_⟩
        · rw [← ev]
          refine k2 ?_ H' e
          unfold GX.okJ
          rw [List.getD_eq_getElem?_getD, hv]
          show GX.ib c l' m' = true
          rw [← ib_in]
          exact hin
        · rw [hv] at hi'
          cases hi'
          rw [← ib_in]
          exact hin
/-- each item that tells an integer is its text -/
theorem its_at {ys : List Str} {vs : List (Option Int)} (hi : ItS ys vs) {j : Nat} {l m : Option Int} (h : GX.okJ vs j l m = true) : ys[j]? = some (nS (GX.vl vs j)) ∧ (GX.vl vs j).natAbs < 10 ^ 60 := by
  obtain ⟨h1, _⟩ := GX.okJ_is h
  have lt := GX.okJ_lt h
  have hy : ys[j]? = some (ys[j]'(by rw [hi.1]; exact lt)) := by simp
  obtain ⟨_, hv⟩ := hi.2.2 j _ _ hy h1
  obtain ⟨e1, e2⟩ := hv _ rfl
  rw [hy, e1]
  exact ⟨rfl, e2⟩

end K02
namespace K02
open PySem PySem.Spec PyProof.Rows L2 GS TL LamX
local macro_rules | `(tactic| walk_at "rd") => `(tactic| (repeat (first
  | with_reducible refine r_next ?_
  | with_reducible refine r_seq ?_
  | with_reducible refine r_ret ?_
  | with_reducible refine r_ifS ?_
  | with_reducible refine r_asg ?_
  | with_reducible refine r_drop ?_
  | with_reducible refine r_op ?_
  | with_reducible refine r_un ?_
  | with_reducible refine r_cbInt ?_
  | with_reducible refine r_cbAbs ?_
  | with_reducible refine r_cbLen ?_
  | with_reducible refine r_cbList ?_
  | with_reducible refine r_cbTup ?_
  | with_reducible refine r_iEnT ?_
  | with_reducible refine r_iEnL ?_
  | with_reducible refine r_zipA ?_
  | with_reducible refine r_zipX ?_
  | with_reducible refine r_augS ?_
  | with_reducible refine r_cb ?_
  | with_reducible refine r_call ?_
  | with_reducible refine r_make ?_
  | with_reducible refine r_callN0 ?_
  | with_reducible refine r_makeK0 ?_
  | with_reducible refine r_makeS ?_
  | with_reducible refine r_callS ?_
  | with_reducible refine r_cons ?_
  | with_reducible refine r_nil ?_
  | with_reducible refine r_test ?_
  | with_reducible refine r_B ?_
  | with_reducible refine r_and ?_
  | with_reducible refine r_or ?_
  | with_reducible refine r_not ?_
  | with_reducible refine r_andV ?_
  | with_reducible refine r_orV ?_
  | with_reducible refine r_notV ?_
  | with_reducible refine r_if ?_
  | with_reducible refine r_tup ?_
  | with_reducible refine r_lst ?_
  | with_reducible refine r_c ?_
  | with_reducible refine r_lc ?_
  | with_reducible refine r_chain ?_
  | with_reducible refine r_iT ?_
  | with_reducible refine r_iL ?_
  | with_reducible refine r_iR1 ?_
  | with_reducible refine r_iR2 ?_
  | with_reducible refine r_iR3 ?_
  | with_reducible refine r_asgG ?_
  | with_reducible refine r_gSub ?_
  | with_reducible refine r_for ?_
  | with_reducible refine r_smeth ?_
  | with_reducible refine r_par ?_
  | with_reducible refine r_parK ?_
  | with_reducible refine r_gCons ?_
  | with_reducible refine r_gNil ?_
  | with_reducible refine r_gName ?_
  | with_reducible refine r_intI ?_
  | with_reducible refine r_intB ?_
  | with_reducible refine r_absI ?_
  | with_reducible refine r_k ?_
  | with_reducible refine r_kV ?_
  | ((with_reducible show tVar _ _ _ _); refine r_var3 ?_ (by rfl))
  | with_reducible refine r_I0 ?_
  | with_reducible refine r_U ?_
  | with_reducible refine r_eqI ?_
  | with_reducible refine r_neI ?_
  | dsimp only)))
local macro_rules | `(tactic| walk_at "rx") => `(tactic| (repeat (first
  | with_reducible refine r_next ?_
  | with_reducible refine r_ret ?_
  | with_reducible refine r_ifS ?_
  | with_reducible refine r_asg ?_
  | with_reducible refine r_drop ?_
  | with_reducible refine r_op ?_
  | with_reducible refine r_un ?_
  | with_reducible refine r_cbInt ?_
  | with_reducible refine r_cbAbs ?_
  | with_reducible refine r_cbLen ?_
  | with_reducible refine r_cbList ?_
  | with_reducible refine r_cbTup ?_
  | with_reducible refine r_iEnT ?_
  | with_reducible refine r_iEnL ?_
  | with_reducible refine r_zipA ?_
  | with_reducible refine r_zipX ?_
  | with_reducible refine r_augS ?_
  | with_reducible refine r_cb ?_
  | with_reducible refine r_call ?_
  | with_reducible refine r_make ?_
  | with_reducible refine r_callN0 ?_
  | with_reducible refine r_makeK0 ?_
  | with_reducible refine r_makeS ?_
  | with_reducible refine r_callS ?_
  | with_reducible refine r_cons ?_
  | with_reducible refine r_nil ?_
  | with_reducible refine r_test ?_
  | with_reducible refine r_B ?_
  | with_reducible refine r_and ?_
  | with_reducible refine r_or ?_
  | with_reducible refine r_not ?_
  | with_reducible refine r_andV ?_
  | with_reducible refine r_orV ?_
  | with_reducible refine r_notV ?_
  | with_reducible refine r_if ?_
  | with_reducible refine r_tup ?_
  | with_reducible refine r_lst ?_
  | with_reducible refine r_c ?_
  | with_reducible refine r_lc ?_
  | with_reducible refine r_chain ?_
  | with_reducible refine r_iT ?_
  | with_reducible refine r_iL ?_
  | with_reducible refine r_iR1 ?_
  | with_reducible refine r_iR2 ?_
  | with_reducible refine r_iR3 ?_
  | with_reducible refine r_asgG ?_
  | with_reducible refine r_gSub ?_
  | with_reducible refine r_for ?_
  | with_reducible refine r_smeth ?_
  | with_reducible refine r_par ?_
  | with_reducible refine r_parK ?_
  | with_reducible refine r_gCons ?_
  | with_reducible refine r_gNil ?_
  | with_reducible refine r_gName ?_
  | with_reducible refine r_intI ?_
  | with_reducible refine r_intB ?_
  | with_reducible refine r_absI ?_
  | with_reducible refine r_k ?_
  | with_reducible refine r_kV ?_
  | ((with_reducible show tVar _ _ _ _); refine r_var3 ?_ (by rfl))
  | with_reducible refine r_I0 ?_
  | with_reducible refine r_U ?_
  | with_reducible refine r_eqI ?_
  | with_reducible refine r_neI ?_
  | dsimp only)))
/-! ### texts of values, == -/
theorem Bd.inst {K : PySem.W.Frag} {H : Hp} {a : Addr} {w p u : Int} (h : Bd K H a w p u) : ∃ dx fs, H a = some (.ins (He.ga K "Bound") dx fs) := let ⟨_, dx, h⟩ := h; ⟨dx, _, h⟩
theorem Pl.inst {K : PySem.W.Frag} {H : Hp} {a : Addr} {ns : List Int} (h : Pl K H a ns) : ∃ dx fs, H a = some (.ins (He.ga K "Poly") dx fs) := let ⟨_, _, _, dx, _, h, _⟩ := h; ⟨dx, _, h⟩
theorem Wb.inst {K : PySem.W.Frag} {H : Hp} {a : Addr} {n : Int} {ps : List (Int × Int)} (h : Wb K H a n ps) : ∃ dx fs, H a = some (.ins (He.ga K "Web") dx fs) := let ⟨dx, _, _, _, _, h, _⟩ := h; ⟨dx, _, h⟩
section
variable {K : PySem.W.Frag} {mg : Str → Option Value} {H : Hp} {σ : L2.St} {n : Nat} {a : Addr} {ns : List Int} {w p u : Int} {Q : VK}
theorem r_fn (T : Txt K mg) (h : Pl K H a ns) (q : ∀ t, H t = some (.tup (ns.map V.int)) → Q (.ref t) H) (hs : σ[n]? = some (some (.ref a)) := by rfl) : tFld K (tVar n) "numbers" σ H Q := by
  obtain ⟨_, _, _, dx, t, h, ht⟩ := h
  exact ⟨_, hs, a, _, dx, _, _, rfl, h, T.cl_Poly, T.na_Poly_numbers, rfl, q t ht⟩
theorem r_fd (T : Txt K mg) (h : Pl K H a ns) (q : Q (.int ((ns.length : Int) - 1)) H) (hs : σ[n]? = some (some (.ref a)) := by rfl) : tFld K (tVar n) "degree" σ H Q := by
  obtain ⟨_, _, _, dx, t, h, ht⟩ := h
  exact ⟨_, hs, a, _, dx, _, _, rfl, h, T.cl_Poly, T.na_Poly_degree, rfl, q⟩
theorem r_bw (T : Txt K mg) (h : Bd K H a w p u) (q : Q (.int w) H) (hs : σ[n]? = some (some (.ref a)) := by rfl) : tFld K (tVar n) "whole" σ H Q := by
  obtain ⟨_, dx, h⟩ := h
  exact ⟨_, hs, a, _, dx, _, _, rfl, h, T.cl_Bound, T.na_Bound_whole, rfl, q⟩
theorem r_bp (T : Txt K mg) (h : Bd K H a w p u) (q : Q (.int p) H) (hs : σ[n]? = some (some (.ref a)) := by rfl) : tFld K (tVar n) "part" σ H Q := by
  obtain ⟨_, dx, h⟩ := h
  exact ⟨_, hs, a, _, dx, _, _, rfl, h, T.cl_Bound, T.na_Bound_part, rfl, q⟩
theorem r_bu (T : Txt K mg) (h : Bd K H a w p u) (q : Q (.int u) H) (hs : σ[n]? = some (some (.ref a)) := by rfl) : tFld K (tVar n) "under" σ H Q := by
  obtain ⟨_, dx, h⟩ := h
  exact ⟨_, hs, a, _, dx, _, _, rfl, h, T.cl_Bound, T.na_Bound_under, rfl, q⟩
theorem r_wp {ps : List (Int × Int)} {m : Int} (T : Txt K mg) (h : Wb K H a m ps) (q : Q (.int m) H) (hs : σ[n]? = some (some (.ref a)) := by rfl) : tFld K (tVar n) "places" σ H Q := by
  obtain ⟨dx, t, ts, u, mm, h, ht, hp⟩ := h
  exact ⟨_, hs, a, _, dx, _, _, rfl, h, T.cl_Web, T.na_Web_places, rfl, q⟩
theorem r_wt {ps : List (Int × Int)} {m : Int} (T : Txt K mg) (h : Wb K H a m ps) (q : ∀ t ts, H t = some (.tup (ts.map V.ref)) → TP H ts ps → Q (.ref t) H) (hs : σ[n]? = some (some (.ref a)) := by rfl) : tFld K (tVar n) "ties" σ H Q := by
  obtain ⟨dx, t, ts, u, mm, h, ht, hp⟩ := h
  exact ⟨_, hs, a, _, dx, _, _, rfl, h, T.cl_Web, T.na_Web_ties, rfl, q t ts ht hp⟩
end
def spBEq (K : PySem.W.Frag) : Sp := sp2 fun v o H Q E => ∃ a b w p u, v = .ref a ∧ o = .ref b ∧ Bd K H a w p u ∧ Bd K H b w p u ∧ Q (.bl true) H
theorem ok_Bound_eq {P : Program} {w : World} {K : PySem.W.Frag} {mg : Str → Option Value} {base : Heap} (T : Txt K mg) : ∃ fd, FnOk P w K mg base (L2.CX P w) 1 (He.ma K (He.ga K "Bound") "__eq__") fd ["self", "other"] (spBEq K) ∧ Binds K fd ["self", "other"] [] := by
  obtain ⟨fd, F⟩ := T.d_Bound_eq
  refine ⟨fd, F.ok sc_Bound_eq sp2_len (fun cdv A outer s H vs Q E hr h => ?_), F.bindsN fun _ _ _ _ _ _ us hl => match us, hl with | [_, _], _ => rfl⟩
  obtain ⟨v, o, rfl, a, b, w0, p0, u0, rfl, rfl, ha, hb, k⟩ := sp2_is h
  refine ⟨_, (pss_cons (ps_if (pt_not (pt_val (pe_callB (cr_isi rfl) (by rfl) T.b_isinstance (by decide +kernel) (pa_cons (pv 1) (pa_cons (pe_glob (v := .ref (He.ga K "Bound")) rfl T.g_Bound rfl) pa_nil))))) (pss_one (ps_ret pe_bl)) pss_nil)
      (pss_one (ps_ret (pe_and (pe_cmpR op_eq (kx_fld rfl (pv 0) rfl) (kx_fld rfl (pv 1) rfl) (nomark _)) (pe_and (pe_cmpR op_eq (kx_fld rfl (pv 0) rfl) (kx_fld rfl (pv 1) rfl) (nomark _)) (pe_one (pe_cmpR op_eq (kx_fld rfl (pv 0) rfl) (kx_fld rfl (pv 1) rfl) (nomark _)))))))), ?_⟩
  obtain ⟨dx, fs, hi⟩ := hb.inst
  walk_at "rd"
  refine ⟨_, _, _, _, true, rfl, .own _, ty_own T (by decide) hi, T.cc_Bound.me, ?_⟩
  walk_at "rd"
  refine ite_f rfl ?_
  walk_at "rd"
  refine r_bw T ha (r_bw T hb ?_)
  walk_at "rd"
  refine ite_t (by simp) ?_
  walk_at "rd"
  refine r_bp T ha (r_bp T hb ?_)
  walk_at "rd"
  refine ite_t (by simp) ?_
  walk_at "rd"
  refine r_bu T ha (r_bu T hb ?_)
  walk_at "rd"
  rw [decide_eq_true rfl]
  exact k
def spPEq (K : PySem.W.Frag) : Sp := sp2 fun v o H Q E => ∃ a b ns, v = .ref a ∧ o = .ref b ∧ Pl K H a ns ∧ Pl K H b ns ∧ Q (.bl true) H
theorem ok_Poly_eq {P : Program} {w : World} {K : PySem.W.Frag} {mg : Str → Option Value} {base : Heap} (T : Txt K mg) : ∃ fd, FnOk P w K mg base (L2.CX P w) 1 (He.ma K (He.ga K "Poly") "__eq__") fd ["self", "other"] (spPEq K) ∧ Binds K fd ["self", "other"] [] := by
  obtain ⟨fd, F⟩ := T.d_Poly_eq
  refine ⟨fd, F.ok sc_Poly_eq sp2_len (fun cdv A outer s H vs Q E hr h => ?_), F.bindsN fun _ _ _ _ _ _ us hl => match us, hl with | [_, _], _ => rfl⟩
  obtain ⟨v, o, rfl, a, b, ns, rfl, rfl, ha, hb, k⟩ := sp2_is h
  refine ⟨_, (pss_one (ps_ret (pe_and (pe_callB (cr_isi rfl) (by rfl) T.b_isinstance (by decide +kernel) (pa_cons (pv 1) (pa_cons (pe_glob (v := .ref (He.ga K "Poly")) rfl T.g_Poly rfl) pa_nil))) (pe_one (pe_cmpR (op_eqD hr.units) (kx_fld rfl (pv 0) rfl) (kx_fld rfl (pv 1) rfl) (nomark _)))))), ?_⟩
  obtain ⟨dx, fs, hi⟩ := hb.inst
  walk_at "rd"
  refine ⟨_, _, _, _, true, rfl, .own _, ty_own T (by decide) hi, T.cc_Poly.me, ?_⟩
  walk_at "rd"
  refine ite_t rfl ?_
  walk_at "rd"
  refine r_fn T ha fun t1 h1 => ?_
  refine r_fn T hb fun t2 h2 => ?_
  refine r_eqInts h1 h2 ?_
  rw [decide_eq_true rfl]
  exact k
def tS (ys : List Str) : Str := Txt.join (Str.ofString " ") ys
def bI (w p u : Int) : List Str := [nS w, nS p, nS u]
def spBStr (K : PySem.W.Frag) : Sp := sp1 fun v H Q _ => ∃ a w p u, v = .ref a ∧ Bd K H a w p u ∧ w.natAbs < 10 ^ 60 ∧ p.natAbs < 10 ^ 60 ∧ u.natAbs < 10 ^ 60 ∧ ∀ H', Ex H H' → Q (.str (tS (bI w p u))) H'
theorem nS_map_len {ns : List Int} (h : ∀ c ∈ ns, c.natAbs < 10 ^ 60) : ((ns.map nS).map fun x => x.length).sum ≤ ns.length * 61 := by
  have := sum_len (n := 61) (ns.map nS) fun y hy => by
    obtain ⟨c, hc, rfl⟩ := List.mem_map.mp hy
    exact nS_len (k := 60) (by decide) (h c hc)
  rw [List.length_map] at this
  exact this
theorem range_nS (ns : List Int) : ((List.range ns.length).map fun j => V.str (nS (ns.getD j 0))) = (ns.map nS).map V.str := by
  refine List.ext_getElem (by simp) fun i h1 h2 => ?_
  simp at h1
  simp [h1]
theorem ok_Bound_str {P : Program} {w : World} {K : PySem.W.Frag} {mg : Str → Option Value} {base : Heap} (T : Txt K mg) : ∃ fd, FnOk P w K mg base (L2.CX P w) 2 (He.ma K (He.ga K "Bound") "__str__") fd ["self"] (spBStr K) ∧ Binds K fd ["self"] [] := by
  obtain ⟨fd, F⟩ := T.d_Bound_str
  obtain ⟨fd_integer_text, F_integer_text, B_integer_text⟩ := ok_integer_text (P := P) (w := w) (base := base) T
  refine ⟨fd, F.ok sc_Bound_str sp1_len (fun cdv A outer s H vs Q E hr h => ?_), F.bindsN fun _ _ _ _ _ _ us hl => match us, hl with | [_], _ => rfl⟩
  have hr_integer_text : Room 1 _ := hr.mono (by decide)
  obtain ⟨v, rfl, a, w0, p0, u0, rfl, ha, hw, hp, hu, k⟩ := sp1_is h
  refine ⟨_, (pss_one (ps_ret (pe_join pe_str (pe_lc (own := [("each", 1)]) (g := gName 1) (tt := tYes)  rfl sc_Bound_str.nd (pi_tup (pe_tup (pa_cons (kx_fld rfl (pv 0) rfl) (pa_cons (kx_fld rfl (pv 0) rfl) (pa_cons (kx_fld rfl (pv 0) rfl) pa_nil))))) (blkOk_by (own := [("each", 1)]) (N := ["self", "each"]) (sc := defScope s_Bound_str) (by decide +kernel)) (fun _ _ _ _ _ => (pg_name (i := 1) sc_Bound_str.nd rfl (Or.inl rfl))) (fun _ _ _ _ _ => pts_nil) (fun _ _ _ _ _ => (pe_call F_integer_text hr_integer_text (by rfl) T.g_integer_text T.k_integer_text B_integer_text .nil passL (pa_cons (pv 1) pa_nil))))))), ?_⟩
  walk_at "rd"
  refine ⟨⟨_, rfl⟩, ?_⟩
  walk_at "rd"
  refine r_bw T ha ?_
  walk_at "rd"
  refine r_bp T ha ?_
  walk_at "rd"
  refine r_bu T ha ?_
  walk_at "rd"
  refine r_newT (sz_le (by simp)) fun t H1 _ e1 h1 => ?_
  have h1' : H1 t = some (.tup ([w0, p0, u0].map V.int)) := h1
  have hz : ∀ c ∈ [w0, p0, u0], c.natAbs < 10 ^ 60 := by
    intro c hc
    simp only [List.mem_cons, List.mem_nil_iff, or_false] at hc
    rcases hc with rfl | rfl | rfl
    · exact hw
    · exact hp
    · exact hu
  refine ⟨t, rfl, ⟨_, SqT.of h1'⟩, ?_⟩
  refine r_lcM (n := [w0, p0, u0].length) (k := 1) (by simpa using walk_tup (xs := [w0, p0, u0].map V.int)) (fun j => .str (nS ([w0, p0, u0].getD j 0))) (by simp) (fun H' e => SqT.of (e _ _ h1')) (fun _ => rfl) ?_ ?_
  · rintro j y H0 H' hj e0 ⟨rfl, hy⟩
    refine ⟨Ex.refl _, fun H3 e3 R r => ?_⟩
    obtain ⟨c, hc, rfl⟩ := int_at (ns := [w0, p0, u0]) hy
    walk_at "rd"
    refine ⟨c, rfl, hz c (List.mem_of_getElem? hc), fun H4 e4 => ?_⟩
    have := r H4 e4
    rw [List.getD_eq_getElem?_getD, hc] at this
    exact this
  · intro q H2 hq e2 hl
    rw [range_nS] at hl
    refine ⟨_, q, [w0, p0, u0].map nS, rfl, rfl, .inl (SqL.of hl), ?_, k _ (e1.trans e2)⟩
    have := nS_map_len hz
    simp only [List.length_cons, List.length_nil, List.length_map] at *
    rw [show (Str.ofString " ").length = 1 from rfl]
    omega
def spPStr (K : PySem.W.Frag) : Sp := sp1 fun v H Q _ => ∃ a ns, v = .ref a ∧ Pl K H a ns ∧ (∀ c ∈ ns, c.natAbs < 10 ^ 60) ∧ ∀ H', Ex H H' → Q (.str (tS (ns.map nS))) H'
theorem ok_Poly_str {P : Program} {w : World} {K : PySem.W.Frag} {mg : Str → Option Value} {base : Heap} (T : Txt K mg) : ∃ fd, FnOk P w K mg base (L2.CX P w) 2 (He.ma K (He.ga K "Poly") "__str__") fd ["self"] (spPStr K) ∧ Binds K fd ["self"] [] := by
  obtain ⟨fd, F⟩ := T.d_Poly_str
  obtain ⟨fd_integer_text, F_integer_text, B_integer_text⟩ := ok_integer_text (P := P) (w := w) (base := base) T
  refine ⟨fd, F.ok sc_Poly_str sp1_len (fun cdv A outer s H vs Q E hr h => ?_), F.bindsN fun _ _ _ _ _ _ us hl => match us, hl with | [_], _ => rfl⟩
  have hr_integer_text : Room 1 _ := hr.mono (by decide)
  obtain ⟨v, rfl, a, ns, rfl, ha, hz, k⟩ := sp1_is h
  refine ⟨_, (pss_one (ps_ret (pe_join pe_str (pe_lc (own := [("number", 1)]) (g := gName 1) (tt := tYes)  rfl sc_Poly_str.nd (pi_tup (kx_fld rfl (pv 0) rfl)) (blkOk_by (own := [("number", 1)]) (N := ["self", "number"]) (sc := defScope s_Poly_str) (by decide +kernel)) (fun _ _ _ _ _ => (pg_name (i := 1) sc_Poly_str.nd rfl (Or.inl rfl))) (fun _ _ _ _ _ => pts_nil) (fun _ _ _ _ _ => (pe_call F_integer_text hr_integer_text (by rfl) T.g_integer_text T.k_integer_text B_integer_text .nil passL (pa_cons (pv 1) pa_nil))))))), ?_⟩
  have hl64 := ha.2.1
  walk_at "rd"
  refine ⟨⟨_, rfl⟩, ?_⟩
  walk_at "rd"
  refine r_fn T ha fun t h1 => ?_
  refine ⟨t, rfl, ⟨_, SqT.of h1⟩, ?_⟩
  refine r_lcM (n := ns.length) (k := 1) (by simpa using walk_tup (xs := ns.map V.int)) (fun j => .str (nS (ns.getD j 0))) (by omega) (fun H' e => SqT.of (e _ _ h1)) (fun _ => rfl) ?_ ?_
  · rintro j y H0 H' hj e0 ⟨rfl, hy⟩
    refine ⟨Ex.refl _, fun H3 e3 R r => ?_⟩
    obtain ⟨c, hc, rfl⟩ := int_at hy
    walk_at "rd"
    refine ⟨c, rfl, hz c (List.mem_of_getElem? hc), fun H4 e4 => ?_⟩
    have := r H4 e4
    rw [List.getD_eq_getElem?_getD, hc] at this
    exact this
  · intro q H2 hq e2 hl
    rw [range_nS] at hl
    refine ⟨_, q, ns.map nS, rfl, rfl, .inl (SqL.of hl), ?_, k _ e2⟩
    have := nS_map_len hz
    rw [List.length_map]
    rw [show (Str.ofString " ").length = 1 from rfl]
    omega

end K02
namespace K02
open PySem PySem.Spec PyProof.Rows L2 GS TL LamX
local macro_rules | `(tactic| walk_at "rd") => `(tactic| (repeat (first
  | with_reducible refine r_next ?_
  | with_reducible refine r_seq ?_
  | with_reducible refine r_ret ?_
  | with_reducible refine r_ifS ?_
  | with_reducible refine r_asg ?_
  | with_reducible refine r_drop ?_
  | with_reducible refine r_op ?_
  | with_reducible refine r_un ?_
  | with_reducible refine r_cbInt ?_
  | with_reducible refine r_cbAbs ?_
  | with_reducible refine r_cbLen ?_
  | with_reducible refine r_cbList ?_
  | with_reducible refine r_cbTup ?_
  | with_reducible refine r_iEnT ?_
  | with_reducible refine r_iEnL ?_
  | with_reducible refine r_zipA ?_
  | with_reducible refine r_zipX ?_
  | with_reducible refine r_augS ?_
  | with_reducible refine r_cb ?_
  | with_reducible refine r_call ?_
  | with_reducible refine r_make ?_
  | with_reducible refine r_callN0 ?_
  | with_reducible refine r_makeK0 ?_
  | with_reducible refine r_makeS ?_
  | with_reducible refine r_callS ?_
  | with_reducible refine r_cons ?_
  | with_reducible refine r_nil ?_
  | with_reducible refine r_test ?_
  | with_reducible refine r_B ?_
  | with_reducible refine r_and ?_
  | with_reducible refine r_or ?_
  | with_reducible refine r_not ?_
  | with_reducible refine r_andV ?_
  | with_reducible refine r_orV ?_
  | with_reducible refine r_notV ?_
  | with_reducible refine r_if ?_
  | with_reducible refine r_tup ?_
  | with_reducible refine r_lst ?_
  | with_reducible refine r_c ?_
  | with_reducible refine r_lc ?_
  | with_reducible refine r_chain ?_
  | with_reducible refine r_iT ?_
  | with_reducible refine r_iL ?_
  | with_reducible refine r_iR1 ?_
  | with_reducible refine r_iR2 ?_
  | with_reducible refine r_iR3 ?_
  | with_reducible refine r_asgG ?_
  | with_reducible refine r_gSub ?_
  | with_reducible refine r_for ?_
  | with_reducible refine r_smeth ?_
  | with_reducible refine r_par ?_
  | with_reducible refine r_parK ?_
  | with_reducible refine r_gCons ?_
  | with_reducible refine r_gNil ?_
  | with_reducible refine r_gName ?_
  | with_reducible refine r_intI ?_
  | with_reducible refine r_intB ?_
  | with_reducible refine r_absI ?_
  | with_reducible refine r_k ?_
  | with_reducible refine r_kV ?_
  | ((with_reducible show tVar _ _ _ _); refine r_var3 ?_ (by rfl))
  | with_reducible refine r_I0 ?_
  | with_reducible refine r_U ?_
  | with_reducible refine r_eqI ?_
  | with_reducible refine r_neI ?_
  | dsimp only)))
local macro_rules | `(tactic| walk_at "rx") => `(tactic| (repeat (first
  | with_reducible refine r_next ?_
  | with_reducible refine r_ret ?_
  | with_reducible refine r_ifS ?_
  | with_reducible refine r_asg ?_
  | with_reducible refine r_drop ?_
  | with_reducible refine r_op ?_
  | with_reducible refine r_un ?_
  | with_reducible refine r_cbInt ?_
  | with_reducible refine r_cbAbs ?_
  | with_reducible refine r_cbLen ?_
  | with_reducible refine r_cbList ?_
  | with_reducible refine r_cbTup ?_
  | with_reducible refine r_iEnT ?_
  | with_reducible refine r_iEnL ?_
  | with_reducible refine r_zipA ?_
  | with_reducible refine r_zipX ?_
  | with_reducible refine r_augS ?_
  | with_reducible refine r_cb ?_
  | with_reducible refine r_call ?_
  | with_reducible refine r_make ?_
  | with_reducible refine r_callN0 ?_
  | with_reducible refine r_makeK0 ?_
  | with_reducible refine r_makeS ?_
  | with_reducible refine r_callS ?_
  | with_reducible refine r_cons ?_
  | with_reducible refine r_nil ?_
  | with_reducible refine r_test ?_
  | with_reducible refine r_B ?_
  | with_reducible refine r_and ?_
  | with_reducible refine r_or ?_
  | with_reducible refine r_not ?_
  | with_reducible refine r_andV ?_
  | with_reducible refine r_orV ?_
  | with_reducible refine r_notV ?_
  | with_reducible refine r_if ?_
  | with_reducible refine r_tup ?_
  | with_reducible refine r_lst ?_
  | with_reducible refine r_c ?_
  | with_reducible refine r_lc ?_
  | with_reducible refine r_chain ?_
  | with_reducible refine r_iT ?_
  | with_reducible refine r_iL ?_
  | with_reducible refine r_iR1 ?_
  | with_reducible refine r_iR2 ?_
  | with_reducible refine r_iR3 ?_
  | with_reducible refine r_asgG ?_
  | with_reducible refine r_gSub ?_
  | with_reducible refine r_for ?_
  | with_reducible refine r_smeth ?_
  | with_reducible refine r_par ?_
  | with_reducible refine r_parK ?_
  | with_reducible refine r_gCons ?_
  | with_reducible refine r_gNil ?_
  | with_reducible refine r_gName ?_
  | with_reducible refine r_intI ?_
  | with_reducible refine r_intB ?_
  | with_reducible refine r_absI ?_
  | with_reducible refine r_k ?_
  | with_reducible refine r_kV ?_
  | ((with_reducible show tVar _ _ _ _); refine r_var3 ?_ (by rfl))
  | with_reducible refine r_I0 ?_
  | with_reducible refine r_U ?_
  | with_reducible refine r_eqI ?_
  | with_reducible refine r_neI ?_
  | dsimp only)))
/-! ### bounds, polys read -/
def NoS (K : PySem.W.Frag) (H : Hp) (v : V) : Prop := ∃ t, TyX K H v t ∧ PySem.W.kitOne K t (.type "str") = some false
def spBRead (K : PySem.W.Frag) : Sp := sp1 fun v H Q E => (∃ (ys : List Str) (vs : List (Option Int)), v = .str (tS ys) ∧ Tx ys vs ∧ (∀ j, GX.bStop vs = some j → Stop K j H E) ∧ (GX.bStop vs = none → ∀ p H', Ex H H' → Bd K H' p (GX.vl vs 0) (GX.vl vs 1) (GX.vl vs 2) → Q (.ref p) H')) ∨ (NoS K H v ∧ Stop K 0 H E)
theorem ib_le {i a : Int} {m : Option Int} (h : GX.ib i (some a) m = true) : a ≤ i := by
  simp only [GX.ib, Bool.and_eq_true, decide_eq_true_eq] at h
  exact h.1
theorem ok_Bound_read {P : Program} {w : World} {K : PySem.W.Frag} {mg : Str → Option Value} {base : Heap} (T : Txt K mg) : ∃ fd, FnOk P w K mg base (L2.CX P w) 6 (He5.wf K (He.ga K "Bound") "staticmethod" "read") fd ["text"] (spBRead K) ∧ Binds K fd ["text"] [] ∧ KBn K fd ["text"] 0 ["text"] (pm [0]) (pm [0]) := by
  obtain ⟨fd, F⟩ := T.d_Bound_read
  obtain ⟨fd_Bound_init, F_Bound_init, B_Bound_init⟩ := ok_Bound_init (P := P) (w := w) (base := base) T
  obtain ⟨fd_need_end, F_need_end, B_need_end⟩ := ok_need_end (P := P) (w := w) (base := base) T
  obtain ⟨fd_integer_at, F_integer_at, B_integer_at⟩ := ok_integer_at (P := P) (w := w) (base := base) T
  obtain ⟨fd_items_of, F_items_of, B_items_of⟩ := ok_items_of (P := P) (w := w) (base := base) T
  refine ⟨fd, F.ok sc_Bound_read sp1_len (fun cdv A outer s H vs Q E hr h => ?_), F.bindsN fun _ _ _ _ _ _ us hl => match us, hl with | [_], _ => rfl, kb_of F 0 ["text"] [0] (fun _ _ _ _ _ _ us ws h1 h2 => match us, ws, h1, h2 with | [], [_], _, _ => rfl)⟩
  have hr_Bound_init : Room 5 _ := hr.mono (by decide)
  have hr_need_end : Room 3 _ := hr.mono (by decide)
  have hr_integer_at : Room 3 _ := hr.mono (by decide)
  have hr_items_of : Room 3 _ := hr.mono (by decide)
  obtain ⟨v, rfl, h⟩ := sp1_is h
  refine ⟨_, (pss_cons (ps_set (i := 1) sc_Bound_read.nd rfl (Or.inl rfl) (pe_call F_items_of hr_items_of (by rfl) T.g_items_of T.k_items_of B_items_of .nil (passes_call (takes_of rfl rfl rfl rfl) (fun _ _ _ _ h => h)) (pa_cons (pv 0) pa_nil)))
      (pss_cons (ps_set (i := 2) sc_Bound_read.nd rfl (Or.inl rfl) (pe_call F_integer_at hr_integer_at (by rfl) T.g_integer_at T.k_integer_at B_integer_at .nil (passes_call (takes_of rfl rfl rfl rfl) (fun _ _ _ _ h => h)) (pa_cons (pv 1) (pa_cons pe_int (pa_cons pe_non (pa_cons pe_non pa_nil))))))
      (pss_cons (ps_set (i := 3) sc_Bound_read.nd rfl (Or.inl rfl) (pe_call F_integer_at hr_integer_at (by rfl) T.g_integer_at T.k_integer_at B_integer_at .nil (passes_call (takes_of rfl rfl rfl rfl) (fun _ _ _ _ h => h)) (pa_cons (pv 1) (pa_cons pe_int (pa_cons pe_non (pa_cons pe_non pa_nil))))))
      (pss_cons (ps_set (i := 4) sc_Bound_read.nd rfl (Or.inl rfl) (pe_call F_integer_at hr_integer_at (by rfl) T.g_integer_at T.k_integer_at B_integer_at .nil (passes_call (takes_of rfl rfl rfl rfl) (fun _ _ _ _ h => h)) (pa_cons (pv 1) (pa_cons pe_int (pa_cons pe_int (pa_cons pe_non pa_nil))))))
      (pss_cons (ps_expr (pe_call F_need_end hr_need_end (by rfl) T.g_need_end T.k_need_end B_need_end .nil (passes_call (takes_of rfl rfl rfl rfl) (fun _ _ _ _ h => h)) (pa_cons (pv 1) (pa_cons pe_int pa_nil))))
      (pss_one (ps_ret (pe_make T.mk_Bound F_Bound_init hr_Bound_init (by rfl) T.g_Bound B_Bound_init .nil passL (pa_cons (pv 2) (pa_cons (pv 3) (pa_cons (pv 4) pa_nil))))))))))), ?_⟩
  walk_at "rd"
  rcases h with ⟨ys, vs, rfl, tx, k1, k2⟩ | ⟨ht, k⟩
  · refine .inl ⟨ys, rfl, tx.ne, tx.free, tx.len, fun q H1 e1 hq => ?_⟩
    walk_at "rd"
    refine r_intAt (n := 0) hq tx.S rfl rfl rfl (fun b => (k1 0 ?_).ex e1) fun g0 H2 e2 => ?_
    · unfold GX.bStop; rw [b, if_pos rfl]
    have e12 := e1.trans e2
    walk_at "rd"
    refine r_intAt (n := 1) (e2 _ _ hq) tx.S rfl rfl rfl (fun b => (k1 1 ?_).ex e12) fun g1 H3 e3 => ?_
    · unfold GX.bStop; rw [g0, b, if_neg (by decide), if_pos rfl]
    have e13 := e12.trans e3
    walk_at "rd"
    refine r_intAt (n := 2) ((e2.trans e3) _ _ hq) tx.S rfl rfl rfl (fun b => (k1 2 ?_).ex e13) fun g2 H4 e4 => ?_
    · unfold GX.bStop; rw [g0, g1, b, if_neg (by decide), if_neg (by decide), if_pos rfl]
    have e14 := e13.trans e4
    have l3 := GX.okJ_lt g2
    have eb : GX.bStop vs = if vs.length = 3 then none else some 3 := by unfold GX.bStop; rw [g0, g1, g2, if_neg (by decide), if_neg (by decide), if_neg (by decide)]
    walk_at "rd"
    refine ⟨q, _, 3, rfl, SqL.of (((e2.trans e3).trans e4) _ _ hq), rfl, fun hle => ?_, fun hlt => ?_⟩
    · rw [List.length_map, tx.vlen] at hle
      rw [if_pos (by omega)] at eb
      walk_at "rd"
      exact r_Bound (ib_le (GX.okJ_is g2).2) fun p H5 _ e5 hb => k2 eb p H5 (e14.trans e5) hb
    · rw [List.length_map, tx.vlen] at hlt
      rw [if_neg (by omega)] at eb
      exact (k1 3 eb).ex e14
  · exact .inr ⟨ht, k⟩
/-- the first integers -/
def hd (vs : List (Option Int)) (i : Nat) : List Int := (List.range i).map (GX.vl vs)
theorem hd_succ (vs : List (Option Int)) (i : Nat) : hd vs (i + 1) = hd vs i ++ [GX.vl vs i] := by
  unfold hd
  rw [List.range_succ, List.map_append]
  rfl
theorem hd_len (vs : List (Option Int)) (i : Nat) : (hd vs i).length = i := by simp [hd]
theorem hd_head (vs : List (Option Int)) {i : Nat} (h : 1 ≤ i) : (hd vs i).headD 0 = GX.vl vs 0 := by
  cases i with
  | zero => omega
  | succ i => rw [hd, List.range_succ_eq_map]; rfl
def spPRead (K : PySem.W.Frag) : Sp := sp1 fun v H Q E => (∃ (ys : List Str) (vs : List (Option Int)), v = .str (tS ys) ∧ Tx ys vs ∧ (∀ j, GX.pStop vs = some j → Stop K j H E) ∧ (GX.pStop vs = none → ∀ p H', Ex H H' → Pl K H' p (hd vs vs.length) → Q (.ref p) H')) ∨ (NoS K H v ∧ Stop K 0 H E)
theorem ok_Poly_read {P : Program} {w : World} {K : PySem.W.Frag} {mg : Str → Option Value} {base : Heap} (T : Txt K mg) : ∃ fd, FnOk P w K mg base (L2.CX P w) 5 (He5.wf K (He.ga K "Poly") "staticmethod" "read") fd ["text"] (spPRead K) ∧ Binds K fd ["text"] [] ∧ KBn K fd ["text"] 0 ["text"] (pm [0]) (pm [0]) := by
  obtain ⟨fd, F⟩ := T.d_Poly_read
  obtain ⟨fd_Poly_init, F_Poly_init, B_Poly_init⟩ := ok_Poly_init (P := P) (w := w) (base := base) T
  obtain ⟨fd_need_end, F_need_end, B_need_end⟩ := ok_need_end (P := P) (w := w) (base := base) T
  obtain ⟨fd_integer_at, F_integer_at, B_integer_at⟩ := ok_integer_at (P := P) (w := w) (base := base) T
  obtain ⟨fd_items_of, F_items_of, B_items_of⟩ := ok_items_of (P := P) (w := w) (base := base) T
  refine ⟨fd, F.ok sc_Poly_read sp1_len (fun cdv A outer s H vs Q E hr h => ?_), F.bindsN fun _ _ _ _ _ _ us hl => match us, hl with | [_], _ => rfl, kb_of F 0 ["text"] [0] (fun _ _ _ _ _ _ us ws h1 h2 => match us, ws, h1, h2 with | [], [_], _, _ => rfl)⟩
  have hr_Poly_init : Room 4 _ := hr.mono (by decide)
  have hr_need_end : Room 3 _ := hr.mono (by decide)
  have hr_integer_at : Room 3 _ := hr.mono (by decide)
  have hr_items_of : Room 3 _ := hr.mono (by decide)
  obtain ⟨v, rfl, h⟩ := sp1_is h
  refine ⟨_, (pss_cons (ps_set (i := 1) sc_Poly_read.nd rfl (Or.inl rfl) (pe_call F_items_of hr_items_of (by rfl) T.g_items_of T.k_items_of B_items_of .nil (passes_call (takes_of rfl rfl rfl rfl) (fun _ _ _ _ h => h)) (pa_cons (pv 0) pa_nil)))
      (pss_cons (ps_set (i := 2) sc_Poly_read.nd rfl (Or.inl rfl) (pe_lst (pa_cons (pe_call F_integer_at hr_integer_at (by rfl) T.g_integer_at T.k_integer_at B_integer_at .nil (passes_call (takes_of rfl rfl rfl rfl) (fun _ _ _ _ h => h)) (pa_cons (pv 1) (pa_cons pe_int (pa_cons pe_int (pa_cons pe_non pa_nil))))) pa_nil)))
      (pss_cons (ps_for (passes_of rfl) rfl (pi_range2 (by rfl) T.b_range (pa_cons pe_int (pa_cons (pe_callB (call_min2 rfl) (by rfl) T.b_min (by decide +kernel) (pa_cons (pe_callB (kx_lens rfl) (by rfl) T.b_len PySem.boot_len (pa_cons (pv 1) pa_nil)) (pa_cons (pe_gint rfl T.c_MOST_NUMBERS) pa_nil))) pa_nil))) (pg_name (i := 3) sc_Poly_read.nd rfl (Or.inl rfl)) (pss_one (ps_expr (pe_bm PySem.F.plainAttrs_list PySem.F.slot_list_append PySem.F.type_list_append mt_append (pv 2) (pa_cons (pe_call F_integer_at hr_integer_at (by rfl) T.g_integer_at T.k_integer_at B_integer_at .nil (passes_call (takes_of rfl rfl rfl rfl) (fun _ _ _ _ h => h)) (pa_cons (pv 1) (pa_cons (pv 3) (pa_cons pe_non (pa_cons pe_non pa_nil))))) pa_nil)))))
      (pss_cons (ps_expr (pe_call F_need_end hr_need_end (by rfl) T.g_need_end T.k_need_end B_need_end .nil (passes_call (takes_of rfl rfl rfl rfl) (fun _ _ _ _ h => h)) (pa_cons (pv 1) (pa_cons (pe_gint rfl T.c_MOST_NUMBERS) pa_nil))))
      (pss_one (ps_ret (pe_make T.mk_Poly F_Poly_init hr_Poly_init (by rfl) T.g_Poly B_Poly_init .nil passL (pa_cons (pv 2) pa_nil)))))))), ?_⟩
  walk_at "rd"
  rcases h with ⟨ys, vs, rfl, tx, k1, k2⟩ | ⟨ht, k⟩
  · refine .inl ⟨ys, rfl, tx.ne, tx.free, tx.len, fun q H1 e1 hq => ?_⟩
    have l0 : 0 < vs.length := by rw [← tx.vlen]; exact List.length_pos_iff.mpr tx.ne
    walk_at "rd"
    refine r_intAt (n := 0) hq tx.S rfl rfl rfl (fun b => (k1 0 (GX.pStop_bad (by decide) l0 (fun i hi => by omega) b)).ex e1) fun g0 H2 e2 => ?_
    have e12 := e1.trans e2
    have hq2 := e2 _ _ hq
    walk_at "rd"
    refine r_newL (sz_le (by simp)) fun l H3 hl e3 h3 => ?_
    have hlH : H l = none := e12.free hl
    walk_at "rd"
    refine ⟨q, _, rfl, .inl (SqL.of (e3 _ _ hq2)), ?_⟩
    walk_at "rd"
    have em : ((if (64 : Int) < ((ys.map V.str).length : Int) then (64 : Int) else ((ys.map V.str).length : Int)) : Int) = ((min 64 vs.length : Nat) : Int) := by
      rw [List.length_map, tx.vlen]; split <;> omega
    refine ⟨_, _, rfl, ?_⟩
    refine ⟨_, _, rfl, ⟨by decide, by decide, by omega, by omega⟩, ?_⟩
    have g0' : GX.pOk vs 0 = true := g0
    have en : ((if (64 : Int) < ((ys.map V.str).length : Int) then (64 : Int) else ((ys.map V.str).length : Int)) - 1).toNat = min 64 vs.length - 1 := by rw [em]; omega
    rw [en]
    have t0 : Ex H H2 := e12
    refine for_of walk_range (fun i σ H' => Ex H2 H' ∧ H' l = some (.lst ((hd vs (i + 1)).map V.int)) ∧ (∀ k, k < i + 1 → GX.pOk vs k = true) ∧ ∃ s3, σ = [some (.str (tS ys)), some (.ref q), some (.ref l), s3]) ⟨e3, by rw [h3]; rfl, fun k hk => by rw [show k = 0 by omega]; exact g0', none, rfl⟩ (fun _ _ _ _ _ => trivial) ?_ ?_
    · rintro i x σ H4 H4' hi ⟨e4, h4, all, s3, rfl⟩ ⟨rfl, rfl⟩
      refine r_gName ?_
      walk_at "rd"
      refine r_bm ?_
      walk_at "rd"
      refine ⟨tyL h4, ?_⟩
      walk_at "rd"
      have bad : GX.okJ vs (i + 1) none none = GX.pOk vs (i + 1) := by unfold GX.pOk; rw [if_neg (by omega)]
      refine r_intAt (n := i + 1) (e4 _ _ hq2) tx.S (by push_cast; omega) rfl rfl (fun b => (k1 (i + 1) ?_).ex (e12.trans e4)) fun g1 H5 e5 => ?_
      · exact GX.pStop_bad (by omega) (by omega) all (by rw [← bad]; exact b)
      · walk_at "rd"
        refine r_app (e5 _ _ h4) (by rw [List.length_map, hd_len]; omega) ⟨Ex.mut (e4.trans e5) hl, ?_, fun k hk => ?_, _, rfl⟩
        · rw [upd_same, hd_succ vs (i + 1), List.map_append]
          rfl
        · rcases Nat.lt_or_ge k (i + 1) with c | c
          · exact all k c
          · rw [show k = i + 1 by omega, ← bad]; exact g1
    · rintro σ H4 ⟨e4, h4, all, s3, rfl⟩
      rw [show min 64 vs.length - 1 + 1 = min 64 vs.length by omega] at h4 all
      have ea := GX.pStop_all (vs := vs) (fun i hi => all i hi)
      walk_at "rd"
      refine ⟨q, _, 64, rfl, SqL.of (e4 _ _ hq2), rfl, fun hle => ?_, fun hlt => ?_⟩
      · rw [List.length_map, tx.vlen] at hle
        rw [if_pos (by omega)] at ea
        walk_at "rd"
        rw [show min 64 vs.length = vs.length by omega] at h4
        refine r_Poly (ns := hd vs vs.length) ⟨l, rfl, .inl h4⟩ ⟨by rw [hd_len]; omega, by rw [hd_len]; omega, ?_⟩ fun p H5 _ e5 hp => k2 ea p H5 ((e12.trans e4).trans e5) hp
        rw [hd_head vs (by omega)]
        have := ib_le (GX.okJ_is (show GX.okJ vs 0 (some 1) none = true from g0)).2
        omega
      · rw [List.length_map, tx.vlen] at hlt
        rw [if_neg (by omega)] at ea
        exact (k1 64 ea).ex (e12.trans e4)
  · exact .inr ⟨ht, k⟩

end K02
namespace K02
open PySem PySem.Spec PyProof.Rows L2 GS TL LamX
local macro_rules | `(tactic| walk_at "rd") => `(tactic| (repeat (first
  | with_reducible refine r_next ?_
  | with_reducible refine r_seq ?_
  | with_reducible refine r_ret ?_
  | with_reducible refine r_ifS ?_
  | with_reducible refine r_asg ?_
  | with_reducible refine r_drop ?_
  | with_reducible refine r_op ?_
  | with_reducible refine r_un ?_
  | with_reducible refine r_cbInt ?_
  | with_reducible refine r_cbAbs ?_
  | with_reducible refine r_cbLen ?_
  | with_reducible refine r_cbList ?_
  | with_reducible refine r_cbTup ?_
  | with_reducible refine r_iEnT ?_
  | with_reducible refine r_iEnL ?_
  | with_reducible refine r_zipA ?_
  | with_reducible refine r_zipX ?_
  | with_reducible refine r_augS ?_
  | with_reducible refine r_cb ?_
  | with_reducible refine r_call ?_
  | with_reducible refine r_make ?_
  | with_reducible refine r_callN0 ?_
  | with_reducible refine r_makeK0 ?_
  | with_reducible refine r_makeS ?_
  | with_reducible refine r_callS ?_
  | with_reducible refine r_cons ?_
  | with_reducible refine r_nil ?_
  | with_reducible refine r_test ?_
  | with_reducible refine r_B ?_
  | with_reducible refine r_and ?_
  | with_reducible refine r_or ?_
  | with_reducible refine r_not ?_
  | with_reducible refine r_andV ?_
  | with_reducible refine r_orV ?_
  | with_reducible refine r_notV ?_
  | with_reducible refine r_if ?_
  | with_reducible refine r_tup ?_
  | with_reducible refine r_lst ?_
  | with_reducible refine r_c ?_
  | with_reducible refine r_lc ?_
  | with_reducible refine r_chain ?_
  | with_reducible refine r_iT ?_
  | with_reducible refine r_iL ?_
  | with_reducible refine r_iR1 ?_
  | with_reducible refine r_iR2 ?_
  | with_reducible refine r_iR3 ?_
  | with_reducible refine r_asgG ?_
  | with_reducible refine r_gSub ?_
  | with_reducible refine r_for ?_
  | with_reducible refine r_smeth ?_
  | with_reducible refine r_par ?_
  | with_reducible refine r_parK ?_
  | with_reducible refine r_gCons ?_
  | with_reducible refine r_gNil ?_
  | with_reducible refine r_gName ?_
  | with_reducible refine r_intI ?_
  | with_reducible refine r_intB ?_
  | with_reducible refine r_absI ?_
  | with_reducible refine r_k ?_
  | with_reducible refine r_kV ?_
  | ((with_reducible show tVar _ _ _ _); refine r_var3 ?_ (by rfl))
  | with_reducible refine r_I0 ?_
  | with_reducible refine r_U ?_
  | with_reducible refine r_eqI ?_
  | with_reducible refine r_neI ?_
  | dsimp only)))
local macro_rules | `(tactic| walk_at "rx") => `(tactic| (repeat (first
  | with_reducible refine r_next ?_
  | with_reducible refine r_ret ?_
  | with_reducible refine r_ifS ?_
  | with_reducible refine r_asg ?_
  | with_reducible refine r_drop ?_
  | with_reducible refine r_op ?_
  | with_reducible refine r_un ?_
  | with_reducible refine r_cbInt ?_
  | with_reducible refine r_cbAbs ?_
  | with_reducible refine r_cbLen ?_
  | with_reducible refine r_cbList ?_
  | with_reducible refine r_cbTup ?_
  | with_reducible refine r_iEnT ?_
  | with_reducible refine r_iEnL ?_
  | with_reducible refine r_zipA ?_
  | with_reducible refine r_zipX ?_
  | with_reducible refine r_augS ?_
  | with_reducible refine r_cb ?_
  | with_reducible refine r_call ?_
  | with_reducible refine r_make ?_
  | with_reducible refine r_callN0 ?_
  | with_reducible refine r_makeK0 ?_
  | with_reducible refine r_makeS ?_
  | with_reducible refine r_callS ?_
  | with_reducible refine r_cons ?_
  | with_reducible refine r_nil ?_
  | with_reducible refine r_test ?_
  | with_reducible refine r_B ?_
  | with_reducible refine r_and ?_
  | with_reducible refine r_or ?_
  | with_reducible refine r_not ?_
  | with_reducible refine r_andV ?_
  | with_reducible refine r_orV ?_
  | with_reducible refine r_notV ?_
  | with_reducible refine r_if ?_
  | with_reducible refine r_tup ?_
  | with_reducible refine r_lst ?_
  | with_reducible refine r_c ?_
  | with_reducible refine r_lc ?_
  | with_reducible refine r_chain ?_
  | with_reducible refine r_iT ?_
  | with_reducible refine r_iL ?_
  | with_reducible refine r_iR1 ?_
  | with_reducible refine r_iR2 ?_
  | with_reducible refine r_iR3 ?_
  | with_reducible refine r_asgG ?_
  | with_reducible refine r_gSub ?_
  | with_reducible refine r_for ?_
  | with_reducible refine r_smeth ?_
  | with_reducible refine r_par ?_
  | with_reducible refine r_parK ?_
  | with_reducible refine r_gCons ?_
  | with_reducible refine r_gNil ?_
  | with_reducible refine r_gName ?_
  | with_reducible refine r_intI ?_
  | with_reducible refine r_intB ?_
  | with_reducible refine r_absI ?_
  | with_reducible refine r_k ?_
  | with_reducible refine r_kV ?_
  | ((with_reducible show tVar _ _ _ _); refine r_var3 ?_ (by rfl))
  | with_reducible refine r_I0 ?_
  | with_reducible refine r_U ?_
  | with_reducible refine r_eqI ?_
  | with_reducible refine r_neI ?_
  | dsimp only)))
/-! ### ties -/
def spPairs (K : PySem.W.Frag) : Sp := sp1 fun v H Q _ => ∃ (p : Addr) (ts : List Addr) (ps : List (Int × Int)), v = .ref p ∧ H p = some (.lst (ts.map V.ref)) ∧ TP H ts ps ∧ ps.length ≤ 1000 ∧ ∀ H', Ex H H' → Q (.bl true) H'
theorem TP.at {H : Hp} {ts : List Addr} {ps : List (Int × Int)} (h : TP H ts ps) {j : Nat} {t : Addr} (ht : ts[j]? = some t) : ∃ q, ps[j]? = some q ∧ H t = some (.tup [.int q.1, .int q.2]) := by
  have hj : j < ps.length := by rw [← h.1]; exact (List.getElem?_eq_some_iff.mp ht).1
  exact ⟨ps[j], by simp [hj], h.2 j t _ ht (by simp [hj])⟩
theorem ok_are_pairs {P : Program} {w : World} {K : PySem.W.Frag} {mg : Str → Option Value} {base : Heap} (T : Txt K mg) : ∃ fd, FnOk P w K mg base (L2.CX P w) 3 (He.ga K "are_pairs") fd ["value"] (spPairs K) ∧ Binds K fd ["value"] [] := by
  obtain ⟨fd, F⟩ := T.d_are_pairs
  obtain ⟨fd_are_integers, F_are_integers, B_are_integers⟩ := ok_are_integers (P := P) (w := w) (base := base) T
  obtain ⟨fd_is_row, F_is_row, B_is_row⟩ := ok_is_row (P := P) (w := w) (base := base) T
  refine ⟨fd, F.ok sc_are_pairs sp1_len (fun cdv A outer s H vs Q E hr h => ?_), F.bindsN fun _ _ _ _ _ _ us hl => match us, hl with | [_], _ => rfl⟩
  have hr_are_integers : Room 2 _ := hr.mono (by decide)
  have hr_is_row : Room 1 _ := hr.mono (by decide)
  obtain ⟨v, rfl, p, ts, ps, rfl, hp, tp, hl, k⟩ := sp1_is h
  refine ⟨_, (pss_one (ps_ret (pe_and (pe_call F_is_row hr_is_row (by rfl) T.g_is_row T.k_is_row B_is_row .nil passL (pa_cons (pv 0) pa_nil)) (pe_one (pe_callB (cr_all rfl) (by rfl) T.b_all (by decide +kernel) (pa_cons (pe_lc (own := [("each", 1)]) (g := gName 1) (tt := tYes)  rfl sc_are_pairs.nd (pi_seq (pv 0)) (blkOk_by (own := [("each", 1)]) (N := ["value", "each"]) (sc := defScope s_are_pairs) (by decide +kernel)) (fun _ _ _ _ _ => (pg_name (i := 1) sc_are_pairs.nd rfl (Or.inl rfl))) (fun _ _ _ _ _ => pts_nil) (fun _ _ _ _ _ => (pe_and (pe_call F_are_integers hr_are_integers (by rfl) T.g_are_integers T.k_are_integers B_are_integers .nil passL (pa_cons (pv 1) pa_nil)) (pe_one (pe_cmpR op_eq (pe_callB (kx_lens rfl) (by rfl) T.b_len PySem.boot_len (pa_cons (pv 1) pa_nil)) pe_int (nomark _)))))) pa_nil)))))), ?_⟩
  have lts := tp.1
  walk_at "rd"
  refine ⟨true, Sq.row ⟨p, rfl, .inl hp⟩, fun H1 e1 => ?_⟩
  walk_at "rd"
  refine ite_t rfl ?_
  walk_at "rd"
  refine ⟨_, rfl, p, rfl, .inl ⟨⟨_, SqL.of (e1 _ _ hp)⟩, ?_⟩⟩
  refine r_lcM (n := ts.length) (k := 1) (by simpa using walk_list (xs := ts.map V.ref)) (fun _ => .bl true) (by omega) (fun H' e => SqL.of (e _ _ (e1 _ _ hp))) (fun _ => rfl) ?_ ?_
  · rintro j y H0 H' hj e0 ⟨rfl, hy⟩
    refine ⟨Ex.refl _, fun H3 e3 R r => ?_⟩
    obtain ⟨t, ht, rfl⟩ := ref_at hy
    obtain ⟨q, hq, hrow⟩ := ((tp.ex e1).ex (e0.trans e3)).at ht
    have hrow' : Sq H3 (.ref t) ([q.1, q.2].map V.int) := ⟨t, rfl, .inr hrow⟩
    walk_at "rd"
    refine .inl ⟨_, hrow', by simp, fun x hx => ?_, fun H4 e4 => ?_⟩
    · obtain ⟨i, _, rfl⟩ := List.mem_map.mp hx
      exact kn_int i
    · walk_at "rd"
      refine ite_t rfl ?_
      walk_at "rd"
      refine ⟨t, _, rfl, .inr (SqT.of (e4 _ _ hrow)), ?_⟩
      walk_at "rd"
      exact r H4 e4
  · intro q H2 hq e2 hl2
    exact all_true hl2 (k H2 (e1.trans e2))
def spAmong (K : PySem.W.Frag) : Sp := sp2 fun n v H Q _ => ∃ m i, n = .int m ∧ v = .int i ∧ 0 ≤ i ∧ i ≤ m - 1 ∧ Q v H
theorem ok_need_among {P : Program} {w : World} {K : PySem.W.Frag} {mg : Str → Option Value} {base : Heap} (T : Txt K mg) : ∃ fd, FnOk P w K mg base (L2.CX P w) 3 (He.ga K "need_among") fd ["places", "value"] (spAmong K) ∧ Binds K fd ["places", "value"] [] := by
  obtain ⟨fd, F⟩ := T.d_need_among
  obtain ⟨fd_is_within, F_is_within, B_is_within⟩ := ok_is_within (P := P) (w := w) (base := base) T
  refine ⟨fd, F.ok sc_need_among sp2_len (fun cdv A outer s H vs Q E hr h => ?_), F.bindsN fun _ _ _ _ _ _ us hl => match us, hl with | [_, _], _ => rfl⟩
  have hr_is_within : Room 2 _ := hr.mono (by decide)
  obtain ⟨n, v, rfl, m, i, rfl, rfl, i0, i1, q⟩ := sp2_is h
  refine ⟨_, (pss_cons (ps_if (pt_not (pt_val (pe_call F_is_within hr_is_within (by rfl) T.g_is_within T.k_is_within B_is_within .nil passL (pa_cons (pv 1) (pa_cons pe_int (pa_cons (pe_op op_sub (pv 0) pe_int) pa_nil)))))) (pss_one ps_never) pss_nil)
      (pss_one (ps_ret (pv 1)))), ?_⟩
  walk_at "rd"
  refine ⟨kn_int i, some 0, some (m - 1), rfl, rfl, ?_⟩
  have e : inB (.int i) (some 0) (some (m - 1)) = true := by rw [ib_in]; simp only [GX.ib, Bool.and_eq_true, decide_eq_true_eq]; exact ⟨i0, i1⟩
  rw [e]
  walk_at "rd"
  refine ite_f rfl ?_
  walk_at "rd"
  exact q
def spSorted (K : PySem.W.Frag) : Sp := sp2 fun n v H Q _ => ∃ (m : Int) (p : Addr) (ts : List Addr) (ps : List (Int × Int)), n = .int m ∧ v = .ref p ∧ H p = some (.lst (ts.map V.ref)) ∧ TP H ts ps ∧ ps.length ≤ 1000 ∧ GX.Ties m ps ∧ ∀ t us H', Ex H H' → H' t = some (.tup (us.map V.ref)) → TP H' us ps → Q (.ref t) H'
theorem r_dnewT {σ : L2.St} {H : Hp} {Q : VK} (q : ∀ p H', H p = none → Ex H H' → H' p = some (.dT []) → Q (.ref p) H') : tDNewT σ H Q := fun p hp => q p _ hp (Ex.new hp) upd_same
theorem pairK_inj {p q : Int × Int} (h : pairK p = pairK q) : p = q := by
  unfold pairK at h
  have h1 : p.1 = q.1 := by simpa using (List.cons.inj h).1
  have h2 : p.2 = q.2 := by
    have := (List.cons.inj (List.cons.inj h).2).1
    simpa using this
  exact Prod.ext h1 h2
theorem valV_no {kvs : List (List Key × V)} {k : List Key} (h : k ∉ kvs.map (·.1)) : valV kvs k = none := by
  cases e : valV kvs k with
  | none => rfl
  | some v =>
    exfalso
    have a := valV_any k kvs
    rw [e] at a
    obtain ⟨x, hx, hk⟩ := List.any_eq_true.mp a
    exact h (List.mem_map.mpr ⟨x, hx, of_decide_eq_true hk⟩)
theorem asc_no {ps : List (Int × Int)} (h : ps.Pairwise GX.lexLt) {i : Nat} {q : Int × Int} (hq : ps[i]? = some q) : q ∉ ps.take i := by
  intro hm
  obtain ⟨j, hj⟩ := List.getElem?_of_mem hm
  have jl : j < (ps.take i).length := (List.getElem?_eq_some_iff.mp hj).1
  rw [List.length_take] at jl
  rw [List.getElem?_take, if_pos (by omega)] at hj
  have il := (List.getElem?_eq_some_iff.mp hq).1
  have := List.pairwise_iff_getElem.mp h j i (by omega) il (by omega)
  rw [(List.getElem?_eq_some_iff.mp hj).2, (List.getElem?_eq_some_iff.mp hq).2] at this
  exact this.ne rfl
theorem srt_uniq {qs ps : List (Int × Int)} (h : qs.Perm ps) (a : SrtO.Srtd SrtO.lexB qs) (b : ps.Pairwise GX.lexLt) : qs = ps := by
  refine List.Perm.eq_of_pairwise (le := fun x y => SrtO.lexB y x = false) (fun x y _ _ h1 h2 => ?_) a (b.imp fun {x y} l => ?_) h
  · unfold SrtO.lexB at h1 h2
    obtain ⟨x1, x2⟩ := x
    obtain ⟨y1, y2⟩ := y
    simp only at h1 h2
    split at h1 <;> split at h2 <;> simp only [decide_eq_false_iff_not] at h1 h2
    · rename_i e1 e2
      subst e1
      rw [show x2 = y2 by omega]
    · rename_i e1 e2; exact absurd e1.symm e2
    · rename_i e1 e2; exact absurd e2.symm e1
    · rename_i e1 e2; omega
  · unfold SrtO.lexB
    unfold GX.lexLt at l
    split <;> simp only [decide_eq_false_iff_not] <;> omega
theorem ok_sorted_ties {P : Program} {w : World} {K : PySem.W.Frag} {mg : Str → Option Value} {base : Heap} (T : Txt K mg) : ∃ fd, FnOk P w K mg base (L2.CX P w) 4 (He.ga K "sorted_ties") fd ["places", "ties"] (spSorted K) ∧ Binds K fd ["places", "ties"] [] := by
  obtain ⟨fd, F⟩ := T.d_sorted_ties
  obtain ⟨fd_need_among, F_need_among, B_need_among⟩ := ok_need_among (P := P) (w := w) (base := base) T
  obtain ⟨fd_are_pairs, F_are_pairs, B_are_pairs⟩ := ok_are_pairs (P := P) (w := w) (base := base) T
  refine ⟨fd, F.ok sc_sorted_ties sp2_len (fun cdv A outer s H vs Q E hr h => ?_), F.bindsN fun _ _ _ _ _ _ us hl => match us, hl with | [_, _], _ => rfl⟩
  have hr_need_among : Room 3 _ := hr.mono (by decide)
  have hr_are_pairs : Room 3 _ := hr.mono (by decide)
  obtain ⟨n, v, rfl, m, p, ts, ps, rfl, rfl, hp, tp, hl, ti, k⟩ := sp2_is h
  refine ⟨_, (pss_cons (ps_if (pt_not (pt_val (pe_call F_are_pairs hr_are_pairs (by rfl) T.g_are_pairs T.k_are_pairs B_are_pairs .nil passL (pa_cons (pv 1) pa_nil)))) (pss_one ps_never) pss_nil)
      (pss_cons (ps_set (i := 2) sc_sorted_ties.nd rfl (Or.inl rfl) pe_dnewT)
      (pss_cons (ps_for (passes_of rfl) rfl (pi_seq (pv 1)) (pg_tup rfl (pgs_cons (pg_name (i := 3) sc_sorted_ties.nd rfl (Or.inl rfl)) (pgs_cons (pg_name (i := 4) sc_sorted_ties.nd rfl (Or.inl rfl)) pgs_nil))) (pss_cons (ps_expr (pe_call F_need_among hr_need_among (by rfl) T.g_need_among T.k_need_among B_need_among .nil passL (pa_cons (pv 0) (pa_cons (pv 3) pa_nil))))
      (pss_cons (ps_expr (pe_call F_need_among hr_need_among (by rfl) T.g_need_among T.k_need_among B_need_among .nil passL (pa_cons (pv 0) (pa_cons (pv 4) pa_nil))))
      (pss_cons (ps_if (pt_cmpR op_eq (pv 3) (pv 4) (nomark _)) (pss_one ps_never) pss_nil)
      (pss_cons (ps_set (i := 5) sc_sorted_ties.nd rfl (Or.inl rfl) (pe_tup (pa_cons (pe_callB (call_min2 rfl) (by rfl) T.b_min (by decide +kernel) (pa_cons (pv 3) (pa_cons (pv 4) pa_nil))) (pa_cons (pe_callB (call_max2 rfl) (by rfl) T.b_max (by decide +kernel) (pa_cons (pv 3) (pa_cons (pv 4) pa_nil))) pa_nil))))
      (pss_cons (ps_if (pt_cmp (pc_din (Nat.lt_of_le_of_lt (Nat.add_le_add_left (by decide) _) hr.units) (pv 5) (pv 2))) (pss_one ps_never) pss_nil)
      (pss_one (ps_dput (Nat.lt_of_le_of_lt (Nat.add_le_add_left (by decide) _) hr.units) (pv 2) (pv 5) pe_bl (by rfl)))))))))
      (pss_one (ps_ret (pe_callTy (kx_tupOf (K := K) rfl) (by rfl) T.b_tuple (by decide +kernel) (pa_cons (pe_callB (cr_sortedDP (by rfl)) (by rfl) T.b_sorted (by decide +kernel) (pa_cons (pv 2) pa_nil)) pa_nil))))))), ?_⟩
  walk_at "rd"
  refine ⟨p, ts, ps, rfl, hp, tp, hl, fun H1 e1 => ?_⟩
  walk_at "rd"
  refine ite_f rfl ?_
  walk_at "rd"
  refine r_dnewT fun d H2 hd e2 h2 => ?_
  have lts := tp.1
  have tp2 := (tp.ex e1).ex e2
  have hp2 := e2 _ _ (e1 _ _ hp)
  walk_at "rd"
  refine ⟨_, rfl, p, rfl, .inl ⟨⟨_, SqL.of hp2⟩, ?_⟩⟩
  refine for_of (walk_list (xs := ts.map V.ref)) (fun i σ H' => Ex H1 H' ∧ (∃ kvs, H' d = some (.dT kvs) ∧ kvs.map (·.1) = (ps.take i).map pairK) ∧ ∃ s3 s4 s5, σ = [some (.int m), some (.ref p), some (.ref d), s3, s4, s5]) ⟨e2, ⟨[], h2, rfl⟩, _, _, _, rfl⟩ (fun i σ H' _ hh => SqL.of (hh.1 _ _ (e1 _ _ hp))) ?_ ?_
  · rintro i x σ H3 H3' hi ⟨e3, ⟨kvs, h3, hks⟩, s3, s4, s5, rfl⟩ ⟨rfl, hx⟩
    obtain ⟨t, ht, rfl⟩ := ref_at hx
    obtain ⟨q, hq, hrow⟩ := ((tp.ex e1).ex e3).at ht
    have tq := ti.1 q (List.mem_of_getElem? hq)
    have t1 := tq.a
    have t2 := tq.b
    have t3 := tq.c
    have lk : kvs.length ≤ 1000 := by
      have := congrArg List.length hks
      rw [List.length_map, List.length_map, List.length_take] at this
      omega
    refine r_gTup hrow rfl (r_gCons (r_gName (r_gCons (r_gName (r_gNil ?_)))))
    walk_at "rd"
    refine ⟨m, q.1, rfl, rfl, t1, by omega, ?_⟩
    walk_at "rd"
    refine ⟨m, q.2, rfl, rfl, by omega, t3, ?_⟩
    walk_at "rd"
    refine ite_f (decide_eq_false (by omega)) ?_
    walk_at "rd"
    refine ⟨_, _, rfl, ?_⟩
    walk_at "rd"
    refine ⟨_, _, rfl, ?_⟩
    rw [if_neg (show ¬ q.2 < q.1 by omega), if_pos (show q.2 > q.1 by omega)]
    walk_at "rd"
    refine r_newT (sz_le (by simp)) fun t' H4 ht' e4 h4 => ?_
    have h4' : H4 t' = some (.tup ((pairK q).map kV)) := h4
    have no : valV kvs (pairK q) = none := valV_no (by
      rw [hks]
      intro z
      obtain ⟨q', hq', e⟩ := List.mem_map.mp z
      rw [pairK_inj e] at hq'
      exact asc_no ti.2 hq hq')
    walk_at "rd"
    refine ⟨_, rfl, _, rfl, d, _, rfl, DGet.t (e4 _ _ h3) h4', ?_⟩
    rw [no]
    refine ⟨_, rfl, ite_f rfl ?_⟩
    walk_at "rd"
    refine ⟨_, rfl, _, rfl, d, _, rfl, DPut.t (e4 _ _ h3) h4' (sz_lt (by omega)), ?_⟩
    rw [putK_new _ no]
    refine ⟨Ex.mut (e3.trans e4) hd, ⟨_, upd_same, ?_⟩, _, _, _, rfl⟩
    rw [List.map_append, hks, List.take_add_one, hq, List.map_append]
    rfl
  · rintro σ H3 ⟨e3, ⟨kvs, h3, hks⟩, s3, s4, s5, rfl⟩
    rw [List.length_map, lts, List.take_length] at hks
    walk_at "rd"
    refine ⟨d, kvs, ps, rfl, .inl h3, hks, fun l us qs pr sr lu hu hl' => ?_⟩
    obtain rfl := srt_uniq pr sr ti.2
    have e4 : Ex H3 (upd H3 l (.lst (us.map V.ref))) := Ex.new hl'
    have h4 : (upd H3 l (.lst (us.map V.ref))) l = some (.lst (us.map V.ref)) := upd_same
    generalize upd H3 l (.lst (us.map V.ref)) = H4 at e4 h4 ⊢
    refine r_tupL (SqL.of h4) fun t5 H5 _ e5 h5 => ?_
    exact k t5 us H5 ((e1.trans e3).trans (e4.trans e5)) h5 (TP.ex ⟨lu, hu⟩ (e4.trans e5))

end K02
namespace K02
open PySem PySem.Spec PyProof.Rows L2 GS TL LamX
local macro_rules | `(tactic| walk_at "rd") => `(tactic| (repeat (first
  | with_reducible refine r_next ?_
  | with_reducible refine r_seq ?_
  | with_reducible refine r_ret ?_
  | with_reducible refine r_ifS ?_
  | with_reducible refine r_asg ?_
  | with_reducible refine r_drop ?_
  | with_reducible refine r_op ?_
  | with_reducible refine r_un ?_
  | with_reducible refine r_cbInt ?_
  | with_reducible refine r_cbAbs ?_
  | with_reducible refine r_cbLen ?_
  | with_reducible refine r_cbList ?_
  | with_reducible refine r_cbTup ?_
  | with_reducible refine r_iEnT ?_
  | with_reducible refine r_iEnL ?_
  | with_reducible refine r_zipA ?_
  | with_reducible refine r_zipX ?_
  | with_reducible refine r_augS ?_
  | with_reducible refine r_cb ?_
  | with_reducible refine r_call ?_
  | with_reducible refine r_make ?_
  | with_reducible refine r_callN0 ?_
  | with_reducible refine r_makeK0 ?_
  | with_reducible refine r_makeS ?_
  | with_reducible refine r_callS ?_
  | with_reducible refine r_cons ?_
  | with_reducible refine r_nil ?_
  | with_reducible refine r_test ?_
  | with_reducible refine r_B ?_
  | with_reducible refine r_and ?_
  | with_reducible refine r_or ?_
  | with_reducible refine r_not ?_
  | with_reducible refine r_andV ?_
  | with_reducible refine r_orV ?_
  | with_reducible refine r_notV ?_
  | with_reducible refine r_if ?_
  | with_reducible refine r_tup ?_
  | with_reducible refine r_lst ?_
  | with_reducible refine r_c ?_
  | with_reducible refine r_lc ?_
  | with_reducible refine r_chain ?_
  | with_reducible refine r_iT ?_
  | with_reducible refine r_iL ?_
  | with_reducible refine r_iR1 ?_
  | with_reducible refine r_iR2 ?_
  | with_reducible refine r_iR3 ?_
  | with_reducible refine r_asgG ?_
  | with_reducible refine r_gSub ?_
  | with_reducible refine r_for ?_
  | with_reducible refine r_smeth ?_
  | with_reducible refine r_par ?_
  | with_reducible refine r_parK ?_
  | with_reducible refine r_gCons ?_
  | with_reducible refine r_gNil ?_
  | with_reducible refine r_gName ?_
  | with_reducible refine r_intI ?_
  | with_reducible refine r_intB ?_
  | with_reducible refine r_absI ?_
  | with_reducible refine r_k ?_
  | with_reducible refine r_kV ?_
  | ((with_reducible show tVar _ _ _ _); refine r_var3 ?_ (by rfl))
  | with_reducible refine r_I0 ?_
  | with_reducible refine r_U ?_
  | with_reducible refine r_eqI ?_
  | with_reducible refine r_neI ?_
  | dsimp only)))
local macro_rules | `(tactic| walk_at "rx") => `(tactic| (repeat (first
  | with_reducible refine r_next ?_
  | with_reducible refine r_ret ?_
  | with_reducible refine r_ifS ?_
  | with_reducible refine r_asg ?_
  | with_reducible refine r_drop ?_
  | with_reducible refine r_op ?_
  | with_reducible refine r_un ?_
  | with_reducible refine r_cbInt ?_
  | with_reducible refine r_cbAbs ?_
  | with_reducible refine r_cbLen ?_
  | with_reducible refine r_cbList ?_
  | with_reducible refine r_cbTup ?_
  | with_reducible refine r_iEnT ?_
  | with_reducible refine r_iEnL ?_
  | with_reducible refine r_zipA ?_
  | with_reducible refine r_zipX ?_
  | with_reducible refine r_augS ?_
  | with_reducible refine r_cb ?_
  | with_reducible refine r_call ?_
  | with_reducible refine r_make ?_
  | with_reducible refine r_callN0 ?_
  | with_reducible refine r_makeK0 ?_
  | with_reducible refine r_makeS ?_
  | with_reducible refine r_callS ?_
  | with_reducible refine r_cons ?_
  | with_reducible refine r_nil ?_
  | with_reducible refine r_test ?_
  | with_reducible refine r_B ?_
  | with_reducible refine r_and ?_
  | with_reducible refine r_or ?_
  | with_reducible refine r_not ?_
  | with_reducible refine r_andV ?_
  | with_reducible refine r_orV ?_
  | with_reducible refine r_notV ?_
  | with_reducible refine r_if ?_
  | with_reducible refine r_tup ?_
  | with_reducible refine r_lst ?_
  | with_reducible refine r_c ?_
  | with_reducible refine r_lc ?_
  | with_reducible refine r_chain ?_
  | with_reducible refine r_iT ?_
  | with_reducible refine r_iL ?_
  | with_reducible refine r_iR1 ?_
  | with_reducible refine r_iR2 ?_
  | with_reducible refine r_iR3 ?_
  | with_reducible refine r_asgG ?_
  | with_reducible refine r_gSub ?_
  | with_reducible refine r_for ?_
  | with_reducible refine r_smeth ?_
  | with_reducible refine r_par ?_
  | with_reducible refine r_parK ?_
  | with_reducible refine r_gCons ?_
  | with_reducible refine r_gNil ?_
  | with_reducible refine r_gName ?_
  | with_reducible refine r_intI ?_
  | with_reducible refine r_intB ?_
  | with_reducible refine r_absI ?_
  | with_reducible refine r_k ?_
  | with_reducible refine r_kV ?_
  | ((with_reducible show tVar _ _ _ _); refine r_var3 ?_ (by rfl))
  | with_reducible refine r_I0 ?_
  | with_reducible refine r_U ?_
  | with_reducible refine r_eqI ?_
  | with_reducible refine r_neI ?_
  | dsimp only)))
/-! ### webs made -/
def spNear (K : PySem.W.Frag) : Sp := sp2 fun n v H Q _ => ∃ (m : Int) (t : Addr) (us : List Addr) (ps : List (Int × Int)), n = .int m ∧ v = .ref t ∧ H t = some (.tup (us.map V.ref)) ∧ TP H us ps ∧ GX.Ties m ps ∧ 1 ≤ m ∧ m ≤ 60 ∧ ps.length ≤ 1000 ∧
  ∀ (r : Addr) (rs : List Addr) H', Ex H H' → H' r = some (.tup (rs.map V.ref)) → rs.length = m.toNat → (∀ c ∈ rs, ∃ xs : List Int, H' c = some (.tup (xs.map V.int))) → Q (.ref r) H'
theorem ok_near_places {P : Program} {w : World} {K : PySem.W.Frag} {mg : Str → Option Value} {base : Heap} (T : Txt K mg) : ∃ fd, FnOk P w K mg base (L2.CX P w) 1 (He.ga K "near_places") fd ["places", "ties"] (spNear K) ∧ Binds K fd ["places", "ties"] [] := by
  obtain ⟨fd, F⟩ := T.d_near_places
  refine ⟨fd, F.ok sc_near_places sp2_len (fun cdv A outer s H vs Q E hr h => ?_), F.bindsN fun _ _ _ _ _ _ us hl => match us, hl with | [_, _], _ => rfl⟩
  obtain ⟨n, v, rfl, m, t, us, ps, rfl, rfl, ht, tp, ti, m1, m60, hl, k⟩ := sp2_is h
  refine ⟨_, (pss_cons (ps_setLc (i := 2) (own := [("_", 3)]) (g := gName 3) (tt := tYes)  rfl sc_near_places.nd rfl rfl (sw_true rfl rfl rfl (by decide +kernel)) (pi_range1 (by rfl) T.b_range (pa_cons (pv 0) pa_nil)) (blkOk_by (own := [("_", 3)]) (N := ["places", "ties", "near", "_", "one", "other", "row"]) (sc := defScope s_near_places) (by decide +kernel)) (fun _ _ _ _ _ => (pg_name (i := 3) sc_near_places.nd rfl (Or.inl rfl))) (fun _ _ _ _ _ => pts_nil) (fun _ _ _ _ _ => (pe_lst pa_nil)))
      (pss_cons (ps_for (passes_of rfl) rfl (pi_tup (pv 1)) (pg_tup rfl (pgs_cons (pg_name (i := 4) sc_near_places.nd rfl (Or.inl rfl)) (pgs_cons (pg_name (i := 5) sc_near_places.nd rfl (Or.inl rfl)) pgs_nil))) (pss_cons (ps_expr (pe_bm PySem.F.plainAttrs_list PySem.F.slot_list_append PySem.F.type_list_append mt_append (pe_ix (kx_ixl rfl) (pv 2) (pv 4) (fun _ _ => rfl)) (pa_cons (pv 5) pa_nil)))
      (pss_one (ps_expr (pe_bm PySem.F.plainAttrs_list PySem.F.slot_list_append PySem.F.type_list_append mt_append (pe_ix (kx_ixl rfl) (pv 2) (pv 5) (fun _ _ => rfl)) (pa_cons (pv 4) pa_nil))))))
      (pss_one (ps_ret (pe_callTy (kx_tupOf (K := K) rfl) (by rfl) T.b_tuple (by decide +kernel) (pa_cons (pe_lc (own := [("row", 6)]) (g := gName 6) (tt := tYes)  rfl sc_near_places.nd (pi_list (pv 2)) (blkOk_by (own := [("row", 6)]) (N := ["places", "ties", "near", "_", "one", "other", "row"]) (sc := defScope s_near_places) (by decide +kernel)) (fun _ _ _ _ _ => (pg_name (i := 6) sc_near_places.nd rfl (Or.inl rfl))) (fun _ _ _ _ _ => pts_nil) (fun _ _ _ _ _ => (pe_callTy (kx_tupOf (K := K) rfl) (by rfl) T.b_tuple (by decide +kernel) (pa_cons (pe_callB (kx_sortI (K := K) rfl) (by rfl) T.b_sorted (by decide +kernel) (pa_cons (pv 6) pa_nil)) pa_nil)))) pa_nil)))))), ?_⟩
  obtain ⟨d, rfl⟩ : ∃ d : Nat, m = (d : Int) := ⟨m.toNat, by omega⟩
  walk_at "rd"
  refine ⟨_, rfl, by omega, by omega, ?_⟩
  rw [Int.toNat_natCast]
  refine r_lcLs (n := d) (k := 3) walk_range (fun _ => []) (by omega) (fun _ _ => trivial) (fun _ => rfl) ?_ ?_
  · rintro i y H1 H2 hi e1 ⟨rfl, rfl⟩
    refine ⟨Ex.refl _, fun R kR => ?_⟩
    walk_at "rd"
    exact r_newL (Nat.zero_le _) fun p H3 hp e3 h3 => kR p H3 e3 hp h3
  · intro L cs H1 hL e1 h1 lcs nd hn hr
    have Lno : ∀ c ∈ cs, c ≠ L := fun c hc z => (List.nodup_cons.mp nd).1 (by rw [← z]; exact hc)
    walk_at "rd"
    refine ⟨t, rfl, ⟨_, SqT.of (e1 _ _ ht)⟩, ?_⟩
    refine for_of (walk_tup (xs := us.map V.ref)) (fun i σ H' => Ex H H' ∧ H' L = some (.lst (cs.map V.ref)) ∧ (∀ c ∈ cs, ∃ xs : List Int, H' c = some (.lst (xs.map V.int)) ∧ xs.length ≤ 2 * i) ∧ ∃ s3 s4 s5 s6, σ = [some (.int d), some (.ref t), some (.ref L), s3, s4, s5, s6])
      ⟨e1, h1, fun c hc => ?_, _, _, _, _, rfl⟩ (fun i σ H' _ hh => SqT.of (hh.1 _ _ ht)) ?_ ?_
    · obtain ⟨j, hj⟩ := List.getElem?_of_mem hc
      exact ⟨[], hr j c hj, Nat.zero_le _⟩
    · rintro i x σ H3 H3' hi ⟨e3, h3, rows, s3, s4, s5, s6, rfl⟩ ⟨rfl, hx⟩
      rw [List.length_map, tp.1] at hi
      obtain ⟨u, hu, rfl⟩ := ref_at hx
      obtain ⟨q, hq, hrow⟩ := (tp.ex e3).at hu
      have tq := ti.1 q (List.mem_of_getElem? hq)
      have t1 := tq.a
      have t2 := tq.b
      have t3 := tq.c
      have push : ∀ {H4 : Hp} {c : Addr} {xs : List Int} (v : Int) (b : Nat), Ex H H4 → H4 L = some (.lst (cs.map V.ref)) → (∀ c ∈ cs, ∃ xs : List Int, H4 c = some (.lst (xs.map V.int)) ∧ xs.length ≤ b) → c ∈ cs → H4 c = some (.lst (xs.map V.int)) → xs.length ≤ b →
          Ex H (upd H4 c (.lst (xs.map V.int ++ [V.int v]))) ∧ (upd H4 c (.lst (xs.map V.int ++ [V.int v]))) L = some (.lst (cs.map V.ref)) ∧ ∀ c' ∈ cs, ∃ ys : List Int, (upd H4 c (.lst (xs.map V.int ++ [V.int v]))) c' = some (.lst (ys.map V.int)) ∧ ys.length ≤ b + 1 := by
        intro H4 c xs v b e4 h4 rows4 hc hcx hb
        have hcn : H c = none := hn c hc
        refine ⟨Ex.mut e4 hcn, by rw [upd_ne (Lno c hc).symm]; exact h4, fun c' hc' => ?_⟩
        by_cases z : c' = c
        · subst z
          refine ⟨xs ++ [v], by rw [upd_same, List.map_append]; rfl, by simp; omega⟩
        · obtain ⟨xs', h1, h2⟩ := rows4 c' hc'
          exact ⟨xs', by rw [upd_ne z]; exact h1, by omega⟩
      have at_ : ∀ {a : Int}, 0 ≤ a → a ≤ d - 1 → ∃ c, c ∈ cs ∧ atI (cs.map V.ref) a = some (.ref c) := fun {a} a0 a1 => by
        obtain ⟨j, rfl⟩ : ∃ j : Nat, a = (j : Int) := ⟨a.toNat, by omega⟩
        have hj : j < cs.length := by omega
        refine ⟨cs[j], List.getElem_mem hj, ?_⟩
        exact atI_nat (by rw [List.getElem?_map]; simp [hj])
      refine r_gTup hrow rfl (r_gCons (r_gName (r_gCons (r_gName (r_gNil ?_)))))
      obtain ⟨c1, hc1, ha1⟩ := at_ (a := q.1) t1 (by omega)
      obtain ⟨c2, hc2, ha2⟩ := at_ (a := q.2) (by omega) t3
      obtain ⟨xs1, hx1, hl1⟩ := rows c1 hc1
      walk_at "rd"
      refine r_bm ?_
      walk_at "rd"
      refine r_ixL h3 ha1 ?_
      refine ⟨tyL hx1, ?_⟩
      walk_at "rd"
      refine r_app hx1 (by rw [List.length_map]; omega) ?_
      obtain ⟨e4, h4, rows4⟩ := push q.2 (2 * i) e3 h3 rows hc1 hx1 hl1
      generalize upd H3' c1 (.lst (xs1.map V.int ++ [V.int q.2])) = H4 at e4 h4 rows4 ⊢
      obtain ⟨xs2, hx2, hl2⟩ := rows4 c2 hc2
      walk_at "rd"
      refine r_bm ?_
      walk_at "rd"
      refine r_ixL h4 ha2 ?_
      refine ⟨tyL hx2, ?_⟩
      walk_at "rd"
      refine r_app hx2 (by rw [List.length_map]; omega) ?_
      obtain ⟨e5, h5, rows5⟩ := push q.1 (2 * i + 1) e4 h4 rows4 hc2 hx2 hl2
      exact ⟨e5, h5, rows5, _, _, _, _, rfl⟩
    · rintro σ H3 ⟨e3, h3, rows, s3, s4, s5, s6, rfl⟩
      walk_at "rd"
      refine ⟨L, rfl, ⟨_, SqL.of h3⟩, ?_⟩
      refine r_lcP (n := cs.length) (by simpa using walk_list (xs := cs.map V.ref)) (fun D i ys H' => ∃ rs : List Addr, ys = rs.map V.ref ∧ D ∉ rs ∧ ∀ c ∈ rs, ∃ xs : List Int, H' c = some (.tup (xs.map V.int))) (by omega) (fun H' e => SqL.of (e _ _ h3))
        (fun D H' e => ⟨[], rfl, by simp, (fun c hc => nomatch hc)⟩) (fun D i ys H4 H5 ⟨rs, g1, g2, g3⟩ bu => ⟨rs, g1, g2, fun c hc => let ⟨xs, hx⟩ := g3 c hc; ⟨xs, bu _ _ (fun z => g2 (by rw [← z]; exact hc)) hx⟩⟩) ?_ ?_
      · rintro D i y ys H4 H5 hi hD e4 hdD ⟨rs, rfl, g2, g3⟩ ⟨rfl, hy⟩ N hN
        obtain ⟨c, hc, rfl⟩ := ref_at hy
        obtain ⟨xs, hx, _⟩ := rows c (List.mem_of_getElem? hc)
        refine r_gName ⟨rfl, ?_⟩
        walk_at "rd"
        refine ⟨c, xs, rfl, SqL.of (e4 _ _ hx), fun ns' p pm ps' hp => ?_⟩
        have e5 : Ex H5 (upd H5 p (.lst (ns'.map V.int))) := Ex.new hp
        have h5 : (upd H5 p (.lst (ns'.map V.int))) p = some (.lst (ns'.map V.int)) := upd_same
        generalize upd H5 p (.lst (ns'.map V.int)) = H7 at e5 h5 ⊢
        refine r_tupL (SqL.of h5) fun l H6 hl' e6 h6 => ?_
        have lD : l ≠ D := fun z => by rw [z, e5 _ _ hdD] at hl'; cases hl'
        refine hN _ H6 (e5.trans e6) ⟨rs ++ [l], by simp, fun z => ?_, fun c' hc' => ?_⟩
        · rcases List.mem_append.mp z with z | z
          · exact g2 z
          · exact lD (List.mem_singleton.mp z).symm
        · rcases List.mem_append.mp hc' with z | z
          · obtain ⟨xs', hx'⟩ := g3 c' z
            exact ⟨xs', e6 _ _ (e5 _ _ hx')⟩
          · rw [List.mem_singleton.mp z]
            exact ⟨_, h6⟩
      · rintro D ys H4 hD e4 hdD hlen ⟨rs, rfl, g2, g3⟩
        refine r_tupL (SqL.of hdD) fun l H5 _ e5 h5 => ?_
        refine k l rs H5 ((e3.trans e4).trans e5) h5 (by rw [List.length_map] at hlen; omega) fun c hc => ?_
        obtain ⟨xs, hx⟩ := g3 c hc
        exact ⟨xs, e5 _ _ hx⟩
/-- all but instances is kept -/
def Kt (H H' : Hp) : Prop := ∀ t o, H t = some o → (∀ C dx fs, o ≠ .ins C dx fs) → H' t = some o
theorem Kt.ex {H H' : Hp} (e : Ex H H') : Kt H H' := fun t o h _ => e t o h
theorem Kt.trans {H H1 H2 : Hp} (a : Kt H H1) (b : Kt H1 H2) : Kt H H2 := fun t o h n => b t o (a t o h n) n
theorem Kt.put {H : Hp} {p C dx : Addr} {fs : List (Str × V)} {o : HO} (h : H p = some (.ins C dx fs)) : Kt H (upd H p o) := fun t u q n => by
  rw [upd_ne (by rintro rfl; rw [h] at q; exact n _ _ _ (Option.some.inj q).symm)]
  exact q
theorem TP.kt {H H' : Hp} {ts : List Addr} {ps : List (Int × Int)} (h : TP H ts ps) (e : Kt H H') : TP H' ts ps := ⟨h.1, fun j t p h1 h2 => e _ _ (h.2 j t p h1 h2) (fun _ _ _ z => by cases z)⟩
theorem max_is (l : List Int) (h : 0 < l.length) : ∃ m ∈ l, ∀ y ∈ l, y ≤ m := by
  induction l with
  | nil => simp at h
  | cons a l ih =>
    by_cases c : 0 < l.length
    · obtain ⟨m, hm, hy⟩ := ih c
      by_cases d : a ≤ m
      · exact ⟨m, List.mem_cons_of_mem _ hm, fun y h => (List.mem_cons.mp h).elim (fun z => by rw [z]; exact d) (hy y)⟩
      · refine ⟨a, List.mem_cons_self, fun y h => (List.mem_cons.mp h).elim (fun z => by rw [z]; exact Int.le_refl _) fun z => ?_⟩
        have := hy y z
        omega
    · have : l = [] := List.length_eq_zero_iff.mp (by omega)
      subst this
      exact ⟨a, List.mem_cons_self, fun y h => by rw [List.mem_singleton.mp h]; exact Int.le_refl _⟩
def spWInit (K : PySem.W.Frag) : Sp := sp3 fun a n v H Q _ => ∃ (p dx : Addr) (m : Int) (l : Addr) (ts : List Addr) (ps : List (Int × Int)), a = .ref p ∧ n = .int m ∧ v = .ref l ∧ H p = some (.ins (He.ga K "Web") dx []) ∧ H l = some (.lst (ts.map V.ref)) ∧ TP H ts ps ∧ ps.length ≤ 1000 ∧ 1 ≤ m ∧ m ≤ 60 ∧ GX.Ties m ps ∧
  ∀ t us u mm H', Bu p H H' → H' p = some (.ins (He.ga K "Web") dx (wf m (.ref t) u mm)) → H' t = some (.tup (us.map V.ref)) → TP H' us ps → Q .non H'
theorem ok_Web_init {P : Program} {w : World} {K : PySem.W.Frag} {mg : Str → Option Value} {base : Heap} (T : Txt K mg) : ∃ fd, FnOk P w K mg base (L2.CX P w) 5 (He.ma K (He.ga K "Web") "__init__") fd ["self", "places", "ties"] (spWInit K) ∧ Binds K fd ["self", "places", "ties"] [] := by
  obtain ⟨fd, F⟩ := T.d_Web_init
  obtain ⟨fd_near_places, F_near_places, B_near_places⟩ := ok_near_places (P := P) (w := w) (base := base) T
  obtain ⟨fd_sorted_ties, F_sorted_ties, B_sorted_ties⟩ := ok_sorted_ties (P := P) (w := w) (base := base) T
  obtain ⟨fd_need_integer, F_need_integer, B_need_integer⟩ := ok_need_integer (P := P) (w := w) (base := base) T
  refine ⟨fd, F.ok sc_Web_init sp3_len (fun cdv A outer s H vs Q E hr h => ?_), F.bindsN fun _ _ _ _ _ _ us hl => match us, hl with | [_, _, _], _ => rfl⟩
  have hr_near_places : Room 1 _ := hr.mono (by decide)
  have hr_sorted_ties : Room 4 _ := hr.mono (by decide)
  have hr_need_integer : Room 3 _ := hr.mono (by decide)
  obtain ⟨a, n, v, rfl, p, dx, m, l, ts, ps, rfl, rfl, rfl, hp, hl, tp, lps, m1, m60, ti, k⟩ := sp3_is h
  refine ⟨_, (pss_cons (ps_fld (pv 0) (pe_call F_need_integer hr_need_integer (by rfl) T.g_need_integer T.k_need_integer B_need_integer .nil passL (pa_cons (pv 1) (pa_cons pe_str (pa_cons pe_int (pa_cons (pe_gint rfl T.c_MOST_PLACES) pa_nil))))) rfl)
      (pss_cons (ps_fld (pv 0) (pe_call F_sorted_ties hr_sorted_ties (by rfl) T.g_sorted_ties T.k_sorted_ties B_sorted_ties .nil passL (pa_cons (pv 1) (pa_cons (pv 2) pa_nil))) rfl)
      (pss_cons (ps_fld (pv 0) (pe_call F_near_places hr_near_places (by rfl) T.g_near_places T.k_near_places B_near_places .nil passL (pa_cons (pv 1) (pa_cons (kx_fld rfl (pv 0) rfl) pa_nil))) rfl)
      (pss_one (ps_fld (pv 0) (pe_callB (kx_max (K := K) rfl rfl) (by rfl) T.b_max (by decide +kernel) (pa_cons (pe_lc (own := [("row", 3)]) (g := gName 3) (tt := tYes)  rfl sc_Web_init.nd (pi_tup (kx_fld rfl (pv 0) rfl)) (blkOk_by (own := [("row", 3)]) (N := ["self", "places", "ties", "row"]) (sc := defScope s_Web_init) (by decide +kernel)) (fun _ _ _ _ _ => (pg_name (i := 3) sc_Web_init.nd rfl (Or.inl rfl))) (fun _ _ _ _ _ => pts_nil) (fun _ _ _ _ _ => (pe_callB (kx_lens rfl) (by rfl) T.b_len PySem.boot_len (pa_cons (pv 3) pa_nil)))) pa_nil)) rfl))))), ?_⟩
  walk_at "rd"
  refine ⟨_, rfl, kn_int m, some 1, some 60, _, rfl, rfl, rfl, by rw [ib_in]; simp only [GX.ib, Bool.and_eq_true, decide_eq_true_eq]; exact ⟨m1, m60⟩, ?_⟩
  refine ⟨_, rfl, p, _, dx, [], rfl, hp, T.cl_Web, T.na_Web_places, by decide, ?_⟩
  have b1 : Bu p H (upd H p (.ins (He.ga K "Web") dx (putF "places" (.int m) []))) := Bu.upd
  have kt1 : Kt H (upd H p (.ins (He.ga K "Web") dx (putF "places" (.int m) []))) := Kt.put hp
  have hp1 : (upd H p (.ins (He.ga K "Web") dx (putF "places" (.int m) []))) p = some (.ins (He.ga K "Web") dx (putF "places" (.int m) [])) := upd_same
  generalize upd H p (.ins (He.ga K "Web") dx (putF "places" (.int m) [])) = H1 at b1 kt1 hp1 ⊢
  walk_at "rd"
  refine r_fldS ?_
  walk_at "rd"
  refine ⟨m, l, ts, ps, rfl, rfl, kt1 _ _ hl (fun _ _ _ z => by cases z), tp.kt kt1, lps, ti, fun t us H2 e2 ht tp2 => ?_⟩
  have hp2 := e2 _ _ hp1
  refine ⟨_, rfl, p, _, dx, _, rfl, hp2, T.cl_Web, T.na_Web_ties, (by show 1 < 1000; decide), ?_⟩
  have b3 : Bu p H2 (upd H2 p (.ins (He.ga K "Web") dx (putF "ties" (.ref t) (putF "places" (.int m) [])))) := Bu.upd
  have kt3 : Kt H2 (upd H2 p (.ins (He.ga K "Web") dx (putF "ties" (.ref t) (putF "places" (.int m) [])))) := Kt.put hp2
  have hp3 : (upd H2 p (.ins (He.ga K "Web") dx (putF "ties" (.ref t) (putF "places" (.int m) [])))) p = some (.ins (He.ga K "Web") dx (putF "ties" (.ref t) (putF "places" (.int m) []))) := upd_same
  generalize upd H2 p (.ins (He.ga K "Web") dx (putF "ties" (.ref t) (putF "places" (.int m) []))) = H3 at b3 kt3 hp3 ⊢
  have ht3 := kt3 _ _ ht (fun _ _ _ z => by cases z)
  have tp3 := tp2.kt kt3
  walk_at "rd"
  refine r_fldS ?_
  walk_at "rd"
  refine ⟨_, rfl, p, _, dx, _, _, rfl, hp3, T.cl_Web, T.na_Web_ties, rfl, ?_⟩
  walk_at "rd"
  refine ⟨m, t, us, ps, rfl, rfl, ht3, tp3, ti, m1, m60, lps, fun r rs H4 e4 hr lr hrs => ?_⟩
  have hp4 := e4 _ _ hp3
  refine ⟨_, rfl, p, _, dx, _, rfl, hp4, T.cl_Web, T.na_Web__near, (by show 2 < 1000; decide), ?_⟩
  have b5 : Bu p H4 (upd H4 p (.ins (He.ga K "Web") dx (putF "_near" (.ref r) (putF "ties" (.ref t) (putF "places" (.int m) []))))) := Bu.upd
  have kt5 : Kt H4 (upd H4 p (.ins (He.ga K "Web") dx (putF "_near" (.ref r) (putF "ties" (.ref t) (putF "places" (.int m) []))))) := Kt.put hp4
  have hp5 : (upd H4 p (.ins (He.ga K "Web") dx (putF "_near" (.ref r) (putF "ties" (.ref t) (putF "places" (.int m) []))))) p = some (.ins (He.ga K "Web") dx (putF "_near" (.ref r) (putF "ties" (.ref t) (putF "places" (.int m) [])))) := upd_same
  generalize upd H4 p (.ins (He.ga K "Web") dx (putF "_near" (.ref r) (putF "ties" (.ref t) (putF "places" (.int m) [])))) = H5 at b5 kt5 hp5 ⊢
  have hr5 := kt5 _ _ hr (fun _ _ _ z => by cases z)
  walk_at "rd"
  refine r_fldS ?_
  walk_at "rd"
  refine ⟨_, rfl, p, _, dx, _, _, rfl, hp5, T.cl_Web, T.na_Web__near, rfl, ?_⟩
  walk_at "rd"
  refine ⟨r, rfl, ⟨_, SqT.of hr5⟩, ?_⟩
  refine r_lcP (n := rs.length) (by simpa using walk_tup (xs := rs.map V.ref)) (fun D i ys H' => ∃ ns : List Int, ys = ns.map V.int ∧ ns.length = i) (by omega) (fun H' e => SqT.of (e _ _ hr5))
    (fun D H' e => ⟨[], rfl, rfl⟩) (fun D i ys H4 H5 h bu => h) ?_ ?_
  · rintro D i y ys H6 H7 hi hD e6 hdD ⟨ns, rfl, g2⟩ ⟨rfl, hy⟩ N hN
    obtain ⟨c, hc, rfl⟩ := ref_at hy
    obtain ⟨xs, hx⟩ := hrs c (List.mem_of_getElem? hc)
    refine r_gName ⟨rfl, ?_⟩
    walk_at "rd"
    refine ⟨c, _, rfl, .inr (SqT.of (e6 _ _ (kt5 _ _ hx (fun _ _ _ z => by cases z)))), ?_⟩
    exact hN _ _ (Ex.refl _) ⟨ns ++ [((xs.map V.int).length : Int)], by simp, by simp [g2]⟩
  · rintro D ys H6 hD e6 hdD hlen ⟨ns, rfl, g2⟩
    walk_at "rd"
    refine ⟨D, ns, rfl, SqL.of hdD, by omega, fun mx _ _ => ?_⟩
    refine ⟨_, rfl, p, _, dx, _, rfl, e6 _ _ hp5, T.cl_Web, T.na_Web_most, (by show 3 < 1000; decide), ?_⟩
    have ktz : Kt H6 (upd H6 p (.ins (He.ga K "Web") dx (putF "most" (.int mx) (putF "_near" (.ref r) (putF "ties" (.ref t) (putF "places" (.int m) [])))))) := Kt.put (e6 _ _ hp5)
    refine k t us (.ref r) (.int mx) _ ((((b1.trans (Bu.of e2)).trans b3).trans (Bu.of e4)).trans (b5.trans ((Bu.of e6).trans Bu.upd))) ?_ ?_ ?_
    · rw [upd_same]
      rfl
    · exact ktz _ _ (e6 _ _ (kt5 _ _ (e4 _ _ ht3) (fun _ _ _ z => by cases z))) (fun _ _ _ z => by cases z)
    · exact (((tp3.ex e4).kt kt5).ex e6).kt ktz
/-- Web(m, ties) -/
theorem r_Web {K : PySem.W.Frag} {H : Hp} {Q : VK} {E : XK} {m : Int} {l : Addr} {ts : List Addr} {ps : List (Int × Int)} (hl : H l = some (.lst (ts.map V.ref))) (tp : TP H ts ps) (lps : ps.length ≤ 1000) (m1 : 1 ≤ m) (m60 : m ≤ 60) (ti : GX.Ties m ps)
    (q : ∀ p H', H p = none → Ex H H' → Wb K H' p m ps → Q (.ref p) H') : mkK (He.ga K "Web") (spWInit K) E Q [.int m, .ref l] H := by
  intro x dx hx hd hn
  have e0 : Ex H (upd (upd H dx (.own x)) x (.ins (He.ga K "Web") dx [])) := put_own hx hd
  refine ⟨x, dx, m, l, ts, ps, rfl, rfl, rfl, upd_same, e0 _ _ hl, tp.ex e0, lps, m1, m60, ti, fun t us u mm H' bu hi ht tp' => ⟨rfl, ?_⟩⟩
  exact q x H' hx (bu_ex e0 hx bu) ⟨dx, t, us, u, mm, hi, ht, tp'⟩

end K02
namespace K02
open PySem PySem.Spec PyProof.Rows L2 GS TL LamX
local macro_rules | `(tactic| walk_at "rd") => `(tactic| (repeat (first
  | with_reducible refine r_next ?_
  | with_reducible refine r_seq ?_
  | with_reducible refine r_ret ?_
  | with_reducible refine r_ifS ?_
  | with_reducible refine r_asg ?_
  | with_reducible refine r_drop ?_
  | with_reducible refine r_op ?_
  | with_reducible refine r_un ?_
  | with_reducible refine r_cbInt ?_
  | with_reducible refine r_cbAbs ?_
  | with_reducible refine r_cbLen ?_
  | with_reducible refine r_cbList ?_
  | with_reducible refine r_cbTup ?_
  | with_reducible refine r_iEnT ?_
  | with_reducible refine r_iEnL ?_
  | with_reducible refine r_zipA ?_
  | with_reducible refine r_zipX ?_
  | with_reducible refine r_augS ?_
  | with_reducible refine r_cb ?_
  | with_reducible refine r_call ?_
  | with_reducible refine r_make ?_
  | with_reducible refine r_callN0 ?_
  | with_reducible refine r_makeK0 ?_
  | with_reducible refine r_makeS ?_
  | with_reducible refine r_callS ?_
  | with_reducible refine r_cons ?_
  | with_reducible refine r_nil ?_
  | with_reducible refine r_test ?_
  | with_reducible refine r_B ?_
  | with_reducible refine r_and ?_
  | with_reducible refine r_or ?_
  | with_reducible refine r_not ?_
  | with_reducible refine r_andV ?_
  | with_reducible refine r_orV ?_
  | with_reducible refine r_notV ?_
  | with_reducible refine r_if ?_
  | with_reducible refine r_tup ?_
  | with_reducible refine r_lst ?_
  | with_reducible refine r_c ?_
  | with_reducible refine r_lc ?_
  | with_reducible refine r_chain ?_
  | with_reducible refine r_iT ?_
  | with_reducible refine r_iL ?_
  | with_reducible refine r_iR1 ?_
  | with_reducible refine r_iR2 ?_
  | with_reducible refine r_iR3 ?_
  | with_reducible refine r_asgG ?_
  | with_reducible refine r_gSub ?_
  | with_reducible refine r_for ?_
  | with_reducible refine r_smeth ?_
  | with_reducible refine r_par ?_
  | with_reducible refine r_parK ?_
  | with_reducible refine r_gCons ?_
  | with_reducible refine r_gNil ?_
  | with_reducible refine r_gName ?_
  | with_reducible refine r_intI ?_
  | with_reducible refine r_intB ?_
  | with_reducible refine r_absI ?_
  | with_reducible refine r_k ?_
  | with_reducible refine r_kV ?_
  | ((with_reducible show tVar _ _ _ _); refine r_var3 ?_ (by rfl))
  | with_reducible refine r_I0 ?_
  | with_reducible refine r_U ?_
  | with_reducible refine r_eqI ?_
  | with_reducible refine r_neI ?_
  | dsimp only)))
local macro_rules | `(tactic| walk_at "rx") => `(tactic| (repeat (first
  | with_reducible refine r_next ?_
  | with_reducible refine r_ret ?_
  | with_reducible refine r_ifS ?_
  | with_reducible refine r_asg ?_
  | with_reducible refine r_drop ?_
  | with_reducible refine r_op ?_
  | with_reducible refine r_un ?_
  | with_reducible refine r_cbInt ?_
  | with_reducible refine r_cbAbs ?_
  | with_reducible refine r_cbLen ?_
  | with_reducible refine r_cbList ?_
  | with_reducible refine r_cbTup ?_
  | with_reducible refine r_iEnT ?_
  | with_reducible refine r_iEnL ?_
  | with_reducible refine r_zipA ?_
  | with_reducible refine r_zipX ?_
  | with_reducible refine r_augS ?_
  | with_reducible refine r_cb ?_
  | with_reducible refine r_call ?_
  | with_reducible refine r_make ?_
  | with_reducible refine r_callN0 ?_
  | with_reducible refine r_makeK0 ?_
  | with_reducible refine r_makeS ?_
  | with_reducible refine r_callS ?_
  | with_reducible refine r_cons ?_
  | with_reducible refine r_nil ?_
  | with_reducible refine r_test ?_
  | with_reducible refine r_B ?_
  | with_reducible refine r_and ?_
  | with_reducible refine r_or ?_
  | with_reducible refine r_not ?_
  | with_reducible refine r_andV ?_
  | with_reducible refine r_orV ?_
  | with_reducible refine r_notV ?_
  | with_reducible refine r_if ?_
  | with_reducible refine r_tup ?_
  | with_reducible refine r_lst ?_
  | with_reducible refine r_c ?_
  | with_reducible refine r_lc ?_
  | with_reducible refine r_chain ?_
  | with_reducible refine r_iT ?_
  | with_reducible refine r_iL ?_
  | with_reducible refine r_iR1 ?_
  | with_reducible refine r_iR2 ?_
  | with_reducible refine r_iR3 ?_
  | with_reducible refine r_asgG ?_
  | with_reducible refine r_gSub ?_
  | with_reducible refine r_for ?_
  | with_reducible refine r_smeth ?_
  | with_reducible refine r_par ?_
  | with_reducible refine r_parK ?_
  | with_reducible refine r_gCons ?_
  | with_reducible refine r_gNil ?_
  | with_reducible refine r_gName ?_
  | with_reducible refine r_intI ?_
  | with_reducible refine r_intB ?_
  | with_reducible refine r_absI ?_
  | with_reducible refine r_k ?_
  | with_reducible refine r_kV ?_
  | ((with_reducible show tVar _ _ _ _); refine r_var3 ?_ (by rfl))
  | with_reducible refine r_I0 ?_
  | with_reducible refine r_U ?_
  | with_reducible refine r_eqI ?_
  | with_reducible refine r_neI ?_
  | dsimp only)))
/-! ### webs read -/
theorem rg2 {l : Nat} (h : l ≤ 200) : RgC 2 (l : Int) 2 ((l - 1) / 2) := by
  have key : ∀ l : Nat, l < 201 → (Builtin.Range.small 2 (l : Int) 2 = true ∧ Builtin.Range.rangeSize 2 (l : Int) 2 = (((l - 1) / 2 : Nat) : Int)) := by decide +kernel
  obtain ⟨k1, k2⟩ := key l (by omega)
  exact ⟨by decide, by decide, k1, k2⟩
def spTies (K : PySem.W.Frag) : Sp := sp2 fun a b H Q E => ∃ (q : Addr) (ys : List Str) (vs : List (Option Int)) (n : Int), a = .ref q ∧ b = .int n ∧ H q = some (.lst (ys.map V.str)) ∧ Tx ys vs ∧ 2 ≤ vs.length ∧ (∀ j, GX.wRun vs n vs.length 2 0 0 = some j → Stop K j H E) ∧
  (GX.wRun vs n vs.length 2 0 0 = none → ∀ l ts m x y H', Ex H H' → H' l = some (.lst (ts.map V.ref)) → TP H' ts (GX.wPs vs m) → vs.length = 2 + 2 * m → GX.Went vs n m x y → Q (.ref l) H')
theorem bump (a x y : Int) : ((if a = x then y else a) + 1) = if a = x then y + 1 else a + 1 := by split <;> rfl
theorem ok_read_ties {P : Program} {w : World} {K : PySem.W.Frag} {mg : Str → Option Value} {base : Heap} (T : Txt K mg) : ∃ fd, FnOk P w K mg base (L2.CX P w) 4 (He.ga K "read_ties") fd ["items", "places"] (spTies K) ∧ Binds K fd ["items", "places"] [] := by
  obtain ⟨fd, F⟩ := T.d_read_ties
  obtain ⟨fd_integer_at, F_integer_at, B_integer_at⟩ := ok_integer_at (P := P) (w := w) (base := base) T
  refine ⟨fd, F.ok sc_read_ties sp2_len (fun cdv A outer s H vs Q E hr h => ?_), F.bindsN fun _ _ _ _ _ _ us hl => match us, hl with | [_, _], _ => rfl⟩
  have hr_integer_at : Room 3 _ := hr.mono (by decide)
  obtain ⟨a, b, rfl, q, ys, vs, n, rfl, rfl, hq, tx, l2, k1, k2⟩ := sp2_is h
  refine ⟨_, (pss_cons (ps_set (i := 2) sc_read_ties.nd rfl (Or.inl rfl) (pe_lst pa_nil))
      (pss_cons (ps_asg (pe_tup (pa_cons pe_int (pa_cons pe_int pa_nil))) (pg_tup rfl (pgs_cons (pg_name (i := 3) sc_read_ties.nd rfl (Or.inl rfl)) (pgs_cons (pg_name (i := 4) sc_read_ties.nd rfl (Or.inl rfl)) pgs_nil))))
      (pss_cons (ps_for (passes_of rfl) rfl (pi_range3 (by rfl) T.b_range (pa_cons pe_int (pa_cons (pe_callB (kx_lens rfl) (by rfl) T.b_len PySem.boot_len (pa_cons (pv 0) pa_nil)) (pa_cons pe_int pa_nil)))) (pg_name (i := 5) sc_read_ties.nd rfl (Or.inl rfl)) (pss_cons (ps_set (i := 6) sc_read_ties.nd rfl (Or.inl rfl) (pe_call F_integer_at hr_integer_at (by rfl) T.g_integer_at T.k_integer_at B_integer_at .nil (passes_call (takes_of rfl rfl rfl rfl) (fun _ _ _ _ h => h)) (pa_cons (pv 0) (pa_cons (pv 5) (pa_cons (pv 3) (pa_cons (pe_op op_sub (pv 1) pe_int) pa_nil))))))
      (pss_cons (ps_set (i := 7) sc_read_ties.nd rfl (Or.inl rfl) (pe_ifExp (pt_cmpR op_eq (pv 6) (pv 3) (nomark _)) (pv 4) (pv 6)))
      (pss_cons (ps_set (i := 8) sc_read_ties.nd rfl (Or.inl rfl) (pe_call F_integer_at hr_integer_at (by rfl) T.g_integer_at T.k_integer_at B_integer_at .nil (passes_call (takes_of rfl rfl rfl rfl) (fun _ _ _ _ h => h)) (pa_cons (pv 0) (pa_cons (pe_op op_add (pv 5) pe_int) (pa_cons (pe_op op_add (pv 7) pe_int) (pa_cons (pe_op op_sub (pv 1) pe_int) pa_nil))))))
      (pss_cons (ps_expr (pe_bm PySem.F.plainAttrs_list PySem.F.slot_list_append PySem.F.type_list_append mt_append (pv 2) (pa_cons (pe_tup (pa_cons (pv 6) (pa_cons (pv 8) pa_nil))) pa_nil)))
      (pss_one (ps_par (i := 3) (j := 4) (by rfl) sc_read_ties.nd rfl rfl (by decide) rfl rfl (pa_cons (pv 6) (pa_cons (pv 8) pa_nil)) (by rfl))))))))
      (pss_one (ps_ret (pv 2)))))), ?_⟩
  have l200 : vs.length ≤ 200 := by rw [← tx.vlen]; exact tx.many
  walk_at "rd"
  refine r_newL (Nat.zero_le _) fun l H1 hl e1 h1 => ?_
  walk_at "rd"
  refine r_newT (sz_le (by simp)) fun t0 H2 _ e2 h2 => ?_
  refine r_gTup h2 rfl (r_gCons (r_gName (r_gCons (r_gName (r_gNil ?_)))))
  walk_at "rd"
  refine ⟨q, _, rfl, .inl (SqL.of (e2 _ _ (e1 _ _ hq))), ?_⟩
  rw [List.length_map, tx.vlen]
  walk_at "rd"
  refine ⟨2, _, 2, _, rfl, rg2 l200, ?_⟩
  refine for_of walk_rangeC (fun i σ H' => Ex H H' ∧ ∃ ts x y, H' l = some (.lst (ts.map V.ref)) ∧ TP H' ts (GX.wPs vs i) ∧ GX.Went vs n i x y ∧ GX.wRun vs n vs.length 2 0 0 = GX.wRun vs n (vs.length - i) (2 + 2 * i) x y ∧ ∃ s5 s6 s7 s8, σ = [some (.ref q), some (.int n), some (.ref l), some (.int x), some (.int y), s5, s6, s7, s8])
    ⟨e1.trans e2, [], 0, 0, e2 _ _ h1, ⟨rfl, fun j t p h => by simp at h⟩, GX.Went.zero vs n, rfl, _, _, _, _, rfl⟩ (fun _ _ _ _ _ => trivial) ?_ ?_
  · rintro i v σ H3 H3' hi ⟨e3, ts, x, y, h3, tp, wt, wr, s5, s6, s7, s8, rfl⟩ ⟨rfl, rfl⟩
    refine r_gName ?_
    have il : 2 + 2 * i < vs.length := by omega
    rw [GX.wRun_step il (by omega)] at wr
    have ea : (2 : Int) + ((i : Nat) : Int) * 2 = ((2 + 2 * i : Nat) : Int) := by push_cast; omega
    simp only [ea]
    walk_at "rd"
    refine r_intAt (n := 2 + 2 * i) (e3 _ _ hq) tx.S rfl rfl rfl (fun b => (k1 (2 + 2 * i) ?_).ex e3) fun g1 H4 e4 => ?_
    · rw [wr, b, if_pos rfl]
    rw [g1, if_neg (by decide)] at wr
    walk_at "rx"
    refine r_seqJ (fun σ' H' => H' = H4 ∧ σ' = [some (.ref q), some (.int n), some (.ref l), some (.int x), some (.int y), some (.int ((2 + 2 * i : Nat) : Int)), some (.int (GX.vl vs (2 + 2 * i))), some (.int (if GX.vl vs (2 + 2 * i) = x then y else GX.vl vs (2 + 2 * i))), s8]) (fun N hN => ?_) ?_
    · walk_at "rd"
      refine ite_b (fun c => ?_) fun c => ?_
      · walk_at "rd"
        refine hN _ _ ⟨rfl, ?_⟩
        rw [if_pos (of_decide_eq_true c)]
        rfl
      · walk_at "rd"
        refine hN _ _ ⟨rfl, ?_⟩
        rw [if_neg (by simpa using c)]
        rfl
    rintro σ' H4' ⟨rfl, rfl⟩
    walk_at "rd"
    have ea2 : ((2 + 2 * i : Nat) : Int) + 1 = ((2 + 2 * i + 1 : Nat) : Int) := by push_cast; rfl
    rw [ea2, bump]
    have e34 := e3.trans e4
    refine r_intAt (n := 2 + 2 * i + 1) (e34 _ _ hq) tx.S rfl rfl rfl (fun b => (k1 (2 + 2 * i + 1) ?_).ex e34) fun g2 H5 e5 => ?_
    · rw [wr, b, if_pos rfl]
    rw [g2, if_neg (by decide)] at wr
    have e35 := e34.trans e5
    walk_at "rd"
    refine r_bm ?_
    walk_at "rd"
    refine ⟨tyL (e5 _ _ (e4 _ _ h3)), ?_⟩
    walk_at "rd"
    refine r_newT (sz_le (by simp)) fun t H6 ht e6 h6 => ?_
    have hl6 : H6 l = some (.lst (ts.map V.ref)) := e6 _ _ (e5 _ _ (e4 _ _ h3))
    walk_at "rd"
    have lts := tp.1
    have lps : (GX.wPs vs i).length = i := by simp [GX.wPs]
    have tl : ∀ (u : Addr) (xs : List V), H6 u = some (.tup xs) → upd H6 l (.lst (ts.map V.ref ++ [V.ref t])) u = some (.tup xs) := fun u xs h => by
      rw [upd_ne (by rintro rfl; rw [hl6] at h; cases h)]
      exact h
    refine r_app hl6 (by rw [List.length_map]; omega) ?_
    walk_at "rd"
    have w1 := wt.step g1 (by rw [show 3 + 2 * i = 2 + 2 * i + 1 by omega]; exact g2)
    rw [show 3 + 2 * i = 2 + 2 * i + 1 by omega] at w1
    refine ⟨Ex.mut (e35.trans e6) hl, ts ++ [t], GX.vl vs (2 + 2 * i), GX.vl vs (2 + 2 * i + 1), by rw [upd_same, List.map_append]; rfl, ⟨by rw [List.length_append, GX.wPs_succ, List.length_append, lts]; rfl, fun j u p hu hp' => ?_⟩, w1, ?_, _, _, _, _, rfl⟩
    · rw [GX.wPs_succ] at hp'
      rcases Nat.lt_or_ge j ts.length with c | c
      · rw [List.getElem?_append_left c] at hu
        rw [List.getElem?_append_left (by omega)] at hp'
        exact tl _ _ (e6 _ _ (e5 _ _ (e4 _ _ (tp.2 j u p hu hp'))))
      · rw [List.getElem?_append_right c] at hu
        rw [List.getElem?_append_right (by omega)] at hp'
        have hj0 : j - ts.length = 0 := by
          cases z : j - ts.length with
          | zero => rfl
          | succ m => rw [z] at hu; simp at hu
        rw [hj0] at hu
        rw [show j - (GX.wPs vs i).length = 0 by omega] at hp'
        cases hu
        cases hp'
        refine tl _ _ ?_
        rw [show 3 + 2 * i = 2 + 2 * i + 1 by omega]
        exact h6
    · rw [wr]
      rfl
  · rintro σ H3 ⟨e3, ts, x, y, h3, tp, wt, wr, s5, s6, s7, s8, rfl⟩
    walk_at "rd"
    have odd : vs.length = 2 + 2 * ((vs.length - 1) / 2) := by
      have h3' : (vs.length - 1) / 2 = 0 ∨ 0 < (vs.length - 1) / 2 := by omega
      rcases h3' with c | c
      · omega
      · have := GX.okJ_lt (wt.all ((vs.length - 1) / 2 - 1) (by omega)).2
        omega
    rw [show GX.wRun vs n (vs.length - (vs.length - 1) / 2) (2 + 2 * ((vs.length - 1) / 2)) x y = none from GX.wRun_end (by omega)] at wr
    exact k2 wr l ts _ x y H3 e3 h3 tp odd wt

end K02
namespace K02
open PySem PySem.Spec PyProof.Rows L2 GS TL LamX
local macro_rules | `(tactic| walk_at "rd") => `(tactic| (repeat (first
  | with_reducible refine r_next ?_
  | with_reducible refine r_seq ?_
  | with_reducible refine r_ret ?_
  | with_reducible refine r_ifS ?_
  | with_reducible refine r_asg ?_
  | with_reducible refine r_drop ?_
  | with_reducible refine r_op ?_
  | with_reducible refine r_un ?_
  | with_reducible refine r_cbInt ?_
  | with_reducible refine r_cbAbs ?_
  | with_reducible refine r_cbLen ?_
  | with_reducible refine r_cbList ?_
  | with_reducible refine r_cbTup ?_
  | with_reducible refine r_iEnT ?_
  | with_reducible refine r_iEnL ?_
  | with_reducible refine r_zipA ?_
  | with_reducible refine r_zipX ?_
  | with_reducible refine r_augS ?_
  | with_reducible refine r_cb ?_
  | with_reducible refine r_call ?_
  | with_reducible refine r_make ?_
  | with_reducible refine r_callN0 ?_
  | with_reducible refine r_makeK0 ?_
  | with_reducible refine r_makeS ?_
  | with_reducible refine r_callS ?_
  | with_reducible refine r_cons ?_
  | with_reducible refine r_nil ?_
  | with_reducible refine r_test ?_
  | with_reducible refine r_B ?_
  | with_reducible refine r_and ?_
  | with_reducible refine r_or ?_
  | with_reducible refine r_not ?_
  | with_reducible refine r_andV ?_
  | with_reducible refine r_orV ?_
  | with_reducible refine r_notV ?_
  | with_reducible refine r_if ?_
  | with_reducible refine r_tup ?_
  | with_reducible refine r_lst ?_
  | with_reducible refine r_c ?_
  | with_reducible refine r_lc ?_
  | with_reducible refine r_chain ?_
  | with_reducible refine r_iT ?_
  | with_reducible refine r_iL ?_
  | with_reducible refine r_iR1 ?_
  | with_reducible refine r_iR2 ?_
  | with_reducible refine r_iR3 ?_
  | with_reducible refine r_asgG ?_
  | with_reducible refine r_gSub ?_
  | with_reducible refine r_for ?_
  | with_reducible refine r_smeth ?_
  | with_reducible refine r_par ?_
  | with_reducible refine r_parK ?_
  | with_reducible refine r_gCons ?_
  | with_reducible refine r_gNil ?_
  | with_reducible refine r_gName ?_
  | with_reducible refine r_intI ?_
  | with_reducible refine r_intB ?_
  | with_reducible refine r_absI ?_
  | with_reducible refine r_k ?_
  | with_reducible refine r_kV ?_
  | ((with_reducible show tVar _ _ _ _); refine r_var3 ?_ (by rfl))
  | with_reducible refine r_I0 ?_
  | with_reducible refine r_U ?_
  | with_reducible refine r_eqI ?_
  | with_reducible refine r_neI ?_
  | dsimp only)))
local macro_rules | `(tactic| walk_at "rx") => `(tactic| (repeat (first
  | with_reducible refine r_next ?_
  | with_reducible refine r_ret ?_
  | with_reducible refine r_ifS ?_
  | with_reducible refine r_asg ?_
  | with_reducible refine r_drop ?_
  | with_reducible refine r_op ?_
  | with_reducible refine r_un ?_
  | with_reducible refine r_cbInt ?_
  | with_reducible refine r_cbAbs ?_
  | with_reducible refine r_cbLen ?_
  | with_reducible refine r_cbList ?_
  | with_reducible refine r_cbTup ?_
  | with_reducible refine r_iEnT ?_
  | with_reducible refine r_iEnL ?_
  | with_reducible refine r_zipA ?_
  | with_reducible refine r_zipX ?_
  | with_reducible refine r_augS ?_
  | with_reducible refine r_cb ?_
  | with_reducible refine r_call ?_
  | with_reducible refine r_make ?_
  | with_reducible refine r_callN0 ?_
  | with_reducible refine r_makeK0 ?_
  | with_reducible refine r_makeS ?_
  | with_reducible refine r_callS ?_
  | with_reducible refine r_cons ?_
  | with_reducible refine r_nil ?_
  | with_reducible refine r_test ?_
  | with_reducible refine r_B ?_
  | with_reducible refine r_and ?_
  | with_reducible refine r_or ?_
  | with_reducible refine r_not ?_
  | with_reducible refine r_andV ?_
  | with_reducible refine r_orV ?_
  | with_reducible refine r_notV ?_
  | with_reducible refine r_if ?_
  | with_reducible refine r_tup ?_
  | with_reducible refine r_lst ?_
  | with_reducible refine r_c ?_
  | with_reducible refine r_lc ?_
  | with_reducible refine r_chain ?_
  | with_reducible refine r_iT ?_
  | with_reducible refine r_iL ?_
  | with_reducible refine r_iR1 ?_
  | with_reducible refine r_iR2 ?_
  | with_reducible refine r_iR3 ?_
  | with_reducible refine r_asgG ?_
  | with_reducible refine r_gSub ?_
  | with_reducible refine r_for ?_
  | with_reducible refine r_smeth ?_
  | with_reducible refine r_par ?_
  | with_reducible refine r_parK ?_
  | with_reducible refine r_gCons ?_
  | with_reducible refine r_gNil ?_
  | with_reducible refine r_gName ?_
  | with_reducible refine r_intI ?_
  | with_reducible refine r_intB ?_
  | with_reducible refine r_absI ?_
  | with_reducible refine r_k ?_
  | with_reducible refine r_kV ?_
  | ((with_reducible show tVar _ _ _ _); refine r_var3 ?_ (by rfl))
  | with_reducible refine r_I0 ?_
  | with_reducible refine r_U ?_
  | with_reducible refine r_eqI ?_
  | with_reducible refine r_neI ?_
  | dsimp only)))
def colB (ys : List Str) : Bool := decide (ys[1]? = some (Str.ofString ":"))
def tiesOf (vs : List (Option Int)) : List (Int × Int) := GX.wPs vs ((vs.length - 2) / 2)
def spWRead (K : PySem.W.Frag) : Sp := sp1 fun v H Q E => (∃ (ys : List Str) (vs : List (Option Int)), v = .str (tS ys) ∧ Tx ys vs ∧ (∀ j, GX.wStop vs (colB ys) = some j → Stop K j H E) ∧ (GX.wStop vs (colB ys) = none → ∀ p H', Ex H H' → Wb K H' p (GX.vl vs 0) (tiesOf vs) → Q (.ref p) H')) ∨ (NoS K H v ∧ Stop K 0 H E)
theorem ok_Web_read {P : Program} {w : World} {K : PySem.W.Frag} {mg : Str → Option Value} {base : Heap} (T : Txt K mg) : ∃ fd, FnOk P w K mg base (L2.CX P w) 7 (He5.wf K (He.ga K "Web") "staticmethod" "read") fd ["text"] (spWRead K) ∧ Binds K fd ["text"] [] ∧ KBn K fd ["text"] 0 ["text"] (pm [0]) (pm [0]) := by
  obtain ⟨fd, F⟩ := T.d_Web_read
  obtain ⟨fd_Web_init, F_Web_init, B_Web_init⟩ := ok_Web_init (P := P) (w := w) (base := base) T
  obtain ⟨fd_read_ties, F_read_ties, B_read_ties⟩ := ok_read_ties (P := P) (w := w) (base := base) T
  obtain ⟨fd_need_item, F_need_item, B_need_item⟩ := ok_need_item (P := P) (w := w) (base := base) T
  obtain ⟨fd_integer_at, F_integer_at, B_integer_at⟩ := ok_integer_at (P := P) (w := w) (base := base) T
  obtain ⟨fd_items_of, F_items_of, B_items_of⟩ := ok_items_of (P := P) (w := w) (base := base) T
  refine ⟨fd, F.ok sc_Web_read sp1_len (fun cdv A outer s H vs Q E hr h => ?_), F.bindsN fun _ _ _ _ _ _ us hl => match us, hl with | [_], _ => rfl, kb_of F 0 ["text"] [0] (fun _ _ _ _ _ _ us ws h1 h2 => match us, ws, h1, h2 with | [], [_], _, _ => rfl)⟩
  have hr_Web_init : Room 6 _ := hr.mono (by decide)
  have hr_read_ties : Room 4 _ := hr.mono (by decide)
  have hr_need_item : Room 3 _ := hr.mono (by decide)
  have hr_integer_at : Room 3 _ := hr.mono (by decide)
  have hr_items_of : Room 3 _ := hr.mono (by decide)
  obtain ⟨v, rfl, h⟩ := sp1_is h
  refine ⟨_, (pss_cons (ps_set (i := 1) sc_Web_read.nd rfl (Or.inl rfl) (pe_call F_items_of hr_items_of (by rfl) T.g_items_of T.k_items_of B_items_of .nil (passes_call (takes_of rfl rfl rfl rfl) (fun _ _ _ _ h => h)) (pa_cons (pv 0) pa_nil)))
      (pss_cons (ps_set (i := 2) sc_Web_read.nd rfl (Or.inl rfl) (pe_call F_integer_at hr_integer_at (by rfl) T.g_integer_at T.k_integer_at B_integer_at .nil (passes_call (takes_of rfl rfl rfl rfl) (fun _ _ _ _ h => h)) (pa_cons (pv 1) (pa_cons pe_int (pa_cons pe_int (pa_cons (pe_gint rfl T.c_MOST_PLACES) pa_nil))))))
      (pss_cons (ps_expr (pe_call F_need_item hr_need_item (by rfl) T.g_need_item T.k_need_item B_need_item .nil (passes_call (takes_of rfl rfl rfl rfl) (fun _ _ _ _ h => h)) (pa_cons (pv 1) (pa_cons pe_int (pa_cons pe_str pa_nil)))))
      (pss_one (ps_ret (pe_make T.mk_Web F_Web_init hr_Web_init (by rfl) T.g_Web B_Web_init .nil passL (pa_cons (pv 2) (pa_cons (pe_call F_read_ties hr_read_ties (by rfl) T.g_read_ties T.k_read_ties B_read_ties .nil (passes_call (takes_of rfl rfl rfl rfl) (fun _ _ _ _ h => h)) (pa_cons (pv 1) (pa_cons (pv 2) pa_nil))) pa_nil)))))))), ?_⟩
  walk_at "rd"
  rcases h with ⟨ys, vs, rfl, tx, k1, k2⟩ | ⟨ht, k⟩
  · refine .inl ⟨ys, rfl, tx.ne, tx.free, tx.len, fun q H1 e1 hq => ?_⟩
    have l0 : 0 < vs.length := by rw [← tx.vlen]; exact List.length_pos_iff.mpr tx.ne
    walk_at "rd"
    refine r_intAt (n := 0) hq tx.S rfl rfl rfl (fun b => (k1 0 ?_).ex e1) fun g0 H2 e2 => ?_
    · unfold GX.wStop; rw [b, if_pos rfl]
    have e12 := e1.trans e2
    walk_at "rd"
    refine ⟨q, ys, 1, Str.ofString ":", rfl, SqL.of (e2 _ _ hq), rfl, rfl, fun hc => ?_, fun hc => (k1 1 ?_).ex e12⟩
    · have c1 : colB ys = true := decide_eq_true hc
      have l2 : 2 ≤ vs.length := by
        have := (List.getElem?_eq_some_iff.mp hc).1
        rw [tx.vlen] at this
        omega
      have es : GX.wStop vs (colB ys) = GX.wRun vs (GX.vl vs 0) vs.length 2 0 0 := by
        unfold GX.wStop
        rw [g0, c1, if_neg (by decide), if_neg (by simp; omega)]
      rw [es] at k1 k2
      obtain ⟨_, b0⟩ := GX.okJ_is g0
      simp only [GX.ib, Bool.and_eq_true, decide_eq_true_eq] at b0
      walk_at "rd"
      refine ⟨q, ys, vs, GX.vl vs 0, rfl, rfl, e2 _ _ hq, tx, l2, fun j hj => (k1 j hj).ex e12, fun hn l ts m x y H3 e3 h3 tp lm wt => ?_⟩
      have m200 : m ≤ 200 := by have := tx.many; rw [tx.vlen] at this; omega
      refine r_Web h3 tp (by simp [GX.wPs]; omega) b0.1 b0.2 wt.ties fun p H4 _ e4 hw => k2 hn p H4 ((e12.trans e3).trans e4) ?_
      unfold tiesOf
      rw [show (vs.length - 2) / 2 = m by omega]
      exact hw
    · unfold GX.wStop
      rw [g0, if_neg (by decide), if_pos (Or.inr (show colB ys = false from decide_eq_false hc))]
  · exact .inr ⟨ht, k⟩
/-- the items of a web -/
def wI (n : Int) (ps : List (Int × Int)) : List Str := nS n :: Str.ofString ":" :: (ps.map fun p => [nS p.1, nS p.2]).flatten
theorem nS_log {c : Int} (h : c.natAbs < 10 ^ 60) : c.natAbs.log2 < 1920 := by
  by_cases z : c.natAbs = 0
  · rw [z]; decide +kernel
  · exact Nat.lt_of_lt_of_le ((Nat.log2_lt z).mpr (Nat.lt_of_lt_of_le h (show 10 ^ 60 ≤ 2 ^ 200 by decide))) (by decide)
def wz (ps : List (Int × Int)) : Prop := ∀ p ∈ ps, p.1.natAbs < 10 ^ 60 ∧ p.2.natAbs < 10 ^ 60
def pr2 (p : Int × Int) : List V := [V.str (nS p.1), V.str (nS p.2)]
theorem flat_ps (ps : List (Int × Int)) : GS.flatV (fun i => pr2 (ps.getD i (0, 0))) ps.length = (ps.map fun p => [nS p.1, nS p.2]).flatten.map V.str := by
  unfold GS.flatV
  rw [List.map_flatten]
  refine congrArg List.flatten (List.ext_getElem (by simp) fun i h1 h2 => ?_)
  simp at h1
  simp [h1, pr2]
theorem wI_len (n : Int) (ps : List (Int × Int)) : (wI n ps).length = 2 + 2 * ps.length := by
  have : ((ps.map fun p => [nS p.1, nS p.2]).flatten).length = 2 * ps.length := by
    induction ps with
    | nil => rfl
    | cons p ps ih => simp only [List.map_cons, List.flatten_cons, List.length_append, ih, List.length_cons, List.length_nil]; omega
  simp only [wI, List.length_cons, this]
  omega
theorem wI_each {n : Int} {ps : List (Int × Int)} (hn : n.natAbs < 10 ^ 60) (hz : wz ps) : ∀ y ∈ wI n ps, y.length ≤ 61 := by
  intro y hy
  simp only [wI, List.mem_cons] at hy
  rcases hy with rfl | rfl | hy
  · exact nS_len (k := 60) (by decide) hn
  · decide
  · obtain ⟨r, hr, hy⟩ := List.mem_flatten.mp hy
    obtain ⟨p, hp, rfl⟩ := List.mem_map.mp hr
    obtain ⟨h1, h2⟩ := hz p hp
    simp only [List.mem_cons, List.mem_nil_iff, or_false] at hy
    rcases hy with rfl | rfl
    · exact nS_len (k := 60) (by decide) h1
    · exact nS_len (k := 60) (by decide) h2
def spWStr (K : PySem.W.Frag) : Sp := sp1 fun v H Q _ => ∃ a n ps, v = .ref a ∧ Wb K H a n ps ∧ n.natAbs < 10 ^ 60 ∧ wz ps ∧ ps.length ≤ 200 ∧ ∀ H', Ex H H' → Q (.str (tS (wI n ps))) H'
theorem ok_Web_str {P : Program} {w : World} {K : PySem.W.Frag} {mg : Str → Option Value} {base : Heap} (T : Txt K mg) : ∃ fd, FnOk P w K mg base (L2.CX P w) 1 (He.ma K (He.ga K "Web") "__str__") fd ["self"] (spWStr K) ∧ Binds K fd ["self"] [] := by
  obtain ⟨fd, F⟩ := T.d_Web_str
  refine ⟨fd, F.ok sc_Web_str sp1_len (fun cdv A outer s H vs Q E hr h => ?_), F.bindsN fun _ _ _ _ _ _ us hl => match us, hl with | [_], _ => rfl⟩
  obtain ⟨v, rfl, a, n, ps, rfl, ha, hn, hz, hl, k⟩ := sp1_is h
  refine ⟨_, (pss_one (ps_ret (pe_join pe_str (pe_op op_cat (pe_lst (pa_cons (pe_callTy call_str_int (by rfl) T.b_str (by decide +kernel) (pa_cons (kx_fld rfl (pv 0) rfl) pa_nil)) (pa_cons pe_str pa_nil))) (pe_lc2 (own := [("tie", 1), ("place", 2)]) (vs1 := [2]) (g := gName 1) (tt := tYes) (g1 := gName 2) (tt1 := tYes) rfl sc_Web_str.nd (pi_tup (kx_fld rfl (pv 0) rfl)) (blkOk_by (own := [("tie", 1), ("place", 2)]) (N := ["self", "tie", "place"]) (sc := defScope s_Web_str) (by decide +kernel)) (by decide) (fun _ _ _ _ _ => (pg_name (i := 1) sc_Web_str.nd rfl (Or.inl rfl))) (fun _ _ _ _ _ => pts_nil) (fun _ _ _ _ _ => (kx_pitup (K := K) rfl (pv 1))) (fun _ _ _ _ _ => (pg_name (i := 2) sc_Web_str.nd rfl (Or.inl rfl))) (fun _ _ _ _ _ => pts_nil) (fun _ _ _ _ _ => (pe_callTy call_str_int (by rfl) T.b_str (by decide +kernel) (pa_cons (pv 2) pa_nil)))))))), ?_⟩
  walk_at "rd"
  refine ⟨⟨_, rfl⟩, ?_⟩
  walk_at "rd"
  refine r_wp T ha ?_
  walk_at "rd"
  refine ⟨_, rfl, nS_log hn, ?_⟩
  walk_at "rd"
  refine r_newL (sz_le (by simp)) fun p1 H1 hp1 e1 h1 => ?_
  refine r_lc2 ?_
  walk_at "rd"
  refine r_wt T (ha.ex e1) fun t1 ts1 h11 g11 => ?_
  refine ⟨t1, rfl, ⟨_, SqT.of h11⟩, ?_⟩
  have lt1 := g11.1
  refine r_lc2P (n := ts1.length) (k := 1) (k1 := 2) (by simpa using walk_tup (xs := ts1.map V.ref)) (fun i => pr2 (ps.getD i (0, 0))) (by omega) (fun i hi => by simp [pr2]) (fun H' e => SqT.of (e _ _ h11)) (fun _ => rfl) (fun _ _ => rfl) ?_ ?_
  · rintro i y H2 H3 hi e2 ⟨rfl, hy⟩
    obtain ⟨t, ht, rfl⟩ := ref_at hy
    obtain ⟨q, hq, hrow⟩ := (g11.ex e2).at ht
    have eg : ps.getD i (0, 0) = q := by rw [List.getD_eq_getElem?_getD, hq]; rfl
    obtain ⟨z1, z2⟩ := hz q (List.mem_of_getElem? hq)
    refine ⟨Ex.refl _, fun R kR => ?_⟩
    have ⟨q', hq', hrow1⟩ := g11.at ht
    rw [hq] at hq'
    cases hq'
    refine ⟨_, rfl, t, rfl, ⟨_, SqT.of (e2 _ _ hrow1)⟩, kR _ ⟨_, _, by rw [eg]; exact walk_tup (xs := [V.int q.1, V.int q.2]), fun H5 e5 => SqT.of (e5 _ _ hrow1), ?_⟩⟩
    rintro j z H5 H6 hj e5 ⟨rfl, hz'⟩
    refine ⟨Ex.refl _, fun N hN => ?_⟩
    have hc : ∃ c : Int, z = .int c ∧ c.natAbs < 10 ^ 60 ∧ (pr2 (ps.getD i (0, 0))).getD j V.non = .str (nS c) := by
      rw [eg]
      match j, hz' with
      | 0, hz' => cases hz'; exact ⟨_, rfl, z1, rfl⟩
      | 1, hz' => cases hz'; exact ⟨_, rfl, z2, rfl⟩
      | j + 2, hz' => simp at hz'
    obtain ⟨c, rfl, hc1, hc2⟩ := hc
    walk_at "rd"
    refine ⟨c, rfl, nS_log hc1, ?_⟩
    have := hN _ (Ex.refl _)
    rw [hc2] at this
    exact this
  · intro D H2 hD e2 hl2
    rw [lt1, flat_ps] at hl2
    have vl := wI_len n ps
    have e : ([V.str (Str.ofString (toString n)), V.str (Str.ofString ":")] ++ (ps.map fun p => [nS p.1, nS p.2]).flatten.map V.str) = (wI n ps).map V.str := by
      simp only [wI, List.map_cons]
      rfl
    refine ⟨p1, D, _, _, rfl, rfl, e2 _ _ h1, hl2, ?_, fun q hq => ?_⟩
    · refine sz_le ?_
      have : (wI n ps).length = 2 + ((ps.map fun p => [nS p.1, nS p.2]).flatten.map V.str).length := by simp only [wI, List.length_cons, List.length_map]; omega
      simp only [List.length_cons, List.length_nil]
      omega
    · refine ⟨_, q, wI n ps, rfl, rfl, .inl (SqL.of ?_), ?_, k _ ((e1.trans e2).trans (Ex.new hq))⟩
      · rw [upd_same, e]
      · have := sum_len (n := 61) (wI n ps) (wI_each hn hz)
        rw [show (Str.ofString " ").length = 1 from rfl, Nat.mul_one]
        omega
/-! ### tuples of pairs as data -/
def dPair (p : Int × Int) : PyData := .tuple [.int p.1, .int p.2]
def dPs (ps : List (Int × Int)) : PyData := .tuple (ps.map dPair)
theorem dpall_ps {K : PySem.W.Frag} {H : Hp} : ∀ {ts : List Addr} {ps : List (Int × Int)}, TP H ts ps → DpAll K H (ts.map V.ref) (ps.map dPair)
  | [], [], _ => .nil
  | t :: ts, p :: ps, h => .cons (.tup (SqT.of (h.2 0 t p rfl rfl)) (.cons (.int _) (.cons (.int _) .nil))) (dpall_ps ⟨by simpa using h.1, fun j u q h1 h2 => h.2 (j + 1) u q (by simpa using h1) (by simpa using h2)⟩)
  | [], _ :: _, h => by have := h.1; simp at this
  | _ :: _, [], h => by have := h.1; simp at this
theorem can_ps : ∀ ps : List (Int × Int), PyData.canLayAll0 (ps.map dPair) = true
  | [] => rfl
  | p :: ps => by
    show (PyData.canLay0 (dPair p) && PyData.canLayAll0 (ps.map dPair)) = true
    rw [can_ps ps]
    rfl
theorem depth_ps : ∀ ps : List (Int × Int), PyData.depthAll (ps.map dPair) ≤ 1
  | [] => Nat.zero_le _
  | p :: ps => by
    show max (PyData.depth (dPair p)) (PyData.depthAll (ps.map dPair)) ≤ 1
    have := depth_ps ps
    have h2 : PyData.depth (dPair p) = 1 := rfl
    omega
theorem shaped_ps (ps : List (Int × Int)) : SeqAt.shaped (dPs ps) = true := by
  show (PyData.canLayAll0 (ps.map dPair) && decide (PyData.depthAll (ps.map dPair) + 1 ≤ 64)) = true
  rw [can_ps, decide_eq_true (by have := depth_ps ps; omega)]
  rfl
theorem eqv_ps : ∀ ps : List (Int × Int), PyData.eqvAll (ps.map dPair) (ps.map dPair) = true
  | [] => rfl
  | p :: ps => by
    show (PyData.eqvAll [PyData.int p.1, PyData.int p.2] [PyData.int p.1, PyData.int p.2] && PyData.eqvAll (ps.map dPair) (ps.map dPair)) = true
    rw [eqv_ps ps]
    have := eqv_ints [p.1, p.2] [p.1, p.2]
    rw [decide_eq_true rfl] at this
    rw [show PyData.eqvAll [PyData.int p.1, PyData.int p.2] [PyData.int p.1, PyData.int p.2] = true from this]
    rfl
theorem r_eqPs {K : PySem.W.Frag} {H : Hp} {Q : VK} {p q : Addr} {ts us : List Addr} {ps : List (Int × Int)} (h1 : H p = some (.tup (ts.map V.ref))) (g1 : TP H ts ps) (h2 : H q = some (.tup (us.map V.ref))) (g2 : TP H us ps) (k : Q (.bl true) H) : rEqD K (.ref p) (.ref q) H Q := by
  refine ⟨_, _, .tup (SqT.of h1) (dpall_ps g1), .tup (SqT.of h2) (dpall_ps g2), shaped_ps ps, shaped_ps ps, ?_⟩
  show Q (.bl (PyData.eqvAll (ps.map dPair) (ps.map dPair))) H
  rw [eqv_ps]
  exact k
def spWEq (K : PySem.W.Frag) : Sp := sp2 fun v o H Q E => ∃ a b n ps, v = .ref a ∧ o = .ref b ∧ Wb K H a n ps ∧ Wb K H b n ps ∧ Q (.bl true) H
theorem ok_Web_eq {P : Program} {w : World} {K : PySem.W.Frag} {mg : Str → Option Value} {base : Heap} (T : Txt K mg) : ∃ fd, FnOk P w K mg base (L2.CX P w) 1 (He.ma K (He.ga K "Web") "__eq__") fd ["self", "other"] (spWEq K) ∧ Binds K fd ["self", "other"] [] := by
  obtain ⟨fd, F⟩ := T.d_Web_eq
  refine ⟨fd, F.ok sc_Web_eq sp2_len (fun cdv A outer s H vs Q E hr h => ?_), F.bindsN fun _ _ _ _ _ _ us hl => match us, hl with | [_, _], _ => rfl⟩
  obtain ⟨v, o, rfl, a, b, n, ps, rfl, rfl, ha, hb, k⟩ := sp2_is h
  refine ⟨_, (pss_one (ps_ret (pe_and (pe_callB (cr_isi rfl) (by rfl) T.b_isinstance (by decide +kernel) (pa_cons (pv 1) (pa_cons (pe_glob (v := .ref (He.ga K "Web")) rfl T.g_Web rfl) pa_nil))) (pe_and (pe_cmpR op_eq (kx_fld rfl (pv 0) rfl) (kx_fld rfl (pv 1) rfl) (nomark _)) (pe_one (pe_cmpR (op_eqD hr.units) (kx_fld rfl (pv 0) rfl) (kx_fld rfl (pv 1) rfl) (nomark _))))))), ?_⟩
  obtain ⟨dx, fs, hi⟩ := hb.inst
  walk_at "rd"
  refine ⟨_, _, _, _, true, rfl, .own _, ty_own T (by decide) hi, T.cc_Web.me, ?_⟩
  walk_at "rd"
  refine ite_t rfl ?_
  walk_at "rd"
  refine r_wp T ha (r_wp T hb ?_)
  walk_at "rd"
  refine ite_t (by simp) ?_
  walk_at "rd"
  refine r_wt T ha fun t1 ts1 h1 g1 => ?_
  refine r_wt T hb fun t2 ts2 h2 g2 => ?_
  exact r_eqPs h1 g1 h2 g2 k

end K02
namespace K02
open PySem PySem.Spec PyProof.Rows L2 GS TL LamX
local macro_rules | `(tactic| walk_at "rd") => `(tactic| (repeat (first
  | with_reducible refine r_next ?_
  | with_reducible refine r_seq ?_
  | with_reducible refine r_ret ?_
  | with_reducible refine r_ifS ?_
  | with_reducible refine r_asg ?_
  | with_reducible refine r_drop ?_
  | with_reducible refine r_op ?_
  | with_reducible refine r_un ?_
  | with_reducible refine r_cbInt ?_
  | with_reducible refine r_cbAbs ?_
  | with_reducible refine r_cbLen ?_
  | with_reducible refine r_cbList ?_
  | with_reducible refine r_cbTup ?_
  | with_reducible refine r_iEnT ?_
  | with_reducible refine r_iEnL ?_
  | with_reducible refine r_zipA ?_
  | with_reducible refine r_zipX ?_
  | with_reducible refine r_augS ?_
  | with_reducible refine r_cb ?_
  | with_reducible refine r_call ?_
  | with_reducible refine r_make ?_
  | with_reducible refine r_callN0 ?_
  | with_reducible refine r_makeK0 ?_
  | with_reducible refine r_makeS ?_
  | with_reducible refine r_callS ?_
  | with_reducible refine r_cons ?_
  | with_reducible refine r_nil ?_
  | with_reducible refine r_test ?_
  | with_reducible refine r_B ?_
  | with_reducible refine r_and ?_
  | with_reducible refine r_or ?_
  | with_reducible refine r_not ?_
  | with_reducible refine r_andV ?_
  | with_reducible refine r_orV ?_
  | with_reducible refine r_notV ?_
  | with_reducible refine r_if ?_
  | with_reducible refine r_tup ?_
  | with_reducible refine r_lst ?_
  | with_reducible refine r_c ?_
  | with_reducible refine r_lc ?_
  | with_reducible refine r_chain ?_
  | with_reducible refine r_iT ?_
  | with_reducible refine r_iL ?_
  | with_reducible refine r_iR1 ?_
  | with_reducible refine r_iR2 ?_
  | with_reducible refine r_iR3 ?_
  | with_reducible refine r_asgG ?_
  | with_reducible refine r_gSub ?_
  | with_reducible refine r_for ?_
  | with_reducible refine r_smeth ?_
  | with_reducible refine r_par ?_
  | with_reducible refine r_parK ?_
  | with_reducible refine r_gCons ?_
  | with_reducible refine r_gNil ?_
  | with_reducible refine r_gName ?_
  | with_reducible refine r_intI ?_
  | with_reducible refine r_intB ?_
  | with_reducible refine r_absI ?_
  | with_reducible refine r_k ?_
  | with_reducible refine r_kV ?_
  | ((with_reducible show tVar _ _ _ _); refine r_var3 ?_ (by rfl))
  | with_reducible refine r_I0 ?_
  | with_reducible refine r_U ?_
  | with_reducible refine r_eqI ?_
  | with_reducible refine r_neI ?_
  | with_reducible refine r_F ?_
  | dsimp only)))
local macro_rules | `(tactic| walk_at "rx") => `(tactic| (repeat (first
  | with_reducible refine r_next ?_
  | with_reducible refine r_ret ?_
  | with_reducible refine r_ifS ?_
  | with_reducible refine r_asg ?_
  | with_reducible refine r_drop ?_
  | with_reducible refine r_op ?_
  | with_reducible refine r_un ?_
  | with_reducible refine r_cbInt ?_
  | with_reducible refine r_cbAbs ?_
  | with_reducible refine r_cbLen ?_
  | with_reducible refine r_cbList ?_
  | with_reducible refine r_cbTup ?_
  | with_reducible refine r_iEnT ?_
  | with_reducible refine r_iEnL ?_
  | with_reducible refine r_zipA ?_
  | with_reducible refine r_zipX ?_
  | with_reducible refine r_augS ?_
  | with_reducible refine r_cb ?_
  | with_reducible refine r_call ?_
  | with_reducible refine r_make ?_
  | with_reducible refine r_callN0 ?_
  | with_reducible refine r_makeK0 ?_
  | with_reducible refine r_makeS ?_
  | with_reducible refine r_callS ?_
  | with_reducible refine r_cons ?_
  | with_reducible refine r_nil ?_
  | with_reducible refine r_test ?_
  | with_reducible refine r_B ?_
  | with_reducible refine r_and ?_
  | with_reducible refine r_or ?_
  | with_reducible refine r_not ?_
  | with_reducible refine r_andV ?_
  | with_reducible refine r_orV ?_
  | with_reducible refine r_notV ?_
  | with_reducible refine r_if ?_
  | with_reducible refine r_tup ?_
  | with_reducible refine r_lst ?_
  | with_reducible refine r_c ?_
  | with_reducible refine r_lc ?_
  | with_reducible refine r_chain ?_
  | with_reducible refine r_iT ?_
  | with_reducible refine r_iL ?_
  | with_reducible refine r_iR1 ?_
  | with_reducible refine r_iR2 ?_
  | with_reducible refine r_iR3 ?_
  | with_reducible refine r_asgG ?_
  | with_reducible refine r_gSub ?_
  | with_reducible refine r_for ?_
  | with_reducible refine r_smeth ?_
  | with_reducible refine r_par ?_
  | with_reducible refine r_parK ?_
  | with_reducible refine r_gCons ?_
  | with_reducible refine r_gNil ?_
  | with_reducible refine r_gName ?_
  | with_reducible refine r_intI ?_
  | with_reducible refine r_intB ?_
  | with_reducible refine r_absI ?_
  | with_reducible refine r_k ?_
  | with_reducible refine r_kV ?_
  | ((with_reducible show tVar _ _ _ _); refine r_var3 ?_ (by rfl))
  | with_reducible refine r_I0 ?_
  | with_reducible refine r_U ?_
  | with_reducible refine r_eqI ?_
  | with_reducible refine r_neI ?_
  | with_reducible refine r_F ?_
  | dsimp only)))
theorem Z.small {i : Int} (h : i.natAbs < 10000000000) : Z 34 i := Nat.lt_trans h (by decide)
theorem pow1018 : (10 : Int) ^ (18 : Int).toNat = 1000000000000000000 := rfl
theorem p10 (k : Nat) (h : k ≤ 100000) : CPowW 10 (k : Int) := cpow_of (n := 4) (k := k) (by decide) (by omega)
/-! ### the bag -/
def spBag (K : PySem.W.Frag) : Sp := sp1 fun v H Q _ => ∃ (L : Addr) (xs : List Int), v = .ref L ∧ SqL K H L (xs.map V.int) ∧ (∀ x ∈ xs, Z 2000000 x) ∧ ∀ b H', Ex H H' → H b = none → Bag H' b 0 → Q (.ref b) H'
theorem cut_map (xs : List Int) (n : Nat) : cutV (xs.map V.int) none (some (n : Int)) = (xs.take n).map V.int := by
  unfold cutV
  rw [HT.sIx_none, HT.sIx_nat, List.drop_zero, List.length_map, Nat.sub_zero, List.map_take]
  by_cases c : n ≤ xs.length
  · rw [Nat.min_eq_left c]
  · rw [Nat.min_eq_right (by omega), List.take_of_length_le (by simp), List.take_of_length_le (by simp; omega)]
theorem range_map (xs : List Int) : ((List.range xs.length).map fun j => V.int (xs.getD j 0)) = xs.map V.int := by
  refine List.ext_getElem (by simp) fun i h1 h2 => ?_
  simp at h1
  simp [h1]
theorem ok__law_ark {P : Program} {w : World} {K : PySem.W.Frag} {mg : Str → Option Value} {base : Heap} (T : Txt K mg) : ∃ fd, FnOk P w K mg base (L2.CX P w) 1 (He.ga K "_law_ark") fd ["script"] (spBag K) ∧ Binds K fd ["script"] [] := by
  obtain ⟨fd, F⟩ := T.d__law_ark
  refine ⟨fd, F.ok sc__law_ark sp1_len (fun cdv A outer s H vs Q E hr h => ?_), F.bindsN fun _ _ _ _ _ _ us hl => match us, hl with | [_], _ => rfl⟩
  obtain ⟨v, rfl, L, xs, rfl, hL, hz, k⟩ := sp1_is h
  refine ⟨_, (pss_one (ps_ret (pe_lst (pa_cons (pe_lc (own := [("cell", 1)]) (g := gName 1) (tt := tYes)  rfl sc__law_ark.nd (pi_list (pe_slice sl_list (pv 0) po_none (po_some pe_int))) (blkOk_by (own := [("cell", 1)]) (N := ["script", "cell"]) (sc := defScope s__law_ark) (by decide +kernel)) (fun _ _ _ _ _ => (pg_name (i := 1) sc__law_ark.nd rfl (Or.inl rfl))) (fun _ _ _ _ _ => pts_nil) (fun _ _ _ _ _ => (pe_callTy call_int1 (by rfl) T.b_int (by decide +kernel) (pa_cons (pv 1) pa_nil)))) (pa_cons pe_int (pa_cons pe_int pa_nil)))))), ?_⟩
  walk_at "rd"
  refine ⟨V.ref L, rfl, 60, rfl, L, _, rfl, hL, fun p hp => ⟨p, rfl, ⟨_, SqL.of upd_same⟩, ?_⟩⟩
  rw [show (60 : Int) = ((60 : Nat) : Int) from rfl, cut_map]
  have hn : (xs.take 60).length ≤ 60 := by rw [List.length_take]; omega
  have e0 : Ex H (upd H p (.lst ((xs.take 60).map V.int))) := Ex.new hp
  have h0 : (upd H p (.lst ((xs.take 60).map V.int))) p = some (.lst ((xs.take 60).map V.int)) := upd_same
  generalize upd H p (.lst ((xs.take 60).map V.int)) = H0 at e0 h0 ⊢
  generalize hy : xs.take 60 = ys at hn h0
  refine r_lcM (n := ys.length) (k := 1) (by simpa using walk_list (xs := ys.map V.int)) (fun j => .int (ys.getD j 0)) (by omega) (fun H' e => SqL.of (e _ _ h0)) (fun _ => rfl) ?_ ?_
  · rintro j y H1 H' hj e1 ⟨rfl, hy⟩
    refine ⟨Ex.refl _, fun H3 e3 R r => ?_⟩
    have : y = .int (ys.getD j 0) := by
      have := hy
      rw [List.getElem?_map] at this
      rw [List.getD_eq_getElem?_getD]
      cases q : ys[j]? with
      | none => rw [q] at this; cases this
      | some a => rw [q] at this; exact (Option.some.inj this).symm
    subst this
    walk_at "rd"
    exact r H3 (Ex.refl _)
  · intro q H2 hq e2 hl
    rw [range_map] at hl
    walk_at "rd"
    refine r_newL (sz_le (by simp)) fun b H3 hb e3 h3 => ?_
    have hbH : H b = none := (e0.trans e2).free hb
    refine k b H3 ((e0.trans e2).trans e3) hbH ⟨q, ys, 0, 0, h3, e3 _ _ hl, ?_, Int.le_refl _, Int.le_refl _, Int.le_refl _, (by omega), fun x hx => hz x ?_⟩
    · exact ne_of_none hl hb
    · rw [← hy] at hx
      exact List.mem_of_mem_take hx
theorem ok__law_haul {P : Program} {w : World} {K : PySem.W.Frag} {mg : Str → Option Value} {base : Heap} (T : Txt K mg) : ∃ fd, FnOk P w K mg base (L2.CX P w) 1 (He.ga K "_law_haul") fd ["ark", "many"] (spDrawG) ∧ Binds K fd ["ark", "many"] [] := by
  obtain ⟨fd, F⟩ := T.d__law_haul
  refine ⟨fd, F.ok sc__law_haul sp2_len (fun cdv A outer s H vs Q E hr h => ?_), F.bindsN fun _ _ _ _ _ _ us hl => match us, hl with | [_, _], _ => rfl⟩
  obtain ⟨b0, m0, rfl, b, m, n, rfl, rfl, m1, mz, hn, hbag, k⟩ := sp2_is h
  refine ⟨_, (pss_cons (ps_if (pt_cmpR op_gt (pe_ix (kx_ixl rfl) (pv 0) pe_int (fun _ _ => rfl)) pe_int (nomark _)) (pss_cons (ps_set (i := 2) sc__law_haul.nd rfl (Or.inl rfl) (pe_callTy call_int1 (by rfl) T.b_int (by decide +kernel) (pa_cons (pe_ix (kx_ixl rfl) (pv 0) pe_int (fun _ _ => rfl)) pa_nil)))
      (pss_cons (ps_asg (pe_op op_fdivW (pv 2) (pv 1)) (pg_sub (pv 0) pe_int set_list))
      (pss_one (ps_ret (pe_op op_mod (pe_callTy call_int1 (by rfl) T.b_int (by decide +kernel) (pa_cons (pv 2) pa_nil)) (pv 1)))))) pss_nil)
      (pss_cons (ps_set (i := 3) sc__law_haul.nd rfl (Or.inl rfl) (pe_ix (kx_ixl rfl) (pv 0) pe_int (fun _ _ => rfl)))
      (pss_cons (ps_asg (pe_op op_add (pv 3) pe_int) (pg_sub (pv 0) pe_int set_list))
      (pss_cons (ps_set (i := 4) sc__law_haul.nd rfl (Or.inl rfl) (pe_op op_add (pe_op op_mulB pe_int (pv 3)) pe_int))
      (pss_cons (ps_if (pt_cmpR (op_neD hr.units) (pe_ix (kx_ixl rfl) (pv 0) pe_int (fun _ _ => rfl)) (pe_lst pa_nil) (nomark _)) (pss_one (ps_set (i := 4) sc__law_haul.nd rfl (Or.inl rfl) (pe_ix (kx_ixl rfl) (pe_ix (kx_ixl rfl) (pv 0) pe_int (fun _ _ => rfl)) (pe_op op_mod (pe_callTy call_int1 (by rfl) T.b_int (by decide +kernel) (pa_cons (pv 3) pa_nil)) (pe_callB (kx_lens rfl) (by rfl) T.b_len PySem.boot_len (pa_cons (pe_ix (kx_ixl rfl) (pv 0) pe_int (fun _ _ => rfl)) pa_nil))) (fun _ _ => rfl)))) pss_nil)
      (pss_cons (ps_if (PW.pt (pw_and (pt_cmpR op_lt (pv 3) (pe_callB (kx_lens rfl) (by rfl) T.b_len PySem.boot_len (pa_cons (pe_ix (kx_ixl rfl) (pv 0) pe_int (fun _ _ => rfl)) pa_nil)) (nomark _)) (pw_and1 (pt_cmpR op_ge (pe_callB call_abs (by rfl) T.b_abs (by decide +kernel) (pa_cons (pv 4) pa_nil)) (pe_op op_powW pe_int pe_int) (nomark _))))) (pss_cons (ps_set (i := 2) sc__law_haul.nd rfl (Or.inl rfl) (pe_op op_add (pe_op op_mulB pe_int (pe_op op_sub (pe_callB call_abs (by rfl) T.b_abs (by decide +kernel) (pa_cons (pe_callTy call_int1 (by rfl) T.b_int (by decide +kernel) (pa_cons (pv 4) pa_nil)) pa_nil)) (pe_op op_powW pe_int pe_int))) (pe_callTy call_int1 (by rfl) T.b_int (by decide +kernel) (pa_cons (pe_cmpR op_lt (pv 4) pe_int (nomark _)) pa_nil))))
      (pss_cons (ps_asg (pe_op op_fdivW (pv 2) (pv 1)) (pg_sub (pv 0) pe_int set_list))
      (pss_one (ps_ret (pe_op op_mod (pe_callTy call_int1 (by rfl) T.b_int (by decide +kernel) (pa_cons (pv 2) pa_nil)) (pv 1)))))) pss_nil)
      (pss_cons (ps_set (i := 5) sc__law_haul.nd rfl (Or.inl rfl) (pe_op op_mod (pe_callTy call_int1 (by rfl) T.b_int (by decide +kernel) (pa_cons (pe_op op_powW (pe_op op_add (pe_op op_add (pe_op op_mod (pe_callTy call_int1 (by rfl) T.b_int (by decide +kernel) (pa_cons (pv 4) pa_nil)) pe_int) (pe_op op_mulB pe_int (pv 3))) pe_int) pe_int) pa_nil)) pe_int))
      (pss_cons (ps_set (i := 5) sc__law_haul.nd rfl (Or.inl rfl) (pe_op op_mod (pe_callTy call_int1 (by rfl) T.b_int (by decide +kernel) (pa_cons (pe_op op_powW (pe_op op_add (pe_op op_add (pe_op op_mulB (pv 5) (pe_op op_add (pe_op op_mulB pe_int (pv 3)) pe_int)) (pe_op op_mulB (pe_op op_mulB pe_int (pv 3)) (pv 3))) pe_int) pe_int) pa_nil)) pe_int))
      (pss_one (ps_ret (pe_op op_mod (pe_callTy call_int1 (by rfl) T.b_int (by decide +kernel) (pa_cons (pe_op op_fdivW (pv 5) pe_int) pa_nil)) (pv 1)))))))))))), ?_⟩
  obtain ⟨L, xs, a, l, hb, hL, hne, ha, han, hl, hx, hz⟩ := hbag.is
  have cd : ∀ i : Int, CDivW i m := fun i => wide_div m1 mz (by decide) (by decide)
  have fin : ∀ (H' : Hp) (x y r : Int), Bu b H H' → H' b = some (.lst [.ref L, .int y, .int x]) → 0 ≤ y → y ≤ n + 1 → 0 ≤ x → 0 ≤ r → r < m → Q (.int r) H' := fun H' x y r hbu hat y0 y1 x0 r0 r1 =>
    k r H' r0 r1 ⟨hbu, fun L' _ _ h => by rw [hb] at h; cases h; exact ⟨_, _, hat⟩⟩ ⟨L, xs, y, x, hat, hbu _ _ hne hL, hne, y0, y1, x0, hx, hz⟩
  have mn : ∀ i : Int, 0 ≤ i % m := fun i => Int.emod_nonneg _ (by omega)
  have ml : ∀ i : Int, i % m < m := fun i => Int.emod_lt_of_pos _ m1
  have dn : ∀ i : Int, 0 ≤ i → 0 ≤ i / m := fun i hi => Int.ediv_nonneg hi (by omega)
  walk_at "rd"
  refine r_ixL hb (v := .int l) rfl ?_
  walk_at "rd"
  by_cases c : 0 < l
  · refine ite_t (decide_eq_true c) ?_
    walk_at "rd"
    refine r_ixL hb (v := .int l) rfl ?_
    walk_at "rd"
    refine r_I (cd l) ?_
    walk_at "rd"
    refine r_setL hb (n := 2) rfl ?_
    walk_at "rd"
    refine r_I m1 ?_
    exact fin _ (l / m) a _ Bu.upd upd_same ha (by omega) (dn l hl) (mn l) (ml l)
  · refine ite_f (decide_eq_false c) ?_
    walk_at "rd"
    refine r_ixL hb (v := .int a) rfl ?_
    walk_at "rd"
    refine r_setL hb (n := 1) rfl ?_
    have za : Z 34 a := Z.small (by omega)
    have hL1 : ∀ o, (upd H b o) L = some (.lst (xs.map V.int)) := fun o => by rw [upd_ne hne]; exact hL
    have hB1 : Bu b H (upd H b (.lst ([V.ref L, .int a, .int l].set 1 (.int (a + 1))))) := Bu.upd
    have hb1 : (upd H b (.lst ([V.ref L, .int a, .int l].set 1 (.int (a + 1))))) b = some (.lst [.ref L, .int (a + 1), .int l]) := upd_same
    have hL1 := hB1 _ _ hne hL
    generalize upd H b _ = H1 at hB1 hb1 hL1 ⊢
    walk_at "rd"
    refine r_I (mulB_of (a := 34) (b := 34) (by decide) za (by decide) (by decide) (by decide)) ?_
    walk_at "rx"
    have z0 : Z 60 (74027 * a + 4133) := by
      unfold Z
      have : (2 : Nat) ^ 60 = 1152921504606846976 := rfl
      omega
    refine r_seqJ (fun σ' H' => ∃ cell, Z 2000000 cell ∧ Ex H1 H' ∧ σ' = [some (.ref b), some (.int m), none, some (.int a), some (.int cell), none]) (fun N hN => ?_) ?_
    · walk_at "rd"
      refine r_ixL hb1 (v := .ref L) rfl ?_
      walk_at "rd"
      refine r_newL (sz_le (by simp)) fun q H2 hq e2 h2 => ?_
      refine r_neInts (xs := xs) (ys := []) (e2 _ _ hL1) h2 ?_
      walk_at "rd"
      by_cases cx : xs = []
      · refine ite_f (by simp [cx]) ?_
        exact hN _ _ ⟨_, z0.mono (by decide), e2, rfl⟩
      · refine ite_t (by simp [cx]) ?_
        walk_at "rd"
        refine r_ixL (e2 _ _ hb1) (v := .ref L) rfl ?_
        walk_at "rd"
        refine r_ixL (e2 _ _ hb1) (v := .ref L) rfl ?_
        walk_at "rd"
        refine r_lenL (e2 _ _ hL1) ?_
        have hpos : 0 < xs.length := List.length_pos_iff.mpr cx
        rw [List.length_map]
        refine r_I (by omega) ?_
        obtain ⟨j, hj⟩ : ∃ j : Nat, a % (xs.length : Int) = (j : Int) := ⟨(a % (xs.length : Int)).toNat, by have := Int.emod_nonneg a (show (xs.length : Int) ≠ 0 by omega); omega⟩
        have hjl : j < xs.length := by have := Int.emod_lt_of_pos a (show (0 : Int) < xs.length by omega); omega
        rw [hj]
        refine r_ixL (e2 _ _ hL1) (v := .int xs[j]) (atI_nat (by rw [List.getElem?_map]; simp [hjl])) ?_
        walk_at "rd"
        exact hN _ _ ⟨xs[j], hz _ (List.getElem_mem hjl), e2, rfl⟩
    · rintro σ' H2 ⟨cell, zc, e2, rfl⟩
      have hb2 := e2 _ _ hb1
      have hL2 := e2 _ _ hL1
      have hB2 : Bu b H H2 := hB1.trans (Bu.of e2)
      refine r_seqJ (fun σ' H' => H' = H2 ∧ σ' = [some (.ref b), some (.int m), none, some (.int a), some (.int cell), none]) (fun N hN => ?_) ?_
      · walk_at "rd"
        refine r_ixL hb2 (v := .ref L) rfl ?_
        walk_at "rd"
        refine r_lenL hL2 ?_
        walk_at "rd"
        refine ite_b (fun _ => ?_) fun _ => ?_
        · walk_at "rd"
          refine r_pow (p10 18 (by decide)) pow1018 ?_
          walk_at "rd"
          refine ite_b (fun c2 => ?_) fun _ => ?_
          · have c3 : (1000000000000000000 : Int) ≤ (if cell < 0 then -cell else cell) := of_decide_eq_true c2
            have zd : Z 2000001 ((if cell < 0 then -cell else cell) - 1000000000000000000) := by
              refine Z.sub ?_ (Z.mono (n := 64) (by unfold Z; decide) (by decide))
              unfold Z at *
              split <;> omega
            walk_at "rd"
            refine r_pow (p10 18 (by decide)) pow1018 ?_
            walk_at "rd"
            refine r_I (mulB_of (i := 2) (a := 2) (by decide) zd (by decide) (by decide) (by decide)) ?_
            walk_at "rd"
            have hl2 : 0 ≤ 2 * ((if cell < 0 then -cell else cell) - 1000000000000000000) + (if decide (cell < 0) = true then 1 else 0) := by split <;> omega
            generalize 2 * ((if cell < 0 then -cell else cell) - 1000000000000000000) + (if decide (cell < 0) = true then 1 else 0) = t at hl2 ⊢
            refine r_I (cd t) ?_
            walk_at "rd"
            refine r_setL hb2 (n := 2) rfl ?_
            walk_at "rd"
            refine r_I m1 ?_
            exact fin _ (t / m) (a + 1) _ (hB2.trans Bu.upd) upd_same (by omega) (by omega) (dn t hl2) (mn t) (ml t)
          · exact hN _ _ ⟨rfl, rfl⟩
        · exact hN _ _ ⟨rfl, rfl⟩
      · rintro σ' H3 ⟨rfl, rfl⟩
        have pm : ∀ (i M : Int), 0 < M → M < 2147483648 → Z 34 (i % M) := fun i M h1 h2 => Z.small (by have := Int.emod_nonneg i (show M ≠ 0 by omega); have := Int.emod_lt_of_pos i h1; omega)
        walk_at "rd"
        refine r_I (by decide) ?_
        walk_at "rd"
        refine r_I (mulB_of (a := 34) (b := 34) (by decide) za (by decide) (by decide) (by decide)) ?_
        walk_at "rd"
        have z1 : Z 70 (cell % 2147483549 + 81031 * a + 4133) := by
          have := pm cell 2147483549 (by decide) (by decide)
          unfold Z at *
          have e1 : (2 : Nat) ^ 70 = 1180591620717411303424 := rfl
          have e2 : (2 : Nat) ^ 34 = 17179869184 := rfl
          omega
        refine r_I (cpow_of (n := 70) (k := 5) z1 (by decide)) ?_
        walk_at "rd"
        refine r_I (by decide) ?_
        walk_at "rd"
        refine r_I (mulB_of (a := 34) (b := 34) (by decide) za (by decide) (by decide) (by decide)) ?_
        walk_at "rd"
        generalize hx1 : (cell % 2147483549 + 81031 * a + 4133) ^ ((5 : Nat) : Int).toNat % 2147483579 = x1
        have zx1 : Z 34 x1 := by rw [← hx1]; exact pm _ _ (by decide) (by decide)
        have z2 : Z 40 (2 * a + 4861) := by
          unfold Z
          have e1 : (2 : Nat) ^ 40 = 1099511627776 := rfl
          omega
        refine r_I (mulB_of zx1 z2 (by decide) (by decide) (by decide)) ?_
        walk_at "rd"
        refine r_I (mulB_of (a := 34) (b := 34) (by decide) za (by decide) (by decide) (by decide)) ?_
        walk_at "rd"
        have z3 : Z 60 (74027 * a) := by
          unfold Z
          have : (2 : Nat) ^ 60 = 1152921504606846976 := rfl
          omega
        refine r_I (mulB_of z3 za (by decide) (by decide) (by decide)) ?_
        walk_at "rd"
        have z4 : Z 120 (x1 * (2 * a + 4861) + 74027 * a * a + 81031) := by
          refine (((zx1.mul z2).mono (m := 100) (by decide)).add ((z3.mul za).mono (m := 100) (by decide))).mono (m := 110) (by decide) |>.add (Z.mono (n := 34) (by unfold Z; decide) (by decide)) |>.mono (by decide)
        refine r_I (cpow_of (n := 120) (k := 3) z4 (by decide)) ?_
        walk_at "rd"
        refine r_I (by decide) ?_
        walk_at "rd"
        refine r_I (wide_div (b := 10) (by decide) (by decide) (by decide) (by decide)) ?_
        walk_at "rd"
        refine r_I m1 ?_
        exact fin _ l (a + 1) _ hB2 hb2 (by omega) (by omega) hl (mn _) (ml _)
/-! ### what is drawn -/
def spPick : Sp := sp2 fun b l H Q _ => ∃ (p : Addr) (n : Int) (L : Addr) (xs : List V), b = .ref p ∧ l = .ref L ∧ H L = some (.lst xs) ∧ L ≠ p ∧ xs ≠ [] ∧ xs.length ≤ 1000 ∧ n ≤ 100000 ∧ Bag H p n ∧ ∀ v H', v ∈ xs → Bg p H H' → Bag H' p (n + 1) → Q v H'
theorem ok__law_fish {P : Program} {w : World} {K : PySem.W.Frag} {mg : Str → Option Value} {base : Heap} (T : Txt K mg) : ∃ fd, FnOk P w K mg base (L2.CX P w) 2 (He.ga K "_law_fish") fd ["ark", "some"] (spPick) ∧ Binds K fd ["ark", "some"] [] := by
  obtain ⟨fd, F⟩ := T.d__law_fish
  obtain ⟨fd__law_haul, F__law_haul, B__law_haul⟩ := ok__law_haul (P := P) (w := w) (base := base) T
  refine ⟨fd, F.ok sc__law_fish sp2_len (fun cdv A outer s H vs Q E hr h => ?_), F.bindsN fun _ _ _ _ _ _ us hl => match us, hl with | [_, _], _ => rfl⟩
  have hr__law_haul : Room 1 _ := hr.mono (by decide)
  obtain ⟨b0, l0, rfl, p, n, L, xs, rfl, rfl, hL, hne, hx, hl, hn, hb, k⟩ := sp2_is h
  refine ⟨_, (pss_one (ps_ret (pe_ix (kx_ixl rfl) (pv 1) (pe_call F__law_haul hr__law_haul (by rfl) T.g__law_haul T.k__law_haul B__law_haul .nil passL (pa_cons (pv 0) (pa_cons (pe_callB (kx_lens rfl) (by rfl) T.b_len PySem.boot_len (pa_cons (pv 1) pa_nil)) pa_nil))) (fun _ _ => rfl)))), ?_⟩
  walk_at "rd"
  refine r_lenL hL ?_
  walk_at "rd"
  have h0 : 0 < xs.length := List.length_pos_iff.mpr hx
  refine r_DrawG hb hn (by omega) (Z.mono (n := 34) (Z.small (by omega)) (by decide)) fun r H' r0 r1 bu hb' => ?_
  walk_at "rd"
  have hj : r.toNat < xs.length := by omega
  have er : r = (r.toNat : Int) := by omega
  rw [er]
  refine r_ixL (bu.at_ hne hL) (v := xs[r.toNat]) (atI_nat (by simp [hj])) ?_
  exact k _ H' (List.getElem_mem hj) bu hb'
/-- one of a list that was just laid -/
theorem r_One {H H0 : Hp} {Q : VK} {E : XK} {p L : Addr} {n : Int} {xs : List V} (hb : Bag H p n) (hL : H L = some (.lst xs)) (no : ∀ l x y, HO.lst xs ≠ .lst [.ref l, .int x, .int y]) (hx : xs ≠ []) (hl : xs.length ≤ 1000) (hn : n ≤ 100000) (k : ∀ v H', v ∈ xs → Bg p H H' → Bag H' p (n + 1) → Q v H') : spPick ([.ref p, .ref L] ++ []) H Q E :=
  ⟨p, n, L, xs, rfl, rfl, hL, hb.ne hL no, hx, hl, hn, hb, k⟩
theorem zsm {i : Int} (h : i.natAbs < 10000000000) : Z 1000 i := Z.mono (n := 34) (Z.small h) (by decide)
theorem Bg.free {p D : Addr} {H H' : Hp} {n : Int} (g : Bg p H H') (hb : Bag H p n) (hD : H' D = none) : H D = none := by
  cases e : H D with
  | none => rfl
  | some o =>
    have np : D ≠ p := by
      rintro rfl
      obtain ⟨L, xs, x, y, h1, _⟩ := hb.is
      obtain ⟨x', y', h'⟩ := g.2 L _ _ h1
      rw [hD] at h'
      cases h'
    rw [g.at_ np e] at hD
    cases hD

end K02
namespace K02
open PySem PySem.Spec PyProof.Rows L2 GS TL LamX
local macro_rules | `(tactic| walk_at "rd") => `(tactic| (repeat (first
  | with_reducible refine r_next ?_
  | with_reducible refine r_seq ?_
  | with_reducible refine r_ret ?_
  | with_reducible refine r_ifS ?_
  | with_reducible refine r_asg ?_
  | with_reducible refine r_drop ?_
  | with_reducible refine r_op ?_
  | with_reducible refine r_un ?_
  | with_reducible refine r_cbInt ?_
  | with_reducible refine r_cbAbs ?_
  | with_reducible refine r_cbLen ?_
  | with_reducible refine r_cbList ?_
  | with_reducible refine r_cbTup ?_
  | with_reducible refine r_iEnT ?_
  | with_reducible refine r_iEnL ?_
  | with_reducible refine r_zipA ?_
  | with_reducible refine r_zipX ?_
  | with_reducible refine r_augS ?_
  | with_reducible refine r_cb ?_
  | with_reducible refine r_call ?_
  | with_reducible refine r_make ?_
  | with_reducible refine r_callN0 ?_
  | with_reducible refine r_makeK0 ?_
  | with_reducible refine r_makeS ?_
  | with_reducible refine r_callS ?_
  | with_reducible refine r_cons ?_
  | with_reducible refine r_nil ?_
  | with_reducible refine r_test ?_
  | with_reducible refine r_B ?_
  | with_reducible refine r_and ?_
  | with_reducible refine r_or ?_
  | with_reducible refine r_not ?_
  | with_reducible refine r_andV ?_
  | with_reducible refine r_orV ?_
  | with_reducible refine r_notV ?_
  | with_reducible refine r_if ?_
  | with_reducible refine r_tup ?_
  | with_reducible refine r_lst ?_
  | with_reducible refine r_c ?_
  | with_reducible refine r_lc ?_
  | with_reducible refine r_chain ?_
  | with_reducible refine r_iT ?_
  | with_reducible refine r_iL ?_
  | with_reducible refine r_iR1 ?_
  | with_reducible refine r_iR2 ?_
  | with_reducible refine r_iR3 ?_
  | with_reducible refine r_asgG ?_
  | with_reducible refine r_gSub ?_
  | with_reducible refine r_for ?_
  | with_reducible refine r_smeth ?_
  | with_reducible refine r_par ?_
  | with_reducible refine r_parK ?_
  | with_reducible refine r_gCons ?_
  | with_reducible refine r_gNil ?_
  | with_reducible refine r_gName ?_
  | with_reducible refine r_intI ?_
  | with_reducible refine r_intB ?_
  | with_reducible refine r_absI ?_
  | with_reducible refine r_k ?_
  | with_reducible refine r_kV ?_
  | ((with_reducible show tVar _ _ _ _); refine r_var3 ?_ (by rfl))
  | with_reducible refine r_I0 ?_
  | with_reducible refine r_U ?_
  | with_reducible refine r_eqI ?_
  | with_reducible refine r_neI ?_
  | dsimp only)))
local macro_rules | `(tactic| walk_at "rx") => `(tactic| (repeat (first
  | with_reducible refine r_next ?_
  | with_reducible refine r_ret ?_
  | with_reducible refine r_ifS ?_
  | with_reducible refine r_asg ?_
  | with_reducible refine r_drop ?_
  | with_reducible refine r_op ?_
  | with_reducible refine r_un ?_
  | with_reducible refine r_cbInt ?_
  | with_reducible refine r_cbAbs ?_
  | with_reducible refine r_cbLen ?_
  | with_reducible refine r_cbList ?_
  | with_reducible refine r_cbTup ?_
  | with_reducible refine r_iEnT ?_
  | with_reducible refine r_iEnL ?_
  | with_reducible refine r_zipA ?_
  | with_reducible refine r_zipX ?_
  | with_reducible refine r_augS ?_
  | with_reducible refine r_cb ?_
  | with_reducible refine r_call ?_
  | with_reducible refine r_make ?_
  | with_reducible refine r_callN0 ?_
  | with_reducible refine r_makeK0 ?_
  | with_reducible refine r_makeS ?_
  | with_reducible refine r_callS ?_
  | with_reducible refine r_cons ?_
  | with_reducible refine r_nil ?_
  | with_reducible refine r_test ?_
  | with_reducible refine r_B ?_
  | with_reducible refine r_and ?_
  | with_reducible refine r_or ?_
  | with_reducible refine r_not ?_
  | with_reducible refine r_andV ?_
  | with_reducible refine r_orV ?_
  | with_reducible refine r_notV ?_
  | with_reducible refine r_if ?_
  | with_reducible refine r_tup ?_
  | with_reducible refine r_lst ?_
  | with_reducible refine r_c ?_
  | with_reducible refine r_lc ?_
  | with_reducible refine r_chain ?_
  | with_reducible refine r_iT ?_
  | with_reducible refine r_iL ?_
  | with_reducible refine r_iR1 ?_
  | with_reducible refine r_iR2 ?_
  | with_reducible refine r_iR3 ?_
  | with_reducible refine r_asgG ?_
  | with_reducible refine r_gSub ?_
  | with_reducible refine r_for ?_
  | with_reducible refine r_smeth ?_
  | with_reducible refine r_par ?_
  | with_reducible refine r_parK ?_
  | with_reducible refine r_gCons ?_
  | with_reducible refine r_gNil ?_
  | with_reducible refine r_gName ?_
  | with_reducible refine r_intI ?_
  | with_reducible refine r_intB ?_
  | with_reducible refine r_absI ?_
  | with_reducible refine r_k ?_
  | with_reducible refine r_kV ?_
  | ((with_reducible show tVar _ _ _ _); refine r_var3 ?_ (by rfl))
  | with_reducible refine r_I0 ?_
  | with_reducible refine r_U ?_
  | with_reducible refine r_eqI ?_
  | with_reducible refine r_neI ?_
  | dsimp only)))
theorem r_cat {H : Hp} {Q : VK} {l b : Addr} {xs zs : List V} (h1 : H l = some (.lst xs)) (h2 : H b = some (.lst zs)) (hz : xs.length + zs.length ≤ 50000) (q : ∀ p H', H p = none → Ex H H' → H' p = some (.lst (xs ++ zs)) → Q (.ref p) H') : rCat (.ref l) (.ref b) H Q :=
  ⟨l, b, xs, zs, rfl, rfl, h1, h2, sz_le (by omega), fun p hp => q p _ hp (Ex.new hp) upd_same⟩
theorem r_sl {K : PySem.W.Frag} {H : Hp} {Q : VK} {L : Addr} {xs zs : List V} {lo hi : Option Int} (h : H L = some (.lst xs)) (e : cutV xs lo hi = zs) (q : ∀ p H', H p = none → Ex H H' → H' p = some (.lst zs) → Q (.ref p) H') : rSlL K (.ref L) lo hi H Q :=
  ⟨L, xs, rfl, SqL.of h, fun p hp => q p _ hp (Ex.new hp) (by rw [upd_same, e])⟩
theorem cut_T (ys : List Str) (k : Nat) : cutV (ys.map V.str) none (some (k : Int)) = (ys.take k).map V.str := by
  unfold cutV
  rw [HT.sIx_none, HT.sIx_nat, List.drop_zero, List.length_map, Nat.sub_zero, List.map_take]
  by_cases c : k ≤ ys.length
  · rw [Nat.min_eq_left c]
  · rw [Nat.min_eq_right (by omega), List.take_of_length_le (by simp), List.take_of_length_le (by simp; omega)]
theorem cut_D (ys : List Str) (k : Nat) (h : k ≤ ys.length) : cutV (ys.map V.str) (some (k : Int)) none = (ys.drop k).map V.str := by
  unfold cutV
  rw [HT.sIx_none, HT.sIx_nat, List.length_map, Nat.min_eq_left h, List.take_of_length_le (by simp), List.map_drop]
/-! ### what is drawn -/
theorem refs_ne {ts : List Addr} : ∀ (l : Addr) (x y : Int), HO.lst (ts.map V.ref) ≠ .lst [.ref l, .int x, .int y] := by
  intro l x y z
  have z : ts.map V.ref = [.ref l, .int x, .int y] := by injection z
  match ts, z with
  | [], z => cases z
  | [a], z => simp at z
  | a :: b :: r, z => simp at z
theorem strs_ne {ys : List Str} : ∀ (l : Addr) (x y : Int), HO.lst (ys.map V.str) ≠ .lst [.ref l, .int x, .int y] := by
  intro l x y z
  have z : ys.map V.str = [.ref l, .int x, .int y] := by injection z
  match ys, z with
  | [], z => cases z
  | a :: r, z => simp at z
theorem TP.bg {H H' : Hp} {p : Addr} {n : Int} {ts : List Addr} {ps : List (Int × Int)} (h : TP H ts ps) (b : Bag H p n) (g : Bg p H H') : TP H' ts ps := ⟨h.1, fun j t q h1 h2 => g.at_ (b.ne (h.2 j t q h1 h2) fun _ _ _ z => by cases z) (h.2 j t q h1 h2)⟩
theorem pow1060 : (10 : Int) ^ (60 : Int).toNat = 1000000000000000000000000000000000000000000000000000000000000 := rfl
def spNum : Sp := sp1 fun b H Q _ => ∃ (p : Addr) (n : Int), b = .ref p ∧ n ≤ 90000 ∧ Bag H p n ∧ ∀ c H', c.natAbs < 10 ^ 60 → Bg p H H' → Bag H' p (n + 3) → Q (.int c) H'
theorem ok__law_number {P : Program} {w : World} {K : PySem.W.Frag} {mg : Str → Option Value} {base : Heap} (T : Txt K mg) : ∃ fd, FnOk P w K mg base (L2.CX P w) 3 (He.ga K "_law_number") fd ["ark"] (spNum) ∧ Binds K fd ["ark"] [] := by
  obtain ⟨fd, F⟩ := T.d__law_number
  obtain ⟨fd__law_haul, F__law_haul, B__law_haul⟩ := ok__law_haul (P := P) (w := w) (base := base) T
  obtain ⟨fd__law_fish, F__law_fish, B__law_fish⟩ := ok__law_fish (P := P) (w := w) (base := base) T
  refine ⟨fd, F.ok sc__law_number sp1_len (fun cdv A outer s H vs Q E hr h => ?_), F.bindsN fun _ _ _ _ _ _ us hl => match us, hl with | [_], _ => rfl⟩
  have hr__law_haul : Room 1 _ := hr.mono (by decide)
  have hr__law_fish : Room 2 _ := hr.mono (by decide)
  obtain ⟨b0, rfl, p, n, rfl, hn, hb, k⟩ := sp1_is h
  refine ⟨_, (pss_cons (ps_set (i := 1) sc__law_number.nd rfl (Or.inl rfl) (pe_call F__law_haul hr__law_haul (by rfl) T.g__law_haul T.k__law_haul B__law_haul .nil passL (pa_cons (pv 0) (pa_cons (pe_call F__law_fish hr__law_fish (by rfl) T.g__law_fish T.k__law_fish B__law_fish .nil passL (pa_cons (pv 0) (pa_cons (pe_lst (pa_cons pe_int (pa_cons pe_int (pa_cons pe_int (pa_cons pe_int (pa_cons (pe_op op_powW pe_int pe_int) pa_nil)))))) pa_nil))) pa_nil))))
      (pss_one (ps_ret (pe_ifExp (pt_cmpR op_eq (pe_call F__law_haul hr__law_haul (by rfl) T.g__law_haul T.k__law_haul B__law_haul .nil passL (pa_cons (pv 0) (pa_cons pe_int pa_nil))) pe_int (nomark _)) (pe_un un_neg (pv 1)) (pv 1))))), ?_⟩
  walk_at "rd"
  refine r_pow (p10 60 (by decide)) pow1060 ?_
  walk_at "rd"
  refine r_newL (sz_le (by simp)) fun t0 H1 _ e1 h1 => ?_
  walk_at "rd"
  refine r_One (H0 := H1) (hb.ex e1) h1 (fun _ _ _ z => by cases z) (by simp) (by simp) (by omega) fun v H2 hv g2 b2 => ?_
  obtain ⟨m, rfl, m1, m2⟩ : ∃ m : Int, v = .int m ∧ 0 < m ∧ m ≤ 1000000000000000000000000000000000000000000000000000000000000 := by
    simp only [List.mem_cons, List.mem_nil_iff, or_false] at hv
    rcases hv with rfl | rfl | rfl | rfl | rfl
    · exact ⟨_, rfl, by decide, by decide⟩
    · exact ⟨_, rfl, by decide, by decide⟩
    · exact ⟨_, rfl, by decide, by decide⟩
    · exact ⟨_, rfl, by decide, by decide⟩
    · exact ⟨_, rfl, by decide, by decide⟩
  walk_at "rd"
  have z60 : (10 : Nat) ^ 60 = 1000000000000000000000000000000000000000000000000000000000000 := rfl
  refine r_DrawG b2 (by omega) m1 (show m.natAbs < 2 ^ 1000 from Nat.lt_of_le_of_lt (show m.natAbs ≤ 10 ^ 60 by rw [z60]; omega) (by decide)) fun r H3 r0 r1 g3 b3 => ?_
  walk_at "rd"
  refine r_DrawG b3 (by omega) (by decide) (zsm (by decide)) fun s H4 s0 s1 g4 b4 => ?_
  walk_at "rd"
  have g := ((Bg.of (p := p) e1).trans g2).trans (g3.trans g4)
  refine ite_b (fun _ => ?_) fun _ => ?_
  · walk_at "rd"
    exact k _ _ (by rw [z60]; omega) g (b4.le (by omega))
  · walk_at "rd"
    exact k _ _ (by rw [z60]; omega) g (b4.le (by omega))
theorem r_Num {H : Hp} {Q : VK} {E : XK} {p : Addr} {n : Int} (hb : Bag H p n) (hn : n ≤ 90000) (k : ∀ c H', c.natAbs < 10 ^ 60 → Bg p H H' → Bag H' p (n + 3) → Q (.int c) H') : spNum ([.ref p] ++ []) H Q E := ⟨p, n, rfl, hn, hb, k⟩
def AllI (ys : List Str) : Prop := ∀ y ∈ ys, ∃ o, OkI y o
structure Good (ys : List Str) : Prop where
  ne : ys ≠ []
  all : AllI ys
  many : ys.length ≤ 110
  each : ∀ y ∈ ys, y.length ≤ 61
theorem okN' {c : Int} (h : c.natAbs < 10 ^ 60) : (∃ o, OkI (nS c) o) ∧ (nS c).length ≤ 61 := ⟨⟨_, okI_nS h⟩, nS_len (k := 60) (by decide) h⟩
def spDrawn : Sp := sp1 fun b H Q _ => ∃ (p : Addr) (n : Int), b = .ref p ∧ n ≤ 80000 ∧ Bag H p n ∧ ∀ q ys H', Bg p H H' → Bag H' p (n + 400) → H q = none → H' q = some (.lst (ys.map V.str)) → Good ys → Q (.ref q) H'
theorem good_nS {l : List Int} (hl : l ≠ []) (h66 : l.length ≤ 110) (hz : ∀ c ∈ l, c.natAbs < 10 ^ 60) : Good (l.map nS) := by
  refine ⟨by simpa using hl, fun y hy => ?_, by rw [List.length_map]; exact h66, fun y hy => ?_⟩
  · obtain ⟨c, hc, rfl⟩ := List.mem_map.mp hy
    exact (okN' (hz c hc)).1
  · obtain ⟨c, hc, rfl⟩ := List.mem_map.mp hy
    exact (okN' (hz c hc)).2
theorem ok__law_bound {P : Program} {w : World} {K : PySem.W.Frag} {mg : Str → Option Value} {base : Heap} (T : Txt K mg) : ∃ fd, FnOk P w K mg base (L2.CX P w) 4 (He.ga K "_law_bound") fd ["ark"] (spDrawn) ∧ Binds K fd ["ark"] [] := by
  obtain ⟨fd, F⟩ := T.d__law_bound
  obtain ⟨fd__law_number, F__law_number, B__law_number⟩ := ok__law_number (P := P) (w := w) (base := base) T
  refine ⟨fd, F.ok sc__law_bound sp1_len (fun cdv A outer s H vs Q E hr h => ?_), F.bindsN fun _ _ _ _ _ _ us hl => match us, hl with | [_], _ => rfl⟩
  have hr__law_number : Room 3 _ := hr.mono (by decide)
  obtain ⟨b0, rfl, p, n, rfl, hn, hb, k⟩ := sp1_is h
  refine ⟨_, (pss_one (ps_ret (pe_lst (pa_cons (pe_callTy call_str_int (by rfl) T.b_str (by decide +kernel) (pa_cons (pe_call F__law_number hr__law_number (by rfl) T.g__law_number T.k__law_number B__law_number .nil passL (pa_cons (pv 0) pa_nil)) pa_nil)) (pa_cons (pe_callTy call_str_int (by rfl) T.b_str (by decide +kernel) (pa_cons (pe_call F__law_number hr__law_number (by rfl) T.g__law_number T.k__law_number B__law_number .nil passL (pa_cons (pv 0) pa_nil)) pa_nil)) (pa_cons (pe_callTy call_str_int (by rfl) T.b_str (by decide +kernel) (pa_cons (pe_callB call_abs (by rfl) T.b_abs (by decide +kernel) (pa_cons (pe_call F__law_number hr__law_number (by rfl) T.g__law_number T.k__law_number B__law_number .nil passL (pa_cons (pv 0) pa_nil)) pa_nil)) pa_nil)) pa_nil)))))), ?_⟩
  walk_at "rd"
  refine r_Num hb (by omega) fun c1 H1 z1 g1 b1 => ?_
  refine ⟨_, rfl, nS_log z1, ?_⟩
  walk_at "rd"
  refine r_Num b1 (by omega) fun c2 H2 z2 g2 b2 => ?_
  refine ⟨_, rfl, nS_log z2, ?_⟩
  walk_at "rd"
  refine r_Num b2 (by omega) fun c3 H3 z3 g3 b3 => ?_
  walk_at "rd"
  have z3' : (if c3 < 0 then -c3 else c3).natAbs < 10 ^ 60 := by split <;> omega
  refine ⟨_, rfl, nS_log z3', ?_⟩
  walk_at "rd"
  have g := (g1.trans g2).trans g3
  refine r_newL (sz_le (by simp)) fun q H4 hq e4 h4 => ?_
  refine k q ([c1, c2, (if c3 < 0 then -c3 else c3)].map nS) H4 (g.trans (Bg.of e4)) ((b3.ex e4).le (by omega)) (Bg.free g hb hq) h4 (good_nS (by simp) (by simp) fun c hc => ?_)
  simp only [List.mem_cons, List.mem_nil_iff, or_false] at hc
  rcases hc with rfl | rfl | rfl
  · exact z1
  · exact z2
  · exact z3'
theorem ok__law_poly {P : Program} {w : World} {K : PySem.W.Frag} {mg : Str → Option Value} {base : Heap} (T : Txt K mg) : ∃ fd, FnOk P w K mg base (L2.CX P w) 4 (He.ga K "_law_poly") fd ["ark"] (spDrawn) ∧ Binds K fd ["ark"] [] := by
  obtain ⟨fd, F⟩ := T.d__law_poly
  obtain ⟨fd__law_haul, F__law_haul, B__law_haul⟩ := ok__law_haul (P := P) (w := w) (base := base) T
  obtain ⟨fd__law_fish, F__law_fish, B__law_fish⟩ := ok__law_fish (P := P) (w := w) (base := base) T
  obtain ⟨fd__law_number, F__law_number, B__law_number⟩ := ok__law_number (P := P) (w := w) (base := base) T
  refine ⟨fd, F.ok sc__law_poly sp1_len (fun cdv A outer s H vs Q E hr h => ?_), F.bindsN fun _ _ _ _ _ _ us hl => match us, hl with | [_], _ => rfl⟩
  have hr__law_haul : Room 1 _ := hr.mono (by decide)
  have hr__law_fish : Room 2 _ := hr.mono (by decide)
  have hr__law_number : Room 3 _ := hr.mono (by decide)
  obtain ⟨b0, rfl, p, n, rfl, hn, hb, k⟩ := sp1_is h
  refine ⟨_, (pss_one (ps_ret (pe_op op_cat (pe_lst (pa_cons (pe_callTy call_str_int (by rfl) T.b_str (by decide +kernel) (pa_cons (pe_op op_add pe_int (pe_call F__law_haul hr__law_haul (by rfl) T.g__law_haul T.k__law_haul B__law_haul .nil passL (pa_cons (pv 0) (pa_cons pe_int pa_nil)))) pa_nil)) pa_nil)) (pe_lc (own := [("turn", 1)]) (g := gName 1) (tt := tYes)  rfl sc__law_poly.nd (pi_range1 (by rfl) T.b_range (pa_cons (pe_call F__law_fish hr__law_fish (by rfl) T.g__law_fish T.k__law_fish B__law_fish .nil passL (pa_cons (pv 0) (pa_cons (pe_lst (pa_cons pe_int (pa_cons pe_int (pa_cons pe_int (pa_cons pe_int (pa_cons pe_int (pa_cons pe_int pa_nil))))))) pa_nil))) pa_nil)) (blkOk_by (own := [("turn", 1)]) (N := ["ark", "turn"]) (sc := defScope s__law_poly) (by decide +kernel)) (fun _ _ _ _ _ => (pg_name (i := 1) sc__law_poly.nd rfl (Or.inl rfl))) (fun _ _ _ _ _ => pts_nil) (fun _ _ _ _ _ => (pe_callTy call_str_int (by rfl) T.b_str (by decide +kernel) (pa_cons (pe_call F__law_number hr__law_number (by rfl) T.g__law_number T.k__law_number B__law_number .nil passL (pa_cons (pv 0) pa_nil)) pa_nil))))))), ?_⟩
  walk_at "rd"
  refine r_DrawG hb (by omega) (by decide) (zsm (by decide)) fun r H1 r0 r1 g1 b1 => ?_
  walk_at "rd"
  have z60 : (10 : Nat) ^ 60 = 1000000000000000000000000000000000000000000000000000000000000 := rfl
  have z0 : (1 + r).natAbs < 10 ^ 60 := by rw [z60]; omega
  refine ⟨_, rfl, nS_log z0, ?_⟩
  walk_at "rd"
  refine r_newL (sz_le (by simp)) fun q0 H2 hq0 e2 h2 => ?_
  walk_at "rd"
  refine r_newL (sz_le (by simp)) fun t0 H3 _ e3 h3 => ?_
  walk_at "rd"
  refine r_One (H0 := H3) ((b1.ex e2).ex e3) h3 (fun _ _ _ z => by cases z) (by simp) (by simp) (by omega) fun v H4 hv g4 b4 => ?_
  obtain ⟨m, rfl, hm⟩ : ∃ m : Nat, v = .int m ∧ m ≤ 63 := by
    simp only [List.mem_cons, List.mem_nil_iff, or_false] at hv
    rcases hv with rfl | rfl | rfl | rfl | rfl | rfl
    · exact ⟨0, rfl, by decide⟩
    · exact ⟨1, rfl, by decide⟩
    · exact ⟨2, rfl, by decide⟩
    · exact ⟨3, rfl, by decide⟩
    · exact ⟨5, rfl, by decide⟩
    · exact ⟨63, rfl, by decide⟩
  walk_at "rd"
  refine ⟨_, rfl, by omega, by omega, ?_⟩
  rw [Int.toNat_natCast]
  have q0p : q0 ≠ p := (b1.ex e2).ne h2 (fun _ _ _ z => by cases z)
  have hq04 : H4 q0 = some (.lst [V.str (nS (1 + r))]) := g4.at_ q0p (e3 _ _ h2)
  have g14 : Bg p H H4 := (g1.trans (Bg.of (e2.trans e3))).trans g4
  refine r_lcG (n := m) (walk_range (lo := 0) (n := m)) (fun D i ys H' => ∃ zs : List Int, ys = (zs.map nS).map V.str ∧ (∀ c ∈ zs, c.natAbs < 10 ^ 60) ∧ Bg p H4 H' ∧ Bag H' p (n + 2 + 3 * (i : Nat))) (by omega) (fun _ _ _ _ _ => trivial) (fun D hD => ⟨[], rfl, (fun _ z => by cases z), (Bg.refl p H4).updD b4 hD, (b4.le (by omega)).updD b4 (Bg.refl p H4) hD⟩) ?_ ?_ ?_
  · rintro D j ys H' o hD ⟨zs, e, hz, g, hb'⟩
    exact ⟨zs, e, hz, g.updD b4 hD, hb'.updD b4 g hD⟩
  · rintro D j x ys H8 H' hj hD hl' li ⟨zs, rfl, hz, g, hb'⟩ ⟨rfl, rfl⟩ N hN
    refine r_gName ⟨rfl, ?_⟩
    walk_at "rd"
    have nD : D ≠ p := by rintro rfl; have := b4.is; obtain ⟨L, xs, a, l, h1, _⟩ := this; rw [hD] at h1; cases h1
    refine r_Num hb' (by omega) fun c H9 zc g9 b9 => ?_
    refine ⟨_, rfl, nS_log zc, ?_⟩
    refine hN _ H9 (g9.at_ nD hl') ⟨zs ++ [c], by simp; rfl, fun c' hc => ?_, g.trans g9, b9.le (by push_cast; omega)⟩
    rcases List.mem_append.mp hc with hm | hm
    · exact hz c' hm
    · rw [List.mem_singleton.mp hm]; exact zc
  · rintro D ys H8 hD hl' li ⟨zs, rfl, hz, g8, b8⟩
    have lz : zs.length = m := by simpa using li
    refine r_cat (g8.at_ q0p hq04) hl' (by simp; omega) fun q9 H9 hq9 e9 h9 => ?_
    refine k q9 (((1 + r) :: zs).map nS) H9 ((g14.trans g8).trans (Bg.of e9)) ((b8.ex e9).le (by omega)) (Bg.free (g14.trans g8) hb hq9) h9 (good_nS (by simp) (by simp; omega) fun c hc => ?_)
    rcases List.mem_cons.mp hc with rfl | hc
    · exact z0
    · exact hz c hc

end K02
namespace K02
open PySem PySem.Spec PyProof.Rows L2 GS TL LamX
local macro_rules | `(tactic| walk_at "rd") => `(tactic| (repeat (first
  | with_reducible refine r_next ?_
  | with_reducible refine r_seq ?_
  | with_reducible refine r_ret ?_
  | with_reducible refine r_ifS ?_
  | with_reducible refine r_asg ?_
  | with_reducible refine r_drop ?_
  | with_reducible refine r_op ?_
  | with_reducible refine r_un ?_
  | with_reducible refine r_cbInt ?_
  | with_reducible refine r_cbAbs ?_
  | with_reducible refine r_cbLen ?_
  | with_reducible refine r_cbList ?_
  | with_reducible refine r_cbTup ?_
  | with_reducible refine r_iEnT ?_
  | with_reducible refine r_iEnL ?_
  | with_reducible refine r_zipA ?_
  | with_reducible refine r_zipX ?_
  | with_reducible refine r_augS ?_
  | with_reducible refine r_cb ?_
  | with_reducible refine r_call ?_
  | with_reducible refine r_make ?_
  | with_reducible refine r_callN0 ?_
  | with_reducible refine r_makeK0 ?_
  | with_reducible refine r_makeS ?_
  | with_reducible refine r_callS ?_
  | with_reducible refine r_cons ?_
  | with_reducible refine r_nil ?_
  | with_reducible refine r_test ?_
  | with_reducible refine r_B ?_
  | with_reducible refine r_and ?_
  | with_reducible refine r_or ?_
  | with_reducible refine r_not ?_
  | with_reducible refine r_andV ?_
  | with_reducible refine r_orV ?_
  | with_reducible refine r_notV ?_
  | with_reducible refine r_if ?_
  | with_reducible refine r_tup ?_
  | with_reducible refine r_lst ?_
  | with_reducible refine r_c ?_
  | with_reducible refine r_lc ?_
  | with_reducible refine r_chain ?_
  | with_reducible refine r_iT ?_
  | with_reducible refine r_iL ?_
  | with_reducible refine r_iR1 ?_
  | with_reducible refine r_iR2 ?_
  | with_reducible refine r_iR3 ?_
  | with_reducible refine r_asgG ?_
  | with_reducible refine r_gSub ?_
  | with_reducible refine r_for ?_
  | with_reducible refine r_smeth ?_
  | with_reducible refine r_par ?_
  | with_reducible refine r_parK ?_
  | with_reducible refine r_gCons ?_
  | with_reducible refine r_gNil ?_
  | with_reducible refine r_gName ?_
  | with_reducible refine r_intI ?_
  | with_reducible refine r_intB ?_
  | with_reducible refine r_absI ?_
  | with_reducible refine r_k ?_
  | with_reducible refine r_kV ?_
  | ((with_reducible show tVar _ _ _ _); refine r_var3 ?_ (by rfl))
  | with_reducible refine r_I0 ?_
  | with_reducible refine r_U ?_
  | with_reducible refine r_eqI ?_
  | with_reducible refine r_neI ?_
  | dsimp only)))
local macro_rules | `(tactic| walk_at "rx") => `(tactic| (repeat (first
  | with_reducible refine r_next ?_
  | with_reducible refine r_ret ?_
  | with_reducible refine r_ifS ?_
  | with_reducible refine r_asg ?_
  | with_reducible refine r_drop ?_
  | with_reducible refine r_op ?_
  | with_reducible refine r_un ?_
  | with_reducible refine r_cbInt ?_
  | with_reducible refine r_cbAbs ?_
  | with_reducible refine r_cbLen ?_
  | with_reducible refine r_cbList ?_
  | with_reducible refine r_cbTup ?_
  | with_reducible refine r_iEnT ?_
  | with_reducible refine r_iEnL ?_
  | with_reducible refine r_zipA ?_
  | with_reducible refine r_zipX ?_
  | with_reducible refine r_augS ?_
  | with_reducible refine r_cb ?_
  | with_reducible refine r_call ?_
  | with_reducible refine r_make ?_
  | with_reducible refine r_callN0 ?_
  | with_reducible refine r_makeK0 ?_
  | with_reducible refine r_makeS ?_
  | with_reducible refine r_callS ?_
  | with_reducible refine r_cons ?_
  | with_reducible refine r_nil ?_
  | with_reducible refine r_test ?_
  | with_reducible refine r_B ?_
  | with_reducible refine r_and ?_
  | with_reducible refine r_or ?_
  | with_reducible refine r_not ?_
  | with_reducible refine r_andV ?_
  | with_reducible refine r_orV ?_
  | with_reducible refine r_notV ?_
  | with_reducible refine r_if ?_
  | with_reducible refine r_tup ?_
  | with_reducible refine r_lst ?_
  | with_reducible refine r_c ?_
  | with_reducible refine r_lc ?_
  | with_reducible refine r_chain ?_
  | with_reducible refine r_iT ?_
  | with_reducible refine r_iL ?_
  | with_reducible refine r_iR1 ?_
  | with_reducible refine r_iR2 ?_
  | with_reducible refine r_iR3 ?_
  | with_reducible refine r_asgG ?_
  | with_reducible refine r_gSub ?_
  | with_reducible refine r_for ?_
  | with_reducible refine r_smeth ?_
  | with_reducible refine r_par ?_
  | with_reducible refine r_parK ?_
  | with_reducible refine r_gCons ?_
  | with_reducible refine r_gNil ?_
  | with_reducible refine r_gName ?_
  | with_reducible refine r_intI ?_
  | with_reducible refine r_intB ?_
  | with_reducible refine r_absI ?_
  | with_reducible refine r_k ?_
  | with_reducible refine r_kV ?_
  | ((with_reducible show tVar _ _ _ _); refine r_var3 ?_ (by rfl))
  | with_reducible refine r_I0 ?_
  | with_reducible refine r_U ?_
  | with_reducible refine r_eqI ?_
  | with_reducible refine r_neI ?_
  | dsimp only)))
theorem TP.nil {H : Hp} : TP H [] [] := ⟨rfl, fun j t p h => by simp at h⟩
theorem TP.app {H : Hp} {ts us : List Addr} {ps qs : List (Int × Int)} (a : TP H ts ps) (b : TP H us qs) : TP H (ts ++ us) (ps ++ qs) := by
  refine ⟨by rw [List.length_append, List.length_append, a.1, b.1], fun j t p h1 h2 => ?_⟩
  rcases Nat.lt_or_ge j ts.length with c | c
  · rw [List.getElem?_append_left c] at h1
    rw [List.getElem?_append_left (by rw [← a.1]; exact c)] at h2
    exact a.2 j t p h1 h2
  · rw [List.getElem?_append_right c] at h1
    rw [List.getElem?_append_right (by rw [← a.1]; exact c), ← a.1] at h2
    exact b.2 _ t p h1 h2
theorem TP.one {H : Hp} {t : Addr} {p : Int × Int} (h : H t = some (.tup [.int p.1, .int p.2])) : TP H [t] [p] := ⟨rfl, fun j u q h1 h2 => by
  cases j with
  | zero => cases h1; cases h2; exact h
  | succ j => simp at h1⟩
def w60 (ps : List (Int × Int)) : Prop := ∀ p ∈ ps, (0 ≤ p.1 ∧ p.1 ≤ 100) ∧ 0 ≤ p.2 ∧ p.2 ≤ 100
theorem ok__law_web {P : Program} {w : World} {K : PySem.W.Frag} {mg : Str → Option Value} {base : Heap} (T : Txt K mg) : ∃ fd, FnOk P w K mg base (L2.CX P w) 3 (He.ga K "_law_web") fd ["ark"] (spDrawn) ∧ Binds K fd ["ark"] [] := by
  obtain ⟨fd, F⟩ := T.d__law_web
  obtain ⟨fd__law_haul, F__law_haul, B__law_haul⟩ := ok__law_haul (P := P) (w := w) (base := base) T
  obtain ⟨fd__law_fish, F__law_fish, B__law_fish⟩ := ok__law_fish (P := P) (w := w) (base := base) T
  refine ⟨fd, F.ok sc__law_web sp1_len (fun cdv A outer s H vs Q E hr h => ?_), F.bindsN fun _ _ _ _ _ _ us hl => match us, hl with | [_], _ => rfl⟩
  have hr__law_haul : Room 1 _ := hr.mono (by decide)
  have hr__law_fish : Room 2 _ := hr.mono (by decide)
  obtain ⟨b0, rfl, p, n, rfl, hn, hb, k⟩ := sp1_is h
  refine ⟨_, (pss_cons (ps_par (i := 1) (j := 2) (by rfl) sc__law_web.nd rfl rfl (by decide) rfl rfl (pa_cons (pe_call F__law_fish hr__law_fish (by rfl) T.g__law_fish T.k__law_fish B__law_fish .nil passL (pa_cons (pv 0) (pa_cons (pe_lst (pa_cons pe_int (pa_cons pe_int (pa_cons pe_int (pa_cons pe_int (pa_cons pe_int (pa_cons pe_int (pa_cons pe_int pa_nil)))))))) pa_nil))) (pa_cons (pe_lst pa_nil) pa_nil)) (by rfl))
      (pss_cons (ps_for (passes_of rfl) rfl (pi_range1 (by rfl) T.b_range (pa_cons (pe_callB (call_min2 rfl) (by rfl) T.b_min (by decide +kernel) (pa_cons (pv 1) (pa_cons pe_int pa_nil))) pa_nil)) (pg_name (i := 3) sc__law_web.nd rfl (Or.inr rfl)) (pss_one (ps_set (i := 2) sc__law_web.nd rfl (Or.inl rfl) (pe_op op_cat (pv 2) (pe_lc (own := [("second", 4)]) (g := gName 4)  rfl sc__law_web.nd (pi_range2 (by rfl) T.b_range (pa_cons (pe_op op_add (pv 3) pe_int) (pa_cons (pe_callB (call_min2 rfl) (by rfl) T.b_min (by decide +kernel) (pa_cons (pv 1) (pa_cons pe_int pa_nil))) pa_nil))) (blkOk_by (own := [("second", 4)]) (N := ["ark", "places", "found", "first", "second", "items"]) (sc := defScope s__law_web) (by decide +kernel)) (fun _ _ _ _ _ => (pg_name (i := 4) sc__law_web.nd rfl (Or.inl rfl))) (fun _ _ _ _ _ => (pts_one (pt_cmpR op_eq (pe_call F__law_haul hr__law_haul (by rfl) T.g__law_haul T.k__law_haul B__law_haul .nil passL (pa_cons (pv 0) (pa_cons pe_int pa_nil))) pe_int (nomark _)))) (fun _ _ _ _ _ => (pe_tup (pa_cons (pv 3) (pa_cons (pv 4) pa_nil)))))))))
      (pss_cons (ps_set (i := 2) sc__law_web.nd rfl (Or.inl rfl) (pe_op op_cat (pv 2) (pe_ifExp (pt_cmpR op_gt (pv 1) pe_int (nomark _)) (pe_lst (pa_cons (pe_tup (pa_cons (pe_op op_sub (pv 1) pe_int) (pa_cons (pe_op op_sub (pv 1) pe_int) pa_nil))) pa_nil)) (pe_lst pa_nil))))
      (pss_cons (ps_set (i := 5) sc__law_web.nd rfl (Or.inl rfl) (pe_lst (pa_cons (pe_callTy call_str_int (by rfl) T.b_str (by decide +kernel) (pa_cons (pv 1) pa_nil)) (pa_cons pe_str pa_nil))))
      (pss_cons (ps_for (passes_of rfl) rfl (pi_list (pv 2)) (pg_tup rfl (pgs_cons (pg_name (i := 3) sc__law_web.nd rfl (Or.inr rfl)) (pgs_cons (pg_name (i := 4) sc__law_web.nd rfl (Or.inl rfl)) pgs_nil))) (pss_one (ps_set (i := 5) sc__law_web.nd rfl (Or.inl rfl) (pe_op op_cat (pv 5) (pe_lst (pa_cons (pe_callTy call_str_int (by rfl) T.b_str (by decide +kernel) (pa_cons (pv 3) pa_nil)) (pa_cons (pe_callTy call_str_int (by rfl) T.b_str (by decide +kernel) (pa_cons (pv 4) pa_nil)) pa_nil)))))))
      (pss_one (ps_ret (pv 5)))))))), ?_⟩
  walk_at "rx"
  refine r_seqJ (fun σ' H' => ∃ (d : Nat) (F : Addr), 1 ≤ d ∧ d ≤ 60 ∧ σ' = [some (.ref p), some (.int d), some (.ref F), none, none, none] ∧ H' F = some (.lst []) ∧ Bg p H H' ∧ Bag H' p (n + 1)) (fun N hN => ?_) ?_
  · walk_at "rd"
    refine r_newL (sz_le (by simp)) fun t0 H1 _ e1 h1 => ?_
    walk_at "rd"
    refine r_One (H0 := H1) (hb.ex e1) h1 (fun _ _ _ z => by cases z) (by simp) (by simp) (by omega) fun v H2 hv g2 b2 => ?_
    obtain ⟨m, rfl, m1, hm⟩ : ∃ m : Nat, v = .int m ∧ 1 ≤ m ∧ m ≤ 60 := by
      simp only [List.mem_cons, List.mem_nil_iff, or_false] at hv
      rcases hv with rfl | rfl | rfl | rfl | rfl | rfl | rfl
      · exact ⟨1, rfl, by decide, by decide⟩
      · exact ⟨2, rfl, by decide, by decide⟩
      · exact ⟨3, rfl, by decide, by decide⟩
      · exact ⟨4, rfl, by decide, by decide⟩
      · exact ⟨5, rfl, by decide, by decide⟩
      · exact ⟨6, rfl, by decide, by decide⟩
      · exact ⟨60, rfl, by decide, by decide⟩
    walk_at "rd"
    refine r_newL (Nat.zero_le _) fun F H3 hF e3 h3 => ?_
    walk_at "rd"
    exact hN _ _ ⟨m, F, m1, hm, rfl, h3, ((Bg.of (p := p) e1).trans g2).trans (Bg.of e3), (b2.ex e3).le (by omega)⟩
  rintro σ' H1 ⟨d, F, d1, d60, rfl, hF, g1, b1⟩
  refine r_seqJ (fun σ' H' => ∃ (F : Addr) (ts : List Addr) (ps : List (Int × Int)) (s3 s4 : Option V), σ' = [some (.ref p), some (.int d), some (.ref F), s3, s4, none] ∧ H' F = some (.lst (ts.map V.ref)) ∧ TP H' ts ps ∧ w60 ps ∧ ps.length ≤ 49 ∧ Bg p H H' ∧ Bag H' p (n + 60)) (fun N hN => ?_) ?_
  · walk_at "rd"
    refine ⟨_, _, rfl, ?_⟩
    have em : (if (7 : Int) < (d : Int) then (7 : Int) else (d : Int)) = ((min 7 d : Nat) : Int) := by split <;> omega
    rw [em]
    walk_at "rd"
    refine ⟨_, rfl, by omega, by omega, ?_⟩
    rw [Int.toNat_natCast]
    refine for_of (walk_range (lo := 0)) (fun i σ H' => ∃ (F : Addr) (ts : List Addr) (ps : List (Int × Int)) (s3 s4 : Option V), σ = [some (.ref p), some (.int d), some (.ref F), s3, s4, none] ∧ H' F = some (.lst (ts.map V.ref)) ∧ TP H' ts ps ∧ w60 ps ∧ ps.length ≤ 7 * i ∧ Bg p H H' ∧ Bag H' p (n + 1 + 7 * (i : Nat)))
      ⟨F, [], [], none, none, rfl, hF, TP.nil, (fun _ h => nomatch h), Nat.zero_le _, g1, b1.le (by omega)⟩ (fun _ _ _ _ _ => trivial) ?_ ?_
    · rintro i x σ H3 H3' hi ⟨F, ts, ps, s3, s4, rfl, hF, tp, hw, hl, g3, b3⟩ ⟨rfl, rfl⟩
      refine r_gName ?_
      walk_at "rd"
      refine ⟨_, _, rfl, ?_⟩
      have em2 : (if (7 : Int) < (d : Int) then (7 : Int) else (d : Int)) = ((min 7 d : Nat) : Int) := by split <;> omega
      rw [em2]
      refine ⟨_, _, rfl, ⟨by omega, by omega, by omega, by omega⟩, ?_⟩
      have hFp : F ≠ p := b3.ne hF refs_ne
      refine r_lcGT walk_range (fun D j ys H' => ∃ us qs, ys = us.map V.ref ∧ D ∉ us ∧ TP H' us qs ∧ w60 qs ∧ Bg p H3' H' ∧ Bag H' p (n + 1 + 7 * (i : Nat) + (j : Nat))) (by omega) (fun _ _ _ _ _ => trivial) (fun D hD => ⟨[], [], rfl, by simp, TP.nil, (fun _ z => nomatch z), (Bg.refl p H3').updD b3 hD, (b3.le (by omega)).updD b3 (Bg.refl p H3') hD⟩) ?_ ?_ ?_
      · rintro D j ys H' o hD ⟨us, qs, e, hn', tq, hw', g, hb'⟩
        exact ⟨us, qs, e, hn', ⟨tq.1, fun j t q h1 h2 => by rw [upd_ne (fun z => hn' (by rw [← z]; exact List.mem_of_getElem? h1))]; exact tq.2 j t q h1 h2⟩, hw', g.updD b3 hD, hb'.updD b3 g hD⟩
      · rintro D j x ys H8 H' hj hD hl' li ⟨us, qs, rfl, hn', tq, hw', g, hb'⟩ ⟨rfl, rfl⟩ N M hN hM
        refine r_gName ⟨rfl, ?_⟩
        walk_at "rd"
        have nD : D ≠ p := by rintro rfl; have := b3.is; obtain ⟨L, xs, a, l, h1, _⟩ := this; rw [hD] at h1; cases h1
        refine r_DrawG hb' (by omega) (by decide) (zsm (by decide)) fun r H9 r0 r1 g9 b9 => ?_
        walk_at "rd"
        have tq9 := tq.bg hb' g9
        have hD9 := g9.at_ nD hl'
        refine ite_b (fun _ => ?_) fun _ => ?_
        · walk_at "rd"
          refine r_newT (sz_le (by simp)) fun t Ha ht ea ha => ?_
          have hDa := ea _ _ hD9
          refine hN _ Ha hDa ⟨us ++ [t], qs ++ [((0 : Int) + (i : Nat), (0 : Int) + (i : Nat) + 1 + (j : Nat))], by simp, fun z => ?_, (tq9.ex ea).app (TP.one ha), fun q hq => ?_, (g.trans g9).trans (Bg.of ea), (b9.ex ea).le (by push_cast; omega)⟩
          · rcases List.mem_append.mp z with z | z
            · exact hn' z
            · rw [List.mem_singleton.mp z, ha] at hDa; cases hDa
          · rcases List.mem_append.mp hq with z | z
            · exact hw' q z
            · rw [List.mem_singleton.mp z]
              simp only
              omega
        · exact hM H9 hD9 ⟨us, qs, rfl, hn', tq9, hw', g.trans g9, b9.le (by push_cast; omega)⟩
      · rintro D ys H8 hD hl' li ⟨us, qs, rfl, hn', tq, hw', g8, b8⟩
        rw [List.length_map] at li
        have lts := tp.1
        have lqs := tq.1
        have tp8 := tp.bg b3 g8
        refine r_cat (g8.at_ hFp hF) hl' (by simp; omega) fun q9 H9 hq9 e9 h9 => ?_
        refine ⟨q9, ts ++ us, ps ++ qs, _, _, rfl, by rw [h9, List.map_append], (tp8.app tq).ex e9, fun q hq => ?_, by rw [List.length_append]; omega, (g3.trans g8).trans (Bg.of e9), (b8.ex e9).le (by push_cast; omega)⟩
        rcases List.mem_append.mp hq with z | z
        · exact hw q z
        · exact hw' q z
    · rintro σ H3 ⟨F, ts, ps, s3, s4, rfl, hF, tp, hw, hl, g3, b3⟩
      exact hN _ _ ⟨F, ts, ps, s3, s4, rfl, hF, tp, hw, by omega, g3, b3.le (by omega)⟩
  clear hF b1 g1
  rintro σ' H2 ⟨F, ts, ps, s3, s4, rfl, hF, tp, hw, hl, g2, b2⟩
  refine r_seqJ (fun σ' H' => ∃ (F : Addr) (ts : List Addr) (ps : List (Int × Int)) (s3 s4 : Option V), σ' = [some (.ref p), some (.int d), some (.ref F), s3, s4, none] ∧ H' F = some (.lst (ts.map V.ref)) ∧ TP H' ts ps ∧ w60 ps ∧ ps.length ≤ 50 ∧ Bg p H H' ∧ Bag H' p (n + 60)) (fun N hN => ?_) ?_
  · walk_at "rd"
    have lts := tp.1
    refine ite_b (fun c => ?_) fun c => ?_
    · have c' : (7 : Int) < d := of_decide_eq_true c
      walk_at "rd"
      refine r_newT (sz_le (by simp)) fun t H3 _ e3 h3 => ?_
      walk_at "rd"
      refine r_newL (sz_le (by simp)) fun l H4 _ e4 h4 => ?_
      refine r_cat (e4 _ _ (e3 _ _ hF)) h4 (by simp; omega) fun q9 H9 hq9 e9 h9 => ?_
      refine hN _ _ ⟨q9, ts ++ [t], ps ++ [((d : Int) - 2, (d : Int) - 1)], _, _, rfl, by rw [h9, List.map_append]; rfl, (((tp.ex e3).app (TP.one h3)).ex e4).ex e9, fun q hq => ?_, by rw [List.length_append]; simp; omega, ((g2.trans (Bg.of e3)).trans (Bg.of e4)).trans (Bg.of e9), ((b2.ex e3).ex e4).ex e9⟩
      rcases List.mem_append.mp hq with z | z
      · exact hw q z
      · rw [List.mem_singleton.mp z]
        simp only
        omega
    · walk_at "rd"
      refine r_newL (Nat.zero_le _) fun l H4 _ e4 h4 => ?_
      refine r_cat (e4 _ _ hF) h4 (by simp; omega) fun q9 H9 hq9 e9 h9 => ?_
      exact hN _ _ ⟨q9, ts, ps, _, _, rfl, by rw [h9, List.append_nil], (tp.ex e4).ex e9, hw, by omega, (g2.trans (Bg.of e4)).trans (Bg.of e9), (b2.ex e4).ex e9⟩
  clear hF tp hw hl g2 b2
  rintro σ' H2 ⟨F, ts, ps, s3, s4, rfl, hF, tp, hw, hl, g2, b2⟩
  have z60 : (10 : Nat) ^ 60 = 1000000000000000000000000000000000000000000000000000000000000 := rfl
  walk_at "rd"
  refine ⟨_, rfl, nS_log (by rw [z60]; omega), ?_⟩
  walk_at "rd"
  refine r_newL (sz_le (by simp)) fun I0 H3 hI0 e3 h3 => ?_
  walk_at "rd"
  refine ⟨F, rfl, ⟨_, SqL.of (e3 _ _ hF)⟩, ?_⟩
  have lts := tp.1
  refine for_of (walk_list (xs := ts.map V.ref)) (fun i σ H' => ∃ (I : Addr) (s3 s4 : Option V), σ = [some (.ref p), some (.int d), some (.ref F), s3, s4, some (.ref I)] ∧ Ex H2 H' ∧ H2 I = none ∧ H' I = some (.lst ((wI d (ps.take i)).map V.str)))
    ⟨I0, _, _, rfl, e3, hI0, h3⟩ (fun i σ H' _ hh => by
      obtain ⟨I, s3, s4, _, e, _⟩ := hh
      exact SqL.of (e _ _ hF)) ?_ ?_
  · rintro i x σ H4 H4' hi ⟨I, s3, s4, rfl, e4, hI, h4⟩ ⟨rfl, hx⟩
    obtain ⟨t, ht, rfl⟩ := ref_at hx
    obtain ⟨q, hq, hrow⟩ := (tp.ex e4).at ht
    obtain ⟨w1, w2⟩ := hw q (List.mem_of_getElem? hq)
    refine r_gTup hrow rfl (r_gCons (r_gName (r_gCons (r_gName (r_gNil ?_)))))
    walk_at "rd"
    refine ⟨_, rfl, nS_log (by rw [z60]; omega), ?_⟩
    walk_at "rd"
    refine ⟨_, rfl, nS_log (by rw [z60]; omega), ?_⟩
    walk_at "rd"
    refine r_newL (sz_le (by simp)) fun l H5 _ e5 h5 => ?_
    have lw := wI_len d (ps.take i)
    rw [List.length_take] at lw
    refine r_cat (e5 _ _ h4) h5 (by simp; omega) fun I' H6 hI' e6 h6 => ?_
    refine ⟨I', _, _, rfl, e4.trans (e5.trans e6), (e4.trans e5).free hI', ?_⟩
    rw [h6]
    have : wI d (ps.take (i + 1)) = wI d (ps.take i) ++ [nS q.1, nS q.2] := by
      rw [List.take_add_one, hq]
      simp [wI]
    rw [this, List.map_append]
    rfl
  · rintro σ H4 ⟨I, s3, s4, rfl, e4, hI, h4⟩
    rw [List.length_map, lts, List.take_length] at h4
    walk_at "rd"
    have zd : (d : Int).natAbs < 10 ^ 60 := by rw [z60]; omega
    have hz : wz ps := fun q hq => by
      obtain ⟨w1, w2⟩ := hw q hq
      rw [z60]
      omega
    refine k I (wI d ps) H4 (g2.trans (Bg.of e4)) ((b2.ex e4).le (by omega)) (Bg.free g2 hb hI) h4 ⟨by simp [wI], fun y hy => ?_, ?_, wI_each zd hz⟩
    · simp only [wI, List.mem_cons] at hy
      rcases hy with rfl | rfl | hy
      · exact ⟨_, okI_nS zd⟩
      · exact ⟨none, okI_no (by decide +kernel)⟩
      · obtain ⟨r, hr, hy⟩ := List.mem_flatten.mp hy
        obtain ⟨q, hq, rfl⟩ := List.mem_map.mp hr
        obtain ⟨h1, h2⟩ := hz q hq
        simp only [List.mem_cons, List.mem_nil_iff, or_false] at hy
        rcases hy with rfl | rfl
        · exact ⟨_, okI_nS h1⟩
        · exact ⟨_, okI_nS h2⟩
    · rw [wI_len]
      omega

end K02
namespace K02
open PySem PySem.Spec PyProof.Rows L2 GS TL LamX
local macro_rules | `(tactic| walk_at "rd") => `(tactic| (repeat (first
  | with_reducible refine r_next ?_
  | with_reducible refine r_seq ?_
  | with_reducible refine r_ret ?_
  | with_reducible refine r_ifS ?_
  | with_reducible refine r_asg ?_
  | with_reducible refine r_drop ?_
  | with_reducible refine r_op ?_
  | with_reducible refine r_un ?_
  | with_reducible refine r_cbInt ?_
  | with_reducible refine r_cbAbs ?_
  | with_reducible refine r_cbLen ?_
  | with_reducible refine r_cbList ?_
  | with_reducible refine r_cbTup ?_
  | with_reducible refine r_iEnT ?_
  | with_reducible refine r_iEnL ?_
  | with_reducible refine r_zipA ?_
  | with_reducible refine r_zipX ?_
  | with_reducible refine r_augS ?_
  | with_reducible refine r_cb ?_
  | with_reducible refine r_call ?_
  | with_reducible refine r_make ?_
  | with_reducible refine r_callN0 ?_
  | with_reducible refine r_makeK0 ?_
  | with_reducible refine r_makeS ?_
  | with_reducible refine r_callS ?_
  | with_reducible refine r_cons ?_
  | with_reducible refine r_nil ?_
  | with_reducible refine r_test ?_
  | with_reducible refine r_B ?_
  | with_reducible refine r_and ?_
  | with_reducible refine r_or ?_
  | with_reducible refine r_not ?_
  | with_reducible refine r_andV ?_
  | with_reducible refine r_orV ?_
  | with_reducible refine r_notV ?_
  | with_reducible refine r_if ?_
  | with_reducible refine r_tup ?_
  | with_reducible refine r_lst ?_
  | with_reducible refine r_c ?_
  | with_reducible refine r_lc ?_
  | with_reducible refine r_chain ?_
  | with_reducible refine r_iT ?_
  | with_reducible refine r_iL ?_
  | with_reducible refine r_iR1 ?_
  | with_reducible refine r_iR2 ?_
  | with_reducible refine r_iR3 ?_
  | with_reducible refine r_asgG ?_
  | with_reducible refine r_gSub ?_
  | with_reducible refine r_for ?_
  | with_reducible refine r_smeth ?_
  | with_reducible refine r_par ?_
  | with_reducible refine r_parK ?_
  | with_reducible refine r_gCons ?_
  | with_reducible refine r_gNil ?_
  | with_reducible refine r_gName ?_
  | with_reducible refine r_intI ?_
  | with_reducible refine r_intB ?_
  | with_reducible refine r_absI ?_
  | with_reducible refine r_k ?_
  | with_reducible refine r_kV ?_
  | ((with_reducible show tVar _ _ _ _); refine r_var3 ?_ (by rfl))
  | with_reducible refine r_I0 ?_
  | with_reducible refine r_U ?_
  | with_reducible refine r_eqI ?_
  | with_reducible refine r_neI ?_
  | dsimp only)))
local macro_rules | `(tactic| walk_at "rx") => `(tactic| (repeat (first
  | with_reducible refine r_next ?_
  | with_reducible refine r_ret ?_
  | with_reducible refine r_ifS ?_
  | with_reducible refine r_asg ?_
  | with_reducible refine r_drop ?_
  | with_reducible refine r_op ?_
  | with_reducible refine r_un ?_
  | with_reducible refine r_cbInt ?_
  | with_reducible refine r_cbAbs ?_
  | with_reducible refine r_cbLen ?_
  | with_reducible refine r_cbList ?_
  | with_reducible refine r_cbTup ?_
  | with_reducible refine r_iEnT ?_
  | with_reducible refine r_iEnL ?_
  | with_reducible refine r_zipA ?_
  | with_reducible refine r_zipX ?_
  | with_reducible refine r_augS ?_
  | with_reducible refine r_cb ?_
  | with_reducible refine r_call ?_
  | with_reducible refine r_make ?_
  | with_reducible refine r_callN0 ?_
  | with_reducible refine r_makeK0 ?_
  | with_reducible refine r_makeS ?_
  | with_reducible refine r_callS ?_
  | with_reducible refine r_cons ?_
  | with_reducible refine r_nil ?_
  | with_reducible refine r_test ?_
  | with_reducible refine r_B ?_
  | with_reducible refine r_and ?_
  | with_reducible refine r_or ?_
  | with_reducible refine r_not ?_
  | with_reducible refine r_andV ?_
  | with_reducible refine r_orV ?_
  | with_reducible refine r_notV ?_
  | with_reducible refine r_if ?_
  | with_reducible refine r_tup ?_
  | with_reducible refine r_lst ?_
  | with_reducible refine r_c ?_
  | with_reducible refine r_lc ?_
  | with_reducible refine r_chain ?_
  | with_reducible refine r_iT ?_
  | with_reducible refine r_iL ?_
  | with_reducible refine r_iR1 ?_
  | with_reducible refine r_iR2 ?_
  | with_reducible refine r_iR3 ?_
  | with_reducible refine r_asgG ?_
  | with_reducible refine r_gSub ?_
  | with_reducible refine r_for ?_
  | with_reducible refine r_smeth ?_
  | with_reducible refine r_par ?_
  | with_reducible refine r_parK ?_
  | with_reducible refine r_gCons ?_
  | with_reducible refine r_gNil ?_
  | with_reducible refine r_gName ?_
  | with_reducible refine r_intI ?_
  | with_reducible refine r_intB ?_
  | with_reducible refine r_absI ?_
  | with_reducible refine r_k ?_
  | with_reducible refine r_kV ?_
  | ((with_reducible show tVar _ _ _ _); refine r_var3 ?_ (by rfl))
  | with_reducible refine r_I0 ?_
  | with_reducible refine r_U ?_
  | with_reducible refine r_eqI ?_
  | with_reducible refine r_neI ?_
  | dsimp only)))
/-! ### items as the law reads them -/
theorem rp_tl (z : Str) : tl (Txt.removeprefix z (Str.ofString "-")) = if (tl z).take 1 = [45] then (tl z).drop 1 else tl z := by
  unfold Txt.removeprefix
  by_cases c : (tl z).take 1 = [45]
  · have h1 : Builtin.Str.subAt z (Str.ofString "-") 0 = true := by
      rw [StrLaws.subAt_eq]
      show ((tl z).drop 0).take 1 == [45]
      rw [List.drop_zero, c]
      rfl
    have hl : 0 < z.length := by
      rw [len_tl]
      cases q : tl z with
      | nil => rw [q] at c; cases c
      | cons a r => simp
    rw [if_pos h1, if_pos c]
    show tl (if (z.length - 1 == z.length) = true then z else Builtin.Str.strSub z 1 z.length) = _
    rw [if_neg (by simp; omega), tl_strSub_end]
  · have h1 : Builtin.Str.subAt z (Str.ofString "-") 0 = false := by
      rw [StrLaws.subAt_eq]
      show (((tl z).drop 0).take 1 == [45]) = false
      rw [List.drop_zero]
      simpa using c
    rw [h1, if_neg c]
    rfl
theorem tl_cut (z : Str) (k : Nat) (h : k ≤ 1) : tl (cutS z none (some (k : Int))) = (tl z).take k := by
  unfold cutS
  rw [HT.sIx_none, HT.sIx_nat, List.drop_zero, Nat.sub_zero]
  show ((tl z).take (min k z.length)).toArray.toList = _
  rw [len_tl]
  simp
theorem tl_cut1 (z : Str) : tl (cutS z (some 1) none) = (tl z).drop 1 := by
  unfold cutS
  rw [HT.sIx_none, show (1 : Int) = ((1 : Nat) : Int) from rfl, HT.sIx_nat]
  show (((tl z).drop (min 1 z.length)).take (z.length - min 1 z.length)).toArray.toList = _
  rw [len_tl]
  cases tl z with
  | nil => rfl
  | cons a r => simp
theorem dp_strs {K : PySem.W.Frag} {H : Hp} : ∀ xs : List Str, DpAll K H (xs.map V.str) (xs.map PyData.str)
  | [] => .nil
  | x :: xs => .cons (.str x) (dp_strs xs)
theorem strOk_of {x : Str} (h : ∀ c ∈ tl x, c < 1114112) : PyData.strOk x = true := by
  have : PyData.strOk x = x.cps.toList.all (fun c => decide (c < 1114112)) := by simp [PyData.strOk]
  rw [this]
  exact List.all_eq_true.mpr fun c hc => decide_eq_true (h c hc)
theorem can_strs : ∀ xs : List Str, (∀ x ∈ xs, ∀ c ∈ tl x, c < 1114112) → PyData.canLayAll0 (xs.map PyData.str) = true
  | [], _ => rfl
  | x :: xs, h => by
    have e : PyData.canLay0 (.str x) = true := by simp only [PyData.canLay0]; exact strOk_of (h x List.mem_cons_self)
    show (PyData.canLay0 (.str x) && PyData.canLayAll0 (xs.map PyData.str)) = true
    rw [can_strs xs fun y m => h y (List.mem_cons_of_mem _ m), e]
    rfl
theorem depth_strs : ∀ xs : List Str, PyData.depthAll (xs.map PyData.str) = 0
  | [] => rfl
  | x :: xs => by
    show max _ (PyData.depthAll (xs.map PyData.str)) = 0
    rw [depth_strs xs]
    rfl
theorem shaped_strs (xs : List Str) (h : ∀ x ∈ xs, ∀ c ∈ tl x, c < 1114112) : SeqAt.shaped (.list (xs.map PyData.str)) = true := by
  show (PyData.canLayAll0 (xs.map PyData.str) && decide (PyData.depthAll (xs.map PyData.str) + 1 ≤ 64)) = true
  rw [can_strs xs h, depth_strs]
  rfl
/-- xs != [], texts -/
theorem r_neStrs {K : PySem.W.Frag} {H : Hp} {Q : VK} {p q : Addr} {xs : List Str} (h1 : H p = some (.lst (xs.map V.str))) (h2 : H q = some (.lst [])) (h : ∀ x ∈ xs, ∀ c ∈ tl x, c < 1114112) (k : Q (.bl (!decide (xs = []))) H) : rNeD K (.ref p) (.ref q) H Q := by
  refine ⟨_, _, .lst (SqL.of h1) (dp_strs xs), .lst (SqL.of h2) .nil, shaped_strs xs h, shaped_strs [] (fun _ m => nomatch m), ?_⟩
  show Q (.bl (!PyData.eqvAll (xs.map PyData.str) [])) H
  have e : PyData.eqvAll (xs.map PyData.str) [] = decide (xs = []) := by cases xs <;> rfl
  rw [e]
  exact k
/-- what the law makes of an item -/
def okO (o : Option Int) (l m : Option Int) : Bool := match o with
  | none => false
  | some i => GX.ib i l m
def spLawIs (K : PySem.W.Frag) : Sp := sp3 fun v l m H Q _ => ∃ (z : Str) (o l' m' : Option Int), v = .str z ∧ OkI z o ∧ bnd l = some l' ∧ bnd m = some m' ∧ ∀ H', Ex H H' → Q (.bl (okO o l' m')) H'
theorem ok__law_is {P : Program} {w : World} {K : PySem.W.Frag} {mg : Str → Option Value} {base : Heap} (T : Txt K mg) : ∃ fd, FnOk P w K mg base (L2.CX P w) 1 (He.ga K "_law_is") fd ["item", "least", "most"] (spLawIs K) ∧ Binds K fd ["item", "least", "most"] [] := by
  obtain ⟨fd, F⟩ := T.d__law_is
  refine ⟨fd, F.ok sc__law_is sp3_len (fun cdv A outer s H vs Q E hr h => ?_), F.bindsN fun _ _ _ _ _ _ us hl => match us, hl with | [_, _, _], _ => rfl⟩
  obtain ⟨v, l, m, rfl, z, o, l', m', rfl, ok, hl, hm, k0⟩ := sp3_is h
  refine ⟨_, (pss_cons (ps_set (i := 3) sc__law_is.nd rfl (Or.inl rfl) (pe_ifExp (pt_cmpR op_eq (pe_slice sl_str (pv 0) po_none (po_some pe_int)) pe_str (nomark _)) (pe_slice sl_str (pv 0) (po_some pe_int) po_none) (pv 0)))
      (pss_cons (ps_if (PW.pt (pw_or (pt_cmpR op_eq (pv 3) pe_str (nomark _)) (pw_or (pt_cmpR op_gt (pe_callB call_len_str (by rfl) T.b_len PySem.boot_len (pa_cons (pv 3) pa_nil)) pe_int (nomark _)) (pw_or1 (pt_cmpR (op_neD hr.units) (pe_lc (own := [("sign", 4)]) (g := gName 4)  rfl sc__law_is.nd (pi_str (pv 3)) (blkOk_by (own := [("sign", 4)]) (N := ["item", "least", "most", "figures", "sign"]) (sc := defScope s__law_is) (by decide +kernel)) (fun _ _ _ _ _ => (pg_name (i := 4) sc__law_is.nd rfl (Or.inl rfl))) (fun _ _ _ _ _ => (pts_one (pt_cmpR op_notIn_sign (pv 4) pe_str rfl))) (fun _ _ _ _ _ => (pv 4))) (pe_lst pa_nil) (nomark _)))))) (pss_one (ps_ret pe_bl)) pss_nil)
      (pss_cons (ps_if (PW.pt (pw_and (pt_cmpR op_eq (pe_ix ix_str (pv 3) pe_int (fun _ _ => rfl)) pe_str (nomark _)) (pw_and1 (pt_cmpR op_ne (pv 0) pe_str (nomark _))))) (pss_one (ps_ret pe_bl)) pss_nil)
      (pss_one (ps_ret (pe_and (pe_or (pe_cmpR op_isN (pv 1) pe_non (nomark _)) (pe_one (pe_cmpR op_ge (pe_callTy call_int_str (by rfl) T.b_int (by decide +kernel) (pa_cons (pv 0) pa_nil)) (pv 1) (nomark _)))) (pe_one (pe_or (pe_cmpR op_isN (pv 2) pe_non (nomark _)) (pe_one (pe_cmpR op_le (pe_callTy call_int_str (by rfl) T.b_int (by decide +kernel) (pa_cons (pv 0) pa_nil)) (pv 2) (nomark _))))))))))), ?_⟩
  obtain ⟨⟨hz, hcp0⟩, _, hns, hval⟩ := ok
  have k : ∀ H', Ex H H' → ntB z = false → Q (.bl false) H' := fun H' e hb => by
    have := k0 H' e
    rw [hns] at hb
    cases o with
    | some i => cases hb
    | none => exact this
  walk_at "rx"
  refine r_seqJ (fun σ' H' => H' = H ∧ ∃ x : Str, σ' = [some (.str z), some l, some m, some (.str x), none] ∧ tl x = dgt z) (fun N hN => ?_) ?_
  · walk_at "rd"
    refine ⟨V.str z, rfl, 1, rfl, z, rfl, sz_le (by omega), ?_⟩
    walk_at "rd"
    refine r_eq rfl ?_
    walk_at "rd"
    have ed : dgt z = if (tl z).take 1 = [45] then (tl z).drop 1 else tl z := rp_tl z
    have e1 := tl_cut z 1 (Nat.le_refl _)
    by_cases c : (tl z).take 1 = [45]
    · refine ite_t (decide_eq_true (congrArg V.str (str_ext (by rw [show (1 : Int) = ((1 : Nat) : Int) from rfl, e1, c]; rfl)))) ?_
      walk_at "rd"
      refine ⟨V.str z, rfl, 1, rfl, z, rfl, sz_le (by omega), ?_⟩
      walk_at "rd"
      exact hN _ _ ⟨rfl, _, rfl, by rw [tl_cut1, ed, if_pos c]⟩
    · refine ite_f (decide_eq_false fun e => c ?_) ?_
      · injection e with e
        rw [← e1, show ((1 : Nat) : Int) = 1 from rfl, e]
        rfl
      · walk_at "rd"
        exact hN _ _ ⟨rfl, _, rfl, by rw [ed, if_neg c]⟩
  · rintro σ' H' ⟨rfl, x, rfl, hx⟩
    have lx : x.length ≤ z.length := by
      have := rp_le z
      rw [len_tl, hx]
      show (tl _).length ≤ _
      rw [← len_tl]
      exact this
    have hcp : ∀ c ∈ dgt z, c < 1114112 := fun c hc => hcp0 c (by
      have e : dgt z = _ := rp_tl z
      rw [e] at hc
      split at hc
      · exact List.mem_of_mem_drop hc
      · exact hc)
    have lxd : x.length = (dgt z).length := by rw [len_tl, hx]
    have no : ∀ {H2 : Hp}, Ex H' H2 → ntB z = false → Q (.bl false) H2 := fun e z' => k _ e z'
    walk_at "rd"
    refine r_eq rfl ?_
    walk_at "rd"
    by_cases c0 : x = Str.ofString ""
    · refine ite_t (decide_eq_true (by rw [c0])) ?_
      refine ite_t rfl ?_
      walk_at "rd"
      refine no (Ex.refl _) ?_
      have : dgt z = [] := by rw [← hx, c0]; rfl
      unfold ntB
      rw [this]
      rfl
    · refine ite_f (decide_eq_false fun e => c0 (by injection e)) ?_
      have l1 : 1 ≤ (dgt z).length := by
        rw [← hx]
        cases q : tl x with
        | nil => exact absurd (str_ext (by rw [q]; rfl)) c0
        | cons a r => simp
      walk_at "rd"
      refine ⟨x, rfl, sz_le (by omega), ?_⟩
      walk_at "rd"
      by_cases c60 : x.length ≤ 60
      · refine ite_f (decide_eq_false (by omega)) ?_
        walk_at "rd"
        refine ⟨V.str x, rfl, x, rfl, ?_⟩
        have hsz : x.cps.size = (tl x).length := by show _ = x.cps.toList.length; simp
        refine r_lcF (n := x.cps.size) (k := 4) (walk_str (z := x)) (fun j => !isD ((tl x).getD j 0)) (fun j => .str ⟨#[(tl x).getD j 0]⟩) (by have : x.cps.size = x.length := rfl; omega) (fun _ _ => trivial) (fun _ => rfl) ?_ ?_ ?_
        · rintro j y H0 H2 hj e0 ⟨rfl, c, hc, rfl⟩
          refine ⟨Ex.refl _, fun R r => ?_⟩
          have e : (tl x).getD j 0 = c := by
            rw [List.getD_eq_getElem?_getD]
            show (x.cps.toList[j]?).getD 0 = c
            rw [Array.getElem?_toList, hc]
            rfl
          walk_at "rd"
          refine ⟨c, _, rfl, rfl, ?_⟩
          rw [e] at r
          exact ⟨_, rfl, r H2 (Ex.refl _)⟩
        · rintro j y H0 hj ht e0 ⟨H2, H3, ⟨rfl, c, hc, rfl⟩, e2, e3, e4⟩ R r
          have e : (tl x).getD j 0 = c := by
            rw [List.getD_eq_getElem?_getD]
            show (x.cps.toList[j]?).getD 0 = c
            rw [Array.getElem?_toList, hc]
            rfl
          rw [e] at r
          walk_at "rd"
          exact r H0 (Ex.refl _)
        · intro p H2 hp e2 h2
          walk_at "rd"
          refine r_newL (Nat.zero_le _) fun q H3 hq e3 h3 => ?_
          have eg : given x.cps.size (fun j => !isD ((tl x).getD j 0)) (fun j => .str ⟨#[(tl x).getD j 0]⟩) = (((List.range x.cps.size).filter fun j => !isD ((tl x).getD j 0)).map fun j => (⟨#[(tl x).getD j 0]⟩ : Str)).map V.str := by
            unfold given
            rw [List.map_map]
            rfl
          rw [eg] at h2
          refine r_neStrs (e3 _ _ h2) h3 (fun y hy c hc => ?_) ?_
          · obtain ⟨j, hj, rfl⟩ := List.mem_map.mp hy
            obtain rfl : c = (tl x).getD j 0 := by simpa [tl] using hc
            rw [List.getD_eq_getElem?_getD]
            cases q : (tl x)[j]? with
            | none => decide
            | some c => exact hcp c (hx ▸ List.mem_of_getElem? q)
          have e23 := e2.trans e3
          have ha : ((dgt z).all isD = true) ↔ (((List.range x.cps.size).filter fun j => !isD ((tl x).getD j 0)).map fun j => (⟨#[(tl x).getD j 0]⟩ : Str)) = [] := by
            rw [← hx, ← all_rangeN (tl x) 0 isD, hsz, List.map_eq_nil_iff, List.filter_eq_nil_iff, List.all_eq_true]
            simp
          cases hall : (dgt z).all isD with
          | false =>
            refine ⟨_, rfl, ite_t (by rw [decide_eq_false fun e => by rw [ha.mpr e] at hall; cases hall]; rfl) ?_⟩
            walk_at "rd"
            exact no e23 (by unfold ntB; rw [hall]; simp)
          | true =>
            refine ⟨_, rfl, ite_f (by rw [decide_eq_true (ha.mp hall)]; rfl) ?_⟩
            walk_at "rd"
            cases q : dgt z with
            | nil => rw [q] at l1; simp at l1
            | cons c r =>
              have nt : ntB z = (!decide (c = 48) || decide (z = Str.ofString "0")) := by
                unfold ntB
                rw [hall, ← lxd, decide_eq_true (show 1 ≤ x.length by omega), decide_eq_true c60, q]
                rfl
              refine ⟨x, 0, c, rfl, rfl, sz_le (by omega), ?_, ?_⟩
              · show atI (tl x) ((0 : Nat) : Int) = some c
                exact atI_nat (by rw [hx, q]; rfl)
              have e0 : decide (V.str (⟨#[c]⟩ : Str) = V.str (Str.ofString "0")) = decide (c = 48) := decide_eq_decide.mpr ⟨fun z => by
                have z1 : (⟨#[c]⟩ : Str) = Str.ofString "0" := by injection z
                have z2 : ([c] : List Nat) = [48] := congrArg tl z1
                exact (List.cons.inj z2).1, fun z => by subst z; decide +kernel⟩
              have last : ntB z = true → ∀ {H4 : Hp}, Ex H' H4 → (tAndV (tOrV (tOp (fun x y H Q => y = .non ∧ Q (.bl (decide (x = .non))) H) (tVar 1) (tC .non)) (tOp (rI0 fun i j => .bl (decide (j ≤ i))) (tCB (fun xs H Q => ∃ a n, xs = [V.str a] ∧ intText? a = some n ∧ a.length ≤ 640 ∧ Q (V.int n) H) (tCons (tVar 0) tNil)) (tVar 1))) (tOrV (tOp (fun x y H Q => y = .non ∧ Q (.bl (decide (x = .non))) H) (tVar 2) (tC .non)) (tOp (rI0 fun i j => .bl (decide (i ≤ j))) (tCB (fun xs H Q => ∃ a n, xs = [V.str a] ∧ intText? a = some n ∧ a.length ≤ 640 ∧ Q (V.int n) H) (tCons (tVar 0) tNil)) (tVar 2)))) [some (.str z), some l, some m, some (.str x), none] H4 Q := by
                intro hb H4 e4
                have kq := k0 H4 e4
                rw [hns] at hb
                cases o with
                | none => cases hb
                | some i =>
                  obtain ⟨rfl, hi⟩ := hval i rfl
                  have kq : Q (.bl (loB i l' && upB i m')) H4 := by
                    have e : GX.ib i l' m' = (loB i l' && upB i m') := by cases l' <;> cases m' <;> rfl
                    rw [← e]
                    exact kq
                  have hz61 := nS_len (k := 60) (by decide) hi
                  have it := nS_int (Nat.lt_of_lt_of_le hi (Nat.pow_le_pow_right (by decide) (by decide)) : i.natAbs < 10 ^ 600)
                  have right : Q (.bl (upB i m')) H4 → (tOrV (tOp (fun x y H Q => y = .non ∧ Q (.bl (decide (x = .non))) H) (tVar 2) (tC .non)) (tOp (rI0 fun i j => .bl (decide (i ≤ j))) (tCB (fun xs H Q => ∃ a n, xs = [V.str a] ∧ intText? a = some n ∧ a.length ≤ 640 ∧ Q (V.int n) H) (tCons (tVar 0) tNil)) (tVar 2))) [some (.str (nS i)), some l, some m, some (.str x), none] H4 Q := fun q => by
                    refine ⟨_, rfl, rfl, _, rfl, ?_⟩
                    rcases bnd_is hm with ⟨rfl, rfl⟩ | ⟨b, rfl, rfl⟩
                    · exact ite_t (by simp) q
                    · refine ite_f (by simp) ?_
                      exact ⟨_, rfl, nS i, i, rfl, it, by omega, _, rfl, i, b, rfl, rfl, q⟩
                  rcases bnd_is hl with ⟨rfl, rfl⟩ | ⟨a, rfl, rfl⟩
                  · refine ⟨_, rfl, rfl, _, rfl, ite_t (by simp) ⟨_, rfl, ite_t rfl (right ?_)⟩⟩
                    simpa [loB] using kq
                  · refine ⟨_, rfl, rfl, _, rfl, ite_f (by simp) ⟨_, rfl, nS i, i, rfl, it, by omega, _, rfl, i, a, rfl, rfl, ?_⟩⟩
                    refine ⟨_, rfl, ?_⟩
                    by_cases ca : a ≤ i
                    · refine ite_t (decide_eq_true ca) (right ?_)
                      have e : (loB i (some a) && upB i m') = upB i m' := by simp [loB, ca]
                      rw [e] at kq
                      exact kq
                    · refine ite_f (decide_eq_false ca) ?_
                      have e : (loB i (some a) && upB i m') = false := by simp [loB, ca]
                      rw [e] at kq
                      exact kq
              walk_at "rd"
              refine r_eq rfl ?_
              rw [e0]
              walk_at "rd"
              by_cases c48 : c = 48
              · refine ite_t (decide_eq_true c48) ?_
                walk_at "rd"
                refine r_ne rfl ?_
                walk_at "rd"
                by_cases cz : z = Str.ofString "0"
                · refine ite_f (by rw [decide_eq_true (by rw [cz])]; rfl) ?_
                  exact last (by rw [nt, decide_eq_true cz, Bool.or_true]) e23
                · refine ite_t (by rw [decide_eq_false fun e => cz (by injection e)]; rfl) ?_
                  walk_at "rd"
                  exact no e23 (by rw [nt, decide_eq_true c48, decide_eq_false cz]; rfl)
              · refine ite_f (decide_eq_false c48) ?_
                refine ite_f rfl ?_
                exact last (by rw [nt, decide_eq_false c48]; rfl) e23
      · refine ite_t (decide_eq_true (by omega)) ?_
        refine ite_t rfl ?_
        walk_at "rd"
        exact no (Ex.refl _) (by unfold ntB; rw [← lxd, decide_eq_false c60]; simp)

end K02
namespace K02
open PySem PySem.Spec PyProof.Rows L2 GS TL LamX
local macro_rules | `(tactic| walk_at "rd") => `(tactic| (repeat (first
  | with_reducible refine r_next ?_
  | with_reducible refine r_seq ?_
  | with_reducible refine r_ret ?_
  | with_reducible refine r_ifS ?_
  | with_reducible refine r_asg ?_
  | with_reducible refine r_drop ?_
  | with_reducible refine r_op ?_
  | with_reducible refine r_un ?_
  | with_reducible refine r_cbInt ?_
  | with_reducible refine r_cbAbs ?_
  | with_reducible refine r_cbLen ?_
  | with_reducible refine r_cbList ?_
  | with_reducible refine r_cbTup ?_
  | with_reducible refine r_iEnT ?_
  | with_reducible refine r_iEnL ?_
  | with_reducible refine r_zipA ?_
  | with_reducible refine r_zipX ?_
  | with_reducible refine r_augS ?_
  | with_reducible refine r_cb ?_
  | with_reducible refine r_call ?_
  | with_reducible refine r_make ?_
  | with_reducible refine r_callN0 ?_
  | with_reducible refine r_makeK0 ?_
  | with_reducible refine r_makeS ?_
  | with_reducible refine r_callS ?_
  | with_reducible refine r_cons ?_
  | with_reducible refine r_nil ?_
  | with_reducible refine r_test ?_
  | with_reducible refine r_B ?_
  | with_reducible refine r_and ?_
  | with_reducible refine r_or ?_
  | with_reducible refine r_not ?_
  | with_reducible refine r_andV ?_
  | with_reducible refine r_orV ?_
  | with_reducible refine r_notV ?_
  | with_reducible refine r_if ?_
  | with_reducible refine r_tup ?_
  | with_reducible refine r_lst ?_
  | with_reducible refine r_c ?_
  | with_reducible refine r_lc ?_
  | with_reducible refine r_chain ?_
  | with_reducible refine r_iT ?_
  | with_reducible refine r_iL ?_
  | with_reducible refine r_iR1 ?_
  | with_reducible refine r_iR2 ?_
  | with_reducible refine r_iR3 ?_
  | with_reducible refine r_asgG ?_
  | with_reducible refine r_gSub ?_
  | with_reducible refine r_for ?_
  | with_reducible refine r_smeth ?_
  | with_reducible refine r_par ?_
  | with_reducible refine r_parK ?_
  | with_reducible refine r_gCons ?_
  | with_reducible refine r_gNil ?_
  | with_reducible refine r_gName ?_
  | with_reducible refine r_intI ?_
  | with_reducible refine r_intB ?_
  | with_reducible refine r_absI ?_
  | with_reducible refine r_k ?_
  | with_reducible refine r_kV ?_
  | ((with_reducible show tVar _ _ _ _); refine r_var3 ?_ (by rfl))
  | with_reducible refine r_I0 ?_
  | with_reducible refine r_U ?_
  | with_reducible refine r_eqI ?_
  | with_reducible refine r_neI ?_
  | dsimp only)))
local macro_rules | `(tactic| walk_at "rx") => `(tactic| (repeat (first
  | with_reducible refine r_next ?_
  | with_reducible refine r_ret ?_
  | with_reducible refine r_ifS ?_
  | with_reducible refine r_asg ?_
  | with_reducible refine r_drop ?_
  | with_reducible refine r_op ?_
  | with_reducible refine r_un ?_
  | with_reducible refine r_cbInt ?_
  | with_reducible refine r_cbAbs ?_
  | with_reducible refine r_cbLen ?_
  | with_reducible refine r_cbList ?_
  | with_reducible refine r_cbTup ?_
  | with_reducible refine r_iEnT ?_
  | with_reducible refine r_iEnL ?_
  | with_reducible refine r_zipA ?_
  | with_reducible refine r_zipX ?_
  | with_reducible refine r_augS ?_
  | with_reducible refine r_cb ?_
  | with_reducible refine r_call ?_
  | with_reducible refine r_make ?_
  | with_reducible refine r_callN0 ?_
  | with_reducible refine r_makeK0 ?_
  | with_reducible refine r_makeS ?_
  | with_reducible refine r_callS ?_
  | with_reducible refine r_cons ?_
  | with_reducible refine r_nil ?_
  | with_reducible refine r_test ?_
  | with_reducible refine r_B ?_
  | with_reducible refine r_and ?_
  | with_reducible refine r_or ?_
  | with_reducible refine r_not ?_
  | with_reducible refine r_andV ?_
  | with_reducible refine r_orV ?_
  | with_reducible refine r_notV ?_
  | with_reducible refine r_if ?_
  | with_reducible refine r_tup ?_
  | with_reducible refine r_lst ?_
  | with_reducible refine r_c ?_
  | with_reducible refine r_lc ?_
  | with_reducible refine r_chain ?_
  | with_reducible refine r_iT ?_
  | with_reducible refine r_iL ?_
  | with_reducible refine r_iR1 ?_
  | with_reducible refine r_iR2 ?_
  | with_reducible refine r_iR3 ?_
  | with_reducible refine r_asgG ?_
  | with_reducible refine r_gSub ?_
  | with_reducible refine r_for ?_
  | with_reducible refine r_smeth ?_
  | with_reducible refine r_par ?_
  | with_reducible refine r_parK ?_
  | with_reducible refine r_gCons ?_
  | with_reducible refine r_gNil ?_
  | with_reducible refine r_gName ?_
  | with_reducible refine r_intI ?_
  | with_reducible refine r_intB ?_
  | with_reducible refine r_absI ?_
  | with_reducible refine r_k ?_
  | with_reducible refine r_kV ?_
  | ((with_reducible show tVar _ _ _ _); refine r_var3 ?_ (by rfl))
  | with_reducible refine r_I0 ?_
  | with_reducible refine r_U ?_
  | with_reducible refine r_eqI ?_
  | with_reducible refine r_neI ?_
  | dsimp only)))
/-! ### where a text stops, as the law reads it -/
def oV : Option Nat → V
  | none => .non
  | some j => .int j
theorem its_okI : ∀ {ys : List Str} {vs : List (Option Int)}, Its ys vs → ∀ {j : Nat} {z : Str}, ys[j]? = some z → ∃ o, vs[j]? = some o ∧ OkI z o
  | _, _, .nil, j, z, h => by simp at h
  | _, _, .cons h t, j, z, hz => by
    cases j with
    | zero => cases hz; exact ⟨_, rfl, h⟩
    | succ j => exact its_okI t (j := j) (by simpa using hz)
theorem okJ_o {vs : List (Option Int)} {j : Nat} {o : Option Int} (h : vs[j]? = some o) (l m : Option Int) : GX.okJ vs j l m = okO o l m := by
  unfold GX.okJ
  rw [List.getD_eq_getElem?_getD, h]
  cases o <;> rfl
theorem okJ_ge {vs : List (Option Int)} {j : Nat} (h : vs.length ≤ j) (l m : Option Int) : GX.okJ vs j l m = false := by
  cases q : GX.okJ vs j l m with
  | false => rfl
  | true => exact absurd (GX.okJ_lt q) (by omega)
def blB (k : Nat) : Option Int := if k = 2 then some 0 else none
theorem bStop_bad {vs : List (Option Int)} {i : Nat} (h : i < 3) (a : ∀ k, k < i → GX.okJ vs k (blB k) none = true) (b : GX.okJ vs i (blB i) none = false) : GX.bStop vs = some i := by
  unfold GX.bStop
  match i, h with
  | 0, _ => rw [show GX.okJ vs 0 none none = false from b, if_pos rfl]
  | 1, _ => rw [show GX.okJ vs 0 none none = true from a 0 (by omega), if_neg (by decide), show GX.okJ vs 1 none none = false from b, if_pos rfl]
  | 2, _ => rw [show GX.okJ vs 0 none none = true from a 0 (by omega), if_neg (by decide), show GX.okJ vs 1 none none = true from a 1 (by omega), if_neg (by decide), show GX.okJ vs 2 (some 0) none = false from b, if_pos rfl]
theorem bStop_all {vs : List (Option Int)} (a : ∀ k, k < 3 → GX.okJ vs k (blB k) none = true) : GX.bStop vs = if vs.length = 3 then none else some 3 := by
  unfold GX.bStop
  rw [show GX.okJ vs 0 none none = true from a 0 (by omega), if_neg (by decide), show GX.okJ vs 1 none none = true from a 1 (by omega), if_neg (by decide), show GX.okJ vs 2 (some 0) none = true from a 2 (by omega), if_neg (by decide)]
theorem r_is {K : PySem.W.Frag} {H : Hp} {Q : VK} {E : XK} {z : Str} {o l' m' : Option Int} {l m : V} (ok : OkI z o) (hl : bnd l = some l') (hm : bnd m = some m') (k : ∀ H', Ex H H' → Q (.bl (okO o l' m')) H') : spLawIs K ([.str z, l, m] ++ []) H Q E := ⟨z, o, l', m', rfl, ok, hl, hm, k⟩
theorem Tx.at {ys : List Str} {vs : List (Option Int)} (t : Tx ys vs) {j : Nat} (h : j < vs.length) : ∃ z o, atI (ys.map V.str) (j : Int) = some (.str z) ∧ ys[j]? = some z ∧ vs[j]? = some o ∧ OkI z o := by
  have hz : ys[j]? = some (ys[j]'(by rw [t.vlen]; exact h)) := by simp
  obtain ⟨o, h1, h2⟩ := its_okI t.its hz
  exact ⟨_, o, atI_nat (by rw [List.getElem?_map, hz]; rfl), hz, h1, h2⟩
def spBStop (K : PySem.W.Frag) : Sp := sp1 fun v H Q _ => ∃ (q : Addr) (ys : List Str) (vs : List (Option Int)), v = .ref q ∧ H q = some (.lst (ys.map V.str)) ∧ Tx ys vs ∧ ∀ H', Ex H H' → Q (oV (GX.bStop vs)) H'
theorem ok__law_bound_stop {P : Program} {w : World} {K : PySem.W.Frag} {mg : Str → Option Value} {base : Heap} (T : Txt K mg) : ∃ fd, FnOk P w K mg base (L2.CX P w) 2 (He.ga K "_law_bound_stop") fd ["items"] (spBStop K) ∧ Binds K fd ["items"] [] := by
  obtain ⟨fd, F⟩ := T.d__law_bound_stop
  obtain ⟨fd__law_is, F__law_is, B__law_is⟩ := ok__law_is (P := P) (w := w) (base := base) T
  refine ⟨fd, F.ok sc__law_bound_stop sp1_len (fun cdv A outer s H vs Q E hr h => ?_), F.bindsN fun _ _ _ _ _ _ us hl => match us, hl with | [_], _ => rfl⟩
  have hr__law_is : Room 1 _ := hr.mono (by decide)
  obtain ⟨v, rfl, q, ys, vs, rfl, hq, tx, k⟩ := sp1_is h
  refine ⟨_, (pss_cons (ps_for (passes_of rfl) rfl (pi_range1 (by rfl) T.b_range (pa_cons pe_int pa_nil)) (pg_name (i := 1) sc__law_bound_stop.nd rfl (Or.inl rfl)) (pss_one (ps_if (PW.pt (pw_or (pt_cmpR op_eq (pv 1) (pe_callB (kx_lens rfl) (by rfl) T.b_len PySem.boot_len (pa_cons (pv 0) pa_nil)) (nomark _)) (pw_or1 (pt_not (pt_val (pe_call F__law_is hr__law_is (by rfl) T.g__law_is T.k__law_is B__law_is .nil passL (pa_cons (pe_ix (kx_ixl rfl) (pv 0) (pv 1) (fun _ _ => rfl)) (pa_cons (pe_ifExp (pt_cmpR op_eq (pv 1) pe_int (nomark _)) pe_int pe_non) (pa_cons pe_non pa_nil))))))))) (pss_one (ps_ret (pv 1))) pss_nil)))
      (pss_one (ps_ret (pe_ifExp (pt_cmpR op_eq (pe_callB (kx_lens rfl) (by rfl) T.b_len PySem.boot_len (pa_cons (pv 0) pa_nil)) pe_int (nomark _)) pe_non pe_int)))), ?_⟩
  have lq : ((ys.map V.str).length : Int) = vs.length := by rw [List.length_map, tx.vlen]
  walk_at "rd"
  refine ⟨_, rfl, by decide, by decide, ?_⟩
  refine for_of (walk_range (lo := 0) (n := 3)) (fun i σ H' => Ex H H' ∧ (∀ k, k < i → GX.okJ vs k (blB k) none = true) ∧ ∃ s1, σ = [some (.ref q), s1]) ⟨Ex.refl _, fun k hk => by omega, none, rfl⟩ (fun _ _ _ _ _ => trivial) ?_ ?_
  · rintro i x σ H1 H1' hi ⟨e1, all, s1, rfl⟩ ⟨rfl, rfl⟩
    refine r_gName ?_
    simp only [show (0 : Int) + ((i : Nat) : Int) = ((i : Nat) : Int) from by omega]
    walk_at "rd"
    refine ⟨q, _, rfl, .inl (SqL.of (e1 _ _ hq)), ?_⟩
    rw [lq]
    walk_at "rd"
    have stop : GX.okJ vs i (blB i) none = false → Q (.int (i : Int)) H1' := fun b => by
      have := k _ e1
      rw [bStop_bad hi all b] at this
      exact this
    by_cases c : i = vs.length
    · refine ite_t (decide_eq_true (by omega)) (ite_t rfl ?_)
      walk_at "rd"
      exact stop (okJ_ge (by omega) _ _)
    · refine ite_f (decide_eq_false (by omega)) ?_
      walk_at "rd"
      have cl : i < vs.length := by
        rcases Nat.eq_zero_or_pos i with z | z
        · have := List.length_pos_iff.mpr tx.ne
          rw [tx.vlen] at this
          omega
        · have := GX.okJ_lt (all (i - 1) (by omega))
          omega
      obtain ⟨z, o, ha, hz, ho, ok⟩ := tx.at cl
      refine r_ixL (e1 _ _ hq) ha ?_
      have fin : ∀ (l : V), bnd l = some (blB i) → ∀ {R : Bool → Hp → Prop}, (∀ H2, Ex H1' H2 → (GX.okJ vs i (blB i) none = false → R false H2) ∧ (GX.okJ vs i (blB i) none = true → R true H2)) → spLawIs K ([.str z, l, .non] ++ []) H1' (fun x H' => ∃ k, x = V.bl k ∧ R k H') E0 := fun l hl {R} hR => r_is ok hl rfl fun H2 e2 => by
        have ep : okO o (blB i) none = GX.okJ vs i (blB i) none := (okJ_o ho _ _).symm
        rw [ep]
        obtain ⟨h1, h2⟩ := hR H2 e2
        cases hb : GX.okJ vs i (blB i) none with
        | false => exact ⟨_, rfl, h1 hb⟩
        | true => exact ⟨_, rfl, h2 hb⟩
      have good : GX.okJ vs i (blB i) none = true → ∀ k, k < i + 1 → GX.okJ vs k (blB k) none = true := fun hb k hk => by
        rcases Nat.lt_or_ge k i with c | c
        · exact all k c
        · rw [show k = i by omega]; exact hb
      have bad : GX.okJ vs i (blB i) none = false → ∀ H2, Ex H1' H2 → Q (.int (i : Int)) H2 := fun hb H2 e2 => by
        have := k _ (e1.trans e2)
        rw [bStop_bad hi all hb] at this
        exact this
      walk_at "rd"
      refine ite_b (fun c2 => ?_) fun c2 => ?_
      · have i2 : i = 2 := by have := of_decide_eq_true c2; omega
        walk_at "rd"
        refine fin (.int 0) (by unfold blB; rw [if_pos i2]; rfl) fun H2 e2 => ⟨fun hb => ite_t rfl ?_, fun hb => ite_f rfl ?_⟩
        · walk_at "rd"
          exact bad hb H2 e2
        · exact ⟨e1.trans e2, good hb, _, rfl⟩
      · have i2 : i ≠ 2 := by rintro rfl; simp at c2
        walk_at "rd"
        refine fin .non (by unfold blB; rw [if_neg i2]; rfl) fun H2 e2 => ⟨fun hb => ite_t rfl ?_, fun hb => ite_f rfl ?_⟩
        · walk_at "rd"
          exact bad hb H2 e2
        · exact ⟨e1.trans e2, good hb, _, rfl⟩
  · rintro σ H1 ⟨e1, all, s1, rfl⟩
    walk_at "rd"
    refine ⟨q, _, rfl, .inl (SqL.of (e1 _ _ hq)), ?_⟩
    rw [lq]
    walk_at "rd"
    have ke := k _ e1
    rw [bStop_all all] at ke
    refine ite_b (fun c => ?_) fun c => ?_
    · rw [if_pos (by have := of_decide_eq_true c; omega)] at ke
      walk_at "rd"
      exact ke
    · rw [if_neg (by rintro z; rw [z] at c; simp at c)] at ke
      walk_at "rd"
      exact ke
theorem its_le {vs : List (Option Int)} {i : Nat} (h : GX.pOk vs i = true) : i < vs.length := GX.okJ_lt h
def spPStop (K : PySem.W.Frag) : Sp := sp1 fun v H Q _ => ∃ (q : Addr) (ys : List Str) (vs : List (Option Int)), v = .ref q ∧ H q = some (.lst (ys.map V.str)) ∧ Tx ys vs ∧ ∀ H', Ex H H' → Q (oV (GX.pStop vs)) H'
theorem ok__law_poly_stop {P : Program} {w : World} {K : PySem.W.Frag} {mg : Str → Option Value} {base : Heap} (T : Txt K mg) : ∃ fd, FnOk P w K mg base (L2.CX P w) 2 (He.ga K "_law_poly_stop") fd ["items"] (spPStop K) ∧ Binds K fd ["items"] [] := by
  obtain ⟨fd, F⟩ := T.d__law_poly_stop
  obtain ⟨fd__law_is, F__law_is, B__law_is⟩ := ok__law_is (P := P) (w := w) (base := base) T
  refine ⟨fd, F.ok sc__law_poly_stop sp1_len (fun cdv A outer s H vs Q E hr h => ?_), F.bindsN fun _ _ _ _ _ _ us hl => match us, hl with | [_], _ => rfl⟩
  have hr__law_is : Room 1 _ := hr.mono (by decide)
  obtain ⟨v, rfl, q, ys, vs, rfl, hq, tx, k⟩ := sp1_is h
  refine ⟨_, (pss_cons (ps_for (passes_of rfl) rfl (pi_range1 (by rfl) T.b_range (pa_cons (pe_callB (call_min2 rfl) (by rfl) T.b_min (by decide +kernel) (pa_cons pe_int (pa_cons (pe_callB (kx_lens rfl) (by rfl) T.b_len PySem.boot_len (pa_cons (pv 0) pa_nil)) pa_nil))) pa_nil)) (pg_name (i := 1) sc__law_poly_stop.nd rfl (Or.inl rfl)) (pss_one (ps_if (pt_not (pt_val (pe_call F__law_is hr__law_is (by rfl) T.g__law_is T.k__law_is B__law_is .nil passL (pa_cons (pe_ix (kx_ixl rfl) (pv 0) (pv 1) (fun _ _ => rfl)) (pa_cons (pe_ifExp (pt_cmpR op_eq (pv 1) pe_int (nomark _)) pe_int pe_non) (pa_cons pe_non pa_nil)))))) (pss_one (ps_ret (pv 1))) pss_nil)))
      (pss_one (ps_ret (pe_ifExp (pt_cmpR op_lt (pe_callB (kx_lens rfl) (by rfl) T.b_len PySem.boot_len (pa_cons (pv 0) pa_nil)) pe_int (nomark _)) pe_non pe_int)))), ?_⟩
  have lq : ((ys.map V.str).length : Int) = vs.length := by rw [List.length_map, tx.vlen]
  walk_at "rd"
  refine ⟨q, _, rfl, .inl (SqL.of hq), ?_⟩
  rw [lq]
  walk_at "rd"
  refine ⟨_, _, rfl, ?_⟩
  have em : (if (vs.length : Int) < (64 : Int) then (vs.length : Int) else (64 : Int)) = ((min 64 vs.length : Nat) : Int) := by split <;> omega
  rw [em]
  refine ⟨_, rfl, by omega, by omega, ?_⟩
  rw [Int.toNat_natCast]
  refine for_of (walk_range (lo := 0)) (fun i σ H' => Ex H H' ∧ (∀ k, k < i → GX.pOk vs k = true) ∧ ∃ s1, σ = [some (.ref q), s1]) ⟨Ex.refl _, fun k hk => by omega, none, rfl⟩ (fun _ _ _ _ _ => trivial) ?_ ?_
  · rintro i x σ H1 H1' hi ⟨e1, all, s1, rfl⟩ ⟨rfl, rfl⟩
    refine r_gName ?_
    simp only [show (0 : Int) + ((i : Nat) : Int) = ((i : Nat) : Int) from by omega]
    walk_at "rd"
    obtain ⟨z, o, ha, hz, ho, ok⟩ := tx.at (j := i) (by omega)
    refine r_ixL (e1 _ _ hq) ha ?_
    have fin : ∀ (l : V), bnd l = some (if i = 0 then some 1 else none) → ∀ {R : Bool → Hp → Prop}, (∀ H2, Ex H1' H2 → (GX.pOk vs i = false → R false H2) ∧ (GX.pOk vs i = true → R true H2)) → spLawIs K ([.str z, l, .non] ++ []) H1' (fun x H' => ∃ k, x = V.bl k ∧ R k H') E0 := fun l hl {R} hR => r_is ok hl rfl fun H2 e2 => by
      have ep : okO o (if i = 0 then some 1 else none) none = GX.pOk vs i := (okJ_o ho _ _).symm
      rw [ep]
      obtain ⟨h1, h2⟩ := hR H2 e2
      cases hb : GX.pOk vs i with
      | false => exact ⟨_, rfl, h1 hb⟩
      | true => exact ⟨_, rfl, h2 hb⟩
    have good : GX.pOk vs i = true → ∀ k, k < i + 1 → GX.pOk vs k = true := fun hb k hk => by
      rcases Nat.lt_or_ge k i with c | c
      · exact all k c
      · rw [show k = i by omega]; exact hb
    have bad : GX.pOk vs i = false → ∀ H2, Ex H1' H2 → Q (.int (i : Int)) H2 := fun hb H2 e2 => by
      have := k _ (e1.trans e2)
      rw [GX.pStop_bad (by omega) (by omega) all hb] at this
      exact this
    walk_at "rd"
    refine ite_b (fun c2 => ?_) fun c2 => ?_
    · have i2 : i = 0 := by have := of_decide_eq_true c2; omega
      walk_at "rd"
      refine fin (.int 1) (by rw [if_pos i2]; rfl) fun H2 e2 => ⟨fun hb => ite_t rfl ?_, fun hb => ite_f rfl ?_⟩
      · walk_at "rd"
        exact bad hb H2 e2
      · exact ⟨e1.trans e2, good hb, _, rfl⟩
    · have i2 : i ≠ 0 := by rintro rfl; simp at c2
      walk_at "rd"
      refine fin .non (by rw [if_neg i2]; rfl) fun H2 e2 => ⟨fun hb => ite_t rfl ?_, fun hb => ite_f rfl ?_⟩
      · walk_at "rd"
        exact bad hb H2 e2
      · exact ⟨e1.trans e2, good hb, _, rfl⟩
  · rintro σ H1 ⟨e1, all, s1, rfl⟩
    walk_at "rd"
    refine ⟨q, _, rfl, .inl (SqL.of (e1 _ _ hq)), ?_⟩
    rw [lq]
    walk_at "rd"
    have ke := k _ e1
    rw [GX.pStop_all all] at ke
    refine ite_b (fun c => ?_) fun c => ?_
    · rw [if_pos (by have := of_decide_eq_true c; omega)] at ke
      walk_at "rd"
      exact ke
    · rw [if_neg (by rintro z; rw [decide_eq_true (by omega)] at c; simp at c)] at ke
      walk_at "rd"
      exact ke

end K02
namespace K02
open PySem PySem.Spec PyProof.Rows L2 GS TL LamX
local macro_rules | `(tactic| walk_at "rd") => `(tactic| (repeat (first
  | with_reducible refine r_next ?_
  | with_reducible refine r_seq ?_
  | with_reducible refine r_ret ?_
  | with_reducible refine r_ifS ?_
  | with_reducible refine r_asg ?_
  | with_reducible refine r_drop ?_
  | with_reducible refine r_op ?_
  | with_reducible refine r_un ?_
  | with_reducible refine r_cbInt ?_
  | with_reducible refine r_cbAbs ?_
  | with_reducible refine r_cbLen ?_
  | with_reducible refine r_cbList ?_
  | with_reducible refine r_cbTup ?_
  | with_reducible refine r_iEnT ?_
  | with_reducible refine r_iEnL ?_
  | with_reducible refine r_zipA ?_
  | with_reducible refine r_zipX ?_
  | with_reducible refine r_augS ?_
  | with_reducible refine r_cb ?_
  | with_reducible refine r_call ?_
  | with_reducible refine r_make ?_
  | with_reducible refine r_callN0 ?_
  | with_reducible refine r_makeK0 ?_
  | with_reducible refine r_makeS ?_
  | with_reducible refine r_callS ?_
  | with_reducible refine r_cons ?_
  | with_reducible refine r_nil ?_
  | with_reducible refine r_test ?_
  | with_reducible refine r_B ?_
  | with_reducible refine r_and ?_
  | with_reducible refine r_or ?_
  | with_reducible refine r_not ?_
  | with_reducible refine r_andV ?_
  | with_reducible refine r_orV ?_
  | with_reducible refine r_notV ?_
  | with_reducible refine r_if ?_
  | with_reducible refine r_tup ?_
  | with_reducible refine r_lst ?_
  | with_reducible refine r_c ?_
  | with_reducible refine r_lc ?_
  | with_reducible refine r_chain ?_
  | with_reducible refine r_iT ?_
  | with_reducible refine r_iL ?_
  | with_reducible refine r_iR1 ?_
  | with_reducible refine r_iR2 ?_
  | with_reducible refine r_iR3 ?_
  | with_reducible refine r_asgG ?_
  | with_reducible refine r_gSub ?_
  | with_reducible refine r_for ?_
  | with_reducible refine r_smeth ?_
  | with_reducible refine r_par ?_
  | with_reducible refine r_parK ?_
  | with_reducible refine r_gCons ?_
  | with_reducible refine r_gNil ?_
  | with_reducible refine r_gName ?_
  | with_reducible refine r_intI ?_
  | with_reducible refine r_intB ?_
  | with_reducible refine r_absI ?_
  | with_reducible refine r_k ?_
  | with_reducible refine r_kV ?_
  | ((with_reducible show tVar _ _ _ _); refine r_var3 ?_ (by rfl))
  | with_reducible refine r_I0 ?_
  | with_reducible refine r_U ?_
  | with_reducible refine r_eqI ?_
  | with_reducible refine r_neI ?_
  | dsimp only)))
local macro_rules | `(tactic| walk_at "rx") => `(tactic| (repeat (first
  | with_reducible refine r_next ?_
  | with_reducible refine r_ret ?_
  | with_reducible refine r_ifS ?_
  | with_reducible refine r_asg ?_
  | with_reducible refine r_drop ?_
  | with_reducible refine r_op ?_
  | with_reducible refine r_un ?_
  | with_reducible refine r_cbInt ?_
  | with_reducible refine r_cbAbs ?_
  | with_reducible refine r_cbLen ?_
  | with_reducible refine r_cbList ?_
  | with_reducible refine r_cbTup ?_
  | with_reducible refine r_iEnT ?_
  | with_reducible refine r_iEnL ?_
  | with_reducible refine r_zipA ?_
  | with_reducible refine r_zipX ?_
  | with_reducible refine r_augS ?_
  | with_reducible refine r_cb ?_
  | with_reducible refine r_call ?_
  | with_reducible refine r_make ?_
  | with_reducible refine r_callN0 ?_
  | with_reducible refine r_makeK0 ?_
  | with_reducible refine r_makeS ?_
  | with_reducible refine r_callS ?_
  | with_reducible refine r_cons ?_
  | with_reducible refine r_nil ?_
  | with_reducible refine r_test ?_
  | with_reducible refine r_B ?_
  | with_reducible refine r_and ?_
  | with_reducible refine r_or ?_
  | with_reducible refine r_not ?_
  | with_reducible refine r_andV ?_
  | with_reducible refine r_orV ?_
  | with_reducible refine r_notV ?_
  | with_reducible refine r_if ?_
  | with_reducible refine r_tup ?_
  | with_reducible refine r_lst ?_
  | with_reducible refine r_c ?_
  | with_reducible refine r_lc ?_
  | with_reducible refine r_chain ?_
  | with_reducible refine r_iT ?_
  | with_reducible refine r_iL ?_
  | with_reducible refine r_iR1 ?_
  | with_reducible refine r_iR2 ?_
  | with_reducible refine r_iR3 ?_
  | with_reducible refine r_asgG ?_
  | with_reducible refine r_gSub ?_
  | with_reducible refine r_for ?_
  | with_reducible refine r_smeth ?_
  | with_reducible refine r_par ?_
  | with_reducible refine r_parK ?_
  | with_reducible refine r_gCons ?_
  | with_reducible refine r_gNil ?_
  | with_reducible refine r_gName ?_
  | with_reducible refine r_intI ?_
  | with_reducible refine r_intB ?_
  | with_reducible refine r_absI ?_
  | with_reducible refine r_k ?_
  | with_reducible refine r_kV ?_
  | ((with_reducible show tVar _ _ _ _); refine r_var3 ?_ (by rfl))
  | with_reducible refine r_I0 ?_
  | with_reducible refine r_U ?_
  | with_reducible refine r_eqI ?_
  | with_reducible refine r_neI ?_
  | dsimp only)))
theorem nS_I {c : Int} (h : c.natAbs < 10 ^ 60) : intText? (nS c) = some c ∧ (nS c).length ≤ 640 := ⟨nS_int (Nat.lt_of_lt_of_le h (Nat.pow_le_pow_right (by decide) (by decide))), by have := nS_len (k := 60) (by decide) h; omega⟩
theorem r_ixN {K : PySem.W.Frag} {H : Hp} {Q : VK} {q : Addr} {ys : List Str} {vs : List (Option Int)} {j : Nat} {i : Int} {l m : Option Int} (hq : H q = some (.lst (ys.map V.str))) (t : Tx ys vs) (h : GX.okJ vs j l m = true) (hj : i = (j : Int)) (k : Q (.str (nS (GX.vl vs j))) H) : rIxL K (.ref q) (.int i) H Q := by
  subst hj
  exact r_ixL hq (atI_nat (by rw [List.getElem?_map, (its_at t.S h).1]; rfl)) k
/-- an item read as an integer -/
theorem r_int {H : Hp} {Q : VK} {c : Int} (h : c.natAbs < 10 ^ 60) (k : Q (.int c) H) : ∃ a n, [V.str (nS c)] = [V.str a] ∧ intText? a = some n ∧ a.length ≤ 640 ∧ Q (V.int n) H := ⟨_, c, rfl, (nS_I h).1, (nS_I h).2, k⟩
/-- an item held by the law -/
theorem r_isJ {K : PySem.W.Frag} {H : Hp} {R : Bool → Hp → Prop} {ys : List Str} {vs : List (Option Int)} {j : Nat} {z : Str} {l m : V} {l' m' : Option Int} (t : Tx ys vs) (hz : ys[j]? = some z) (hl : bnd l = some l') (hm : bnd m = some m')
    (k : ∀ H2, Ex H H2 → (GX.okJ vs j l' m' = false → R false H2) ∧ (GX.okJ vs j l' m' = true → R true H2)) : spLawIs K ([.str z, l, m] ++ []) H (fun x H' => ∃ k, x = V.bl k ∧ R k H') E0 := by
  obtain ⟨o, ho, ok⟩ := its_okI t.its hz
  refine r_is ok hl hm fun H2 e2 => ?_
  obtain ⟨h1, h2⟩ := k H2 e2
  rw [← okJ_o ho]
  cases hb : GX.okJ vs j l' m' with
  | false => exact ⟨_, rfl, h1 hb⟩
  | true => exact ⟨_, rfl, h2 hb⟩
theorem Tx.z {ys : List Str} {vs : List (Option Int)} (t : Tx ys vs) {j : Nat} (h : j < vs.length) : ∃ z, atI (ys.map V.str) (j : Int) = some (.str z) ∧ ys[j]? = some z := let ⟨z, _, h1, h2, _⟩ := t.at h; ⟨z, h1, h2⟩
def spWStop (K : PySem.W.Frag) : Sp := sp1 fun v H Q _ => ∃ (q : Addr) (ys : List Str) (vs : List (Option Int)), v = .ref q ∧ H q = some (.lst (ys.map V.str)) ∧ Tx ys vs ∧ ∀ H', Ex H H' → Q (oV (GX.wStop vs (colB ys))) H'
theorem ok__law_web_stop {P : Program} {w : World} {K : PySem.W.Frag} {mg : Str → Option Value} {base : Heap} (T : Txt K mg) : ∃ fd, FnOk P w K mg base (L2.CX P w) 2 (He.ga K "_law_web_stop") fd ["items"] (spWStop K) ∧ Binds K fd ["items"] [] := by
  obtain ⟨fd, F⟩ := T.d__law_web_stop
  obtain ⟨fd__law_is, F__law_is, B__law_is⟩ := ok__law_is (P := P) (w := w) (base := base) T
  refine ⟨fd, F.ok sc__law_web_stop sp1_len (fun cdv A outer s H vs Q E hr h => ?_), F.bindsN fun _ _ _ _ _ _ us hl => match us, hl with | [_], _ => rfl⟩
  have hr__law_is : Room 1 _ := hr.mono (by decide)
  obtain ⟨v, rfl, q, ys, vs, rfl, hq, tx, k⟩ := sp1_is h
  refine ⟨_, (pss_cons (ps_if (pt_not (pt_val (pe_call F__law_is hr__law_is (by rfl) T.g__law_is T.k__law_is B__law_is .nil passL (pa_cons (pe_ix (kx_ixl rfl) (pv 0) pe_int (fun _ _ => rfl)) (pa_cons pe_int (pa_cons pe_int pa_nil)))))) (pss_one (ps_ret pe_int)) pss_nil)
      (pss_cons (ps_if (PW.pt (pw_or (pt_cmpR op_eq (pe_callB (kx_lens rfl) (by rfl) T.b_len PySem.boot_len (pa_cons (pv 0) pa_nil)) pe_int (nomark _)) (pw_or1 (pt_cmpR op_ne (pe_ix (kx_ixl rfl) (pv 0) pe_int (fun _ _ => rfl)) pe_str (nomark _))))) (pss_one (ps_ret pe_int)) pss_nil)
      (pss_cons (ps_asg (pe_tup (pa_cons pe_int (pa_cons pe_int (pa_cons pe_int pa_nil)))) (pg_tup rfl (pgs_cons (pg_name (i := 1) sc__law_web_stop.nd rfl (Or.inl rfl)) (pgs_cons (pg_name (i := 2) sc__law_web_stop.nd rfl (Or.inl rfl)) (pgs_cons (pg_name (i := 3) sc__law_web_stop.nd rfl (Or.inl rfl)) pgs_nil)))))
      (pss_cons (ps_while (passes_of rfl) (pt_cmpR op_lt (pv 3) (pe_callB (kx_lens rfl) (by rfl) T.b_len PySem.boot_len (pa_cons (pv 0) pa_nil)) (nomark _)) (pss_cons (ps_if (pt_not (pt_val (pe_call F__law_is hr__law_is (by rfl) T.g__law_is T.k__law_is B__law_is .nil passL (pa_cons (pe_ix (kx_ixl rfl) (pv 0) (pv 3) (fun _ _ => rfl)) (pa_cons (pv 1) (pa_cons (pe_op op_sub (pe_callTy call_int_str (by rfl) T.b_int (by decide +kernel) (pa_cons (pe_ix (kx_ixl rfl) (pv 0) pe_int (fun _ _ => rfl)) pa_nil)) pe_int) pa_nil)))))) (pss_one (ps_ret (pv 3))) pss_nil)
      (pss_cons (ps_set (i := 4) sc__law_web_stop.nd rfl (Or.inl rfl) (pe_ifExp (pt_cmpR op_eq (pe_callTy call_int_str (by rfl) T.b_int (by decide +kernel) (pa_cons (pe_ix (kx_ixl rfl) (pv 0) (pv 3) (fun _ _ => rfl)) pa_nil)) (pv 1) (nomark _)) (pe_op op_add (pv 2) pe_int) (pe_op op_add (pe_callTy call_int_str (by rfl) T.b_int (by decide +kernel) (pa_cons (pe_ix (kx_ixl rfl) (pv 0) (pv 3) (fun _ _ => rfl)) pa_nil)) pe_int)))
      (pss_cons (ps_if (PW.pt (pw_or (pt_cmpR op_eq (pe_op op_add (pv 3) pe_int) (pe_callB (kx_lens rfl) (by rfl) T.b_len PySem.boot_len (pa_cons (pv 0) pa_nil)) (nomark _)) (pw_or1 (pt_not (pt_val (pe_call F__law_is hr__law_is (by rfl) T.g__law_is T.k__law_is B__law_is .nil passL (pa_cons (pe_ix (kx_ixl rfl) (pv 0) (pe_op op_add (pv 3) pe_int) (fun _ _ => rfl)) (pa_cons (pv 4) (pa_cons (pe_op op_sub (pe_callTy call_int_str (by rfl) T.b_int (by decide +kernel) (pa_cons (pe_ix (kx_ixl rfl) (pv 0) pe_int (fun _ _ => rfl)) pa_nil)) pe_int) pa_nil))))))))) (pss_one (ps_ret (pe_op op_add (pv 3) pe_int))) pss_nil)
      (pss_one (ps_par3 (i := 1) (j := 2) (l := 3) (by rfl) sc__law_web_stop.nd rfl rfl rfl (by decide) (by decide) (by decide) rfl rfl rfl (pa_cons (pe_callTy call_int_str (by rfl) T.b_int (by decide +kernel) (pa_cons (pe_ix (kx_ixl rfl) (pv 0) (pv 3) (fun _ _ => rfl)) pa_nil)) (pa_cons (pe_callTy call_int_str (by rfl) T.b_int (by decide +kernel) (pa_cons (pe_ix (kx_ixl rfl) (pv 0) (pe_op op_add (pv 3) pe_int) (fun _ _ => rfl)) pa_nil)) (pa_cons (pe_op op_add (pv 3) pe_int) pa_nil))) (by rfl)))))))
      (pss_one (ps_ret pe_non)))))), ?_⟩
  have lq : ((ys.map V.str).length : Int) = vs.length := by rw [List.length_map, tx.vlen]
  have l0 : 0 < vs.length := by rw [← tx.vlen]; exact List.length_pos_iff.mpr tx.ne
  obtain ⟨z0, ha0, hz0⟩ := tx.z (j := 0) l0
  walk_at "rd"
  refine r_ixL hq ha0 ?_
  walk_at "rd"
  refine r_isJ (l' := some 1) (m' := some 60) tx hz0 rfl rfl fun H1 e1 => ⟨fun b0 => ite_t rfl ?_, fun g0 => ite_f rfl ?_⟩
  · walk_at "rd"
    have := k H1 e1
    unfold GX.wStop at this
    rw [b0, if_pos rfl] at this
    exact this
  have n60 := (its_at tx.S g0).2
  have es : GX.wStop vs (colB ys) = if vs.length = 1 ∨ colB ys = false then some 1 else GX.wRun vs (GX.vl vs 0) vs.length 2 0 0 := by
    unfold GX.wStop
    rw [g0, if_neg (by decide)]
  rw [es] at k
  have hq1 := e1 _ _ hq
  walk_at "rd"
  refine ⟨q, _, rfl, .inl (SqL.of hq1), ?_⟩
  rw [lq]
  walk_at "rd"
  have one : (vs.length = 1 ∨ colB ys = false) → Q (.int 1) H1 := fun c => by
    have := k H1 e1
    rw [if_pos c] at this
    exact this
  by_cases c1 : vs.length = 1
  · refine ite_t (decide_eq_true (by omega)) (ite_t rfl ?_)
    walk_at "rd"
    exact one (.inl c1)
  refine ite_f (decide_eq_false (by omega)) ?_
  walk_at "rd"
  obtain ⟨z1, ha1, hz1⟩ := tx.z (j := 1) (by omega)
  refine r_ixL hq1 ha1 ?_
  walk_at "rd"
  refine r_ne rfl ?_
  walk_at "rd"
  have ec : colB ys = decide (z1 = Str.ofString ":") := by
    unfold colB
    rw [hz1]
    exact decide_eq_decide.mpr ⟨fun h => by injection h, fun h => by rw [h]⟩
  by_cases c2 : ¬ z1 = Str.ofString ":"
  · refine ite_t (by rw [decide_eq_false fun e => c2 (by injection e)]; rfl) ?_
    walk_at "rd"
    exact one (.inr (by rw [ec, decide_eq_false c2]))
  rw [Classical.not_not] at c2
  refine ite_f (by rw [decide_eq_true (by rw [c2])]; rfl) ?_
  rw [ec, decide_eq_true c2, if_neg (by simp; exact c1)] at k
  walk_at "rd"
  refine r_newT (sz_le (by simp)) fun t0 H2 _ e2 h2 => ?_
  refine r_gTup h2 rfl (r_gCons (r_gName (r_gCons (r_gName (r_gCons (r_gName (r_gNil ?_)))))))
  have e12 := e1.trans e2
  generalize hn : GX.vl vs 0 = n at n60 k
  walk_at "rd"
  refine ⟨fun m σ' H' => ∃ (i : Nat) (x y : Int) (s4 : Option V), m = vs.length - i ∧ σ' = [some (.ref q), some (.int x), some (.int y), some (.int ((2 + 2 * i : Nat) : Int)), s4] ∧ Ex H H' ∧ GX.wRun vs n vs.length 2 0 0 = GX.wRun vs n (vs.length - i) (2 + 2 * i) x y, ⟨vs.length, 0, 0, 0, none, rfl, rfl, e12, rfl⟩, fun m σ' H' hh => ?_⟩
  obtain ⟨i, x, y, s4, rfl, rfl, e3, wr⟩ := hh
  have hq3 := e3 _ _ hq
  walk_at "rd"
  refine ⟨q, _, rfl, .inl (SqL.of hq3), ?_⟩
  rw [lq]
  walk_at "rd"
  have at0 : ∀ {H' : Hp} {Q' : VK}, H' q = some (.lst (ys.map V.str)) → Q' (.str (nS n)) H' → rIxL K (.ref q) (.int 0) H' Q' := fun {H' Q'} h' q' => r_ixN h' tx g0 rfl (by rw [hn]; exact q')
  by_cases cw : vs.length ≤ 2 + 2 * i
  · refine ite_f (decide_eq_false (by omega)) ?_
    walk_at "rd"
    have := k H' e3
    rw [wr, GX.wRun_end (by omega)] at this
    exact this
  refine ite_t (decide_eq_true (by omega)) ?_
  have cw : 2 + 2 * i < vs.length := by omega
  rw [GX.wRun_step cw (by omega)] at wr
  refine ⟨fun σ' H' => ∃ (x y : Int) (s4 : Option V), σ' = [some (.ref q), some (.int x), some (.int y), some (.int ((2 + 2 * (i + 1) : Nat) : Int)), s4] ∧ Ex H H' ∧ GX.wRun vs n vs.length 2 0 0 = GX.wRun vs n (vs.length - (i + 1)) (2 + 2 * (i + 1)) x y, fun σ' H' ⟨x, y, s4, h2, h3, h4⟩ => ⟨vs.length - (i + 1), by omega, i + 1, x, y, s4, rfl, h2, h3, h4⟩, ?_⟩
  obtain ⟨z2, ha2, hz2⟩ := tx.z (j := 2 + 2 * i) cw
  walk_at "rd"
  refine r_ixL hq3 ha2 ?_
  walk_at "rd"
  refine at0 hq3 ?_
  walk_at "rd"
  refine ⟨_, _, rfl, (nS_I n60).1, (nS_I n60).2, ?_⟩
  walk_at "rd"
  refine r_isJ (l' := some x) (m' := some (n - 1)) tx hz2 rfl rfl fun H4 e4 => ⟨fun b2 => ite_t rfl ?_, fun g2 => ite_f rfl ?_⟩
  · walk_at "rd"
    have := k H4 (e3.trans e4)
    rw [wr, b2, if_pos rfl] at this
    exact this
  rw [g2, if_neg (by decide)] at wr
  have e34 := e3.trans e4
  have n2 := (its_at tx.S g2).2
  have hq4 := e34 _ _ hq
  walk_at "rx"
  refine r_seqJ (fun σ' H' => H' = H4 ∧ σ' = [some (.ref q), some (.int x), some (.int y), some (.int ((2 + 2 * i : Nat) : Int)), some (.int (if GX.vl vs (2 + 2 * i) = x then y + 1 else GX.vl vs (2 + 2 * i) + 1))]) (fun N hN => ?_) ?_
  · walk_at "rd"
    refine r_ixN hq4 tx g2 rfl ?_
    walk_at "rd"
    refine ⟨_, _, rfl, (nS_I n2).1, (nS_I n2).2, ?_⟩
    walk_at "rd"
    refine ite_b (fun c => ?_) fun c => ?_
    · walk_at "rd"
      refine hN _ _ ⟨rfl, ?_⟩
      rw [if_pos (of_decide_eq_true c)]
      rfl
    · walk_at "rd"
      refine r_ixN hq4 tx g2 rfl ?_
      walk_at "rd"
      refine ⟨_, _, rfl, (nS_I n2).1, (nS_I n2).2, ?_⟩
      walk_at "rd"
      refine hN _ _ ⟨rfl, ?_⟩
      rw [if_neg (by simpa using c)]
      rfl
  rintro σ' H4' ⟨rfl, rfl⟩
  have ea2 : ((2 + 2 * i : Nat) : Int) + 1 = ((2 + 2 * i + 1 : Nat) : Int) := by push_cast; rfl
  walk_at "rd"
  refine ⟨q, _, rfl, .inl (SqL.of hq4), ?_⟩
  rw [lq]
  walk_at "rd"
  have bad : GX.okJ vs (2 + 2 * i + 1) (some (if GX.vl vs (2 + 2 * i) = x then y + 1 else GX.vl vs (2 + 2 * i) + 1)) (some (n - 1)) = false → ∀ H5, Ex H4' H5 → Q (.int ((2 + 2 * i : Nat) + 1 : Int)) H5 := fun b H5 e5 => by
    have := k H5 (e34.trans e5)
    rw [wr, b, if_pos rfl] at this
    rw [ea2]
    exact this
  by_cases c3 : vs.length ≤ 2 + 2 * i + 1
  · refine ite_t (decide_eq_true (by omega)) (ite_t rfl ?_)
    walk_at "rd"
    exact bad (okJ_ge c3 _ _) _ (Ex.refl _)
  refine ite_f (decide_eq_false (by omega)) ?_
  obtain ⟨z3, ha3, hz3⟩ := tx.z (j := 2 + 2 * i + 1) (by omega)
  walk_at "rd"
  rw [ea2]
  refine r_ixL hq4 ha3 ?_
  walk_at "rd"
  refine at0 hq4 ?_
  walk_at "rd"
  refine ⟨_, _, rfl, (nS_I n60).1, (nS_I n60).2, ?_⟩
  walk_at "rd"
  refine r_isJ (m' := some (n - 1)) tx hz3 rfl rfl fun H5 e5 => ⟨fun b2 => ite_t rfl ?_, fun g3 => ite_f rfl ?_⟩
  · walk_at "rd"
    exact bad b2 H5 e5
  rw [g3, if_neg (by decide)] at wr
  have hq5 := e5 _ _ hq4
  have n3 := (its_at tx.S g3).2
  unfold tPar3
  walk_at "rd"
  refine r_ixN hq5 tx g2 rfl ?_
  walk_at "rd"
  refine ⟨_, _, rfl, (nS_I n2).1, (nS_I n2).2, ?_⟩
  walk_at "rd"
  rw [ea2]
  refine r_ixN hq5 tx g3 rfl ?_
  walk_at "rd"
  refine ⟨_, _, rfl, (nS_I n3).1, (nS_I n3).2, ?_⟩
  walk_at "rd"
  have ea3 : ((2 + 2 * i : Nat) : Int) + 2 = ((2 + 2 * (i + 1) : Nat) : Int) := by push_cast; omega
  rw [ea3]
  refine ⟨_, _, _, rfl, _, _, _, rfl, e34.trans e5, ?_⟩
  rw [wr]
  rfl

end K02
namespace K02
open PySem PySem.Spec PyProof.Rows L2 GS TL LamX
local macro_rules | `(tactic| walk_at "rd") => `(tactic| (repeat (first
  | with_reducible refine r_next ?_
  | with_reducible refine r_seq ?_
  | with_reducible refine r_ret ?_
  | with_reducible refine r_ifS ?_
  | with_reducible refine r_asg ?_
  | with_reducible refine r_drop ?_
  | with_reducible refine r_op ?_
  | with_reducible refine r_un ?_
  | with_reducible refine r_cbInt ?_
  | with_reducible refine r_cbAbs ?_
  | with_reducible refine r_cbLen ?_
  | with_reducible refine r_cbList ?_
  | with_reducible refine r_cbTup ?_
  | with_reducible refine r_iEnT ?_
  | with_reducible refine r_iEnL ?_
  | with_reducible refine r_zipA ?_
  | with_reducible refine r_zipX ?_
  | with_reducible refine r_augS ?_
  | with_reducible refine r_cb ?_
  | with_reducible refine r_call ?_
  | with_reducible refine r_make ?_
  | with_reducible refine r_callN0 ?_
  | with_reducible refine r_makeK0 ?_
  | with_reducible refine r_makeS ?_
  | with_reducible refine r_callS ?_
  | with_reducible refine r_cons ?_
  | with_reducible refine r_nil ?_
  | with_reducible refine r_test ?_
  | with_reducible refine r_B ?_
  | with_reducible refine r_and ?_
  | with_reducible refine r_or ?_
  | with_reducible refine r_not ?_
  | with_reducible refine r_andV ?_
  | with_reducible refine r_orV ?_
  | with_reducible refine r_notV ?_
  | with_reducible refine r_if ?_
  | with_reducible refine r_tup ?_
  | with_reducible refine r_lst ?_
  | with_reducible refine r_c ?_
  | with_reducible refine r_lc ?_
  | with_reducible refine r_chain ?_
  | with_reducible refine r_iT ?_
  | with_reducible refine r_iL ?_
  | with_reducible refine r_iR1 ?_
  | with_reducible refine r_iR2 ?_
  | with_reducible refine r_iR3 ?_
  | with_reducible refine r_asgG ?_
  | with_reducible refine r_gSub ?_
  | with_reducible refine r_for ?_
  | with_reducible refine r_smeth ?_
  | with_reducible refine r_par ?_
  | with_reducible refine r_parK ?_
  | with_reducible refine r_gCons ?_
  | with_reducible refine r_gNil ?_
  | with_reducible refine r_gName ?_
  | with_reducible refine r_intI ?_
  | with_reducible refine r_intB ?_
  | with_reducible refine r_absI ?_
  | with_reducible refine r_k ?_
  | with_reducible refine r_kV ?_
  | ((with_reducible show tVar _ _ _ _); refine r_var3 ?_ (by rfl))
  | with_reducible refine r_I0 ?_
  | with_reducible refine r_U ?_
  | with_reducible refine r_eqI ?_
  | with_reducible refine r_neI ?_
  | dsimp only)))
local macro_rules | `(tactic| walk_at "rx") => `(tactic| (repeat (first
  | with_reducible refine r_next ?_
  | with_reducible refine r_ret ?_
  | with_reducible refine r_ifS ?_
  | with_reducible refine r_asg ?_
  | with_reducible refine r_drop ?_
  | with_reducible refine r_op ?_
  | with_reducible refine r_un ?_
  | with_reducible refine r_cbInt ?_
  | with_reducible refine r_cbAbs ?_
  | with_reducible refine r_cbLen ?_
  | with_reducible refine r_cbList ?_
  | with_reducible refine r_cbTup ?_
  | with_reducible refine r_iEnT ?_
  | with_reducible refine r_iEnL ?_
  | with_reducible refine r_zipA ?_
  | with_reducible refine r_zipX ?_
  | with_reducible refine r_augS ?_
  | with_reducible refine r_cb ?_
  | with_reducible refine r_call ?_
  | with_reducible refine r_make ?_
  | with_reducible refine r_callN0 ?_
  | with_reducible refine r_makeK0 ?_
  | with_reducible refine r_makeS ?_
  | with_reducible refine r_callS ?_
  | with_reducible refine r_cons ?_
  | with_reducible refine r_nil ?_
  | with_reducible refine r_test ?_
  | with_reducible refine r_B ?_
  | with_reducible refine r_and ?_
  | with_reducible refine r_or ?_
  | with_reducible refine r_not ?_
  | with_reducible refine r_andV ?_
  | with_reducible refine r_orV ?_
  | with_reducible refine r_notV ?_
  | with_reducible refine r_if ?_
  | with_reducible refine r_tup ?_
  | with_reducible refine r_lst ?_
  | with_reducible refine r_c ?_
  | with_reducible refine r_lc ?_
  | with_reducible refine r_chain ?_
  | with_reducible refine r_iT ?_
  | with_reducible refine r_iL ?_
  | with_reducible refine r_iR1 ?_
  | with_reducible refine r_iR2 ?_
  | with_reducible refine r_iR3 ?_
  | with_reducible refine r_asgG ?_
  | with_reducible refine r_gSub ?_
  | with_reducible refine r_for ?_
  | with_reducible refine r_smeth ?_
  | with_reducible refine r_par ?_
  | with_reducible refine r_parK ?_
  | with_reducible refine r_gCons ?_
  | with_reducible refine r_gNil ?_
  | with_reducible refine r_gName ?_
  | with_reducible refine r_intI ?_
  | with_reducible refine r_intB ?_
  | with_reducible refine r_absI ?_
  | with_reducible refine r_k ?_
  | with_reducible refine r_kV ?_
  | ((with_reducible show tVar _ _ _ _); refine r_var3 ?_ (by rfl))
  | with_reducible refine r_I0 ?_
  | with_reducible refine r_U ?_
  | with_reducible refine r_eqI ?_
  | with_reducible refine r_neI ?_
  | dsimp only)))
/-! ### bent texts -/
theorem foldl_app : ∀ (l : List (Array Nat)) (acc : Array Nat), (l.foldl (· ++ ·) acc).toList = acc.toList ++ (l.map Array.toList).flatten
  | [], acc => by simp
  | a :: l, acc => by
    rw [List.foldl_cons, foldl_app l]
    simp
theorem mul_tl (n : Nat) (h : 2 ≤ n) : tl (Txt.mul (Str.ofString "0") (n : Int)) = List.replicate n 48 := by
  unfold Txt.mul
  rw [if_neg (by omega), if_neg (by
    have : (Str.ofString "0").length = 1 := rfl
    rw [this]
    simp
    omega)]
  show ((List.replicate n (Str.ofString "0").cps).foldl (· ++ ·) #[]).toList = _
  rw [foldl_app]
  have : (Str.ofString "0").cps.toList = [48] := rfl
  simp [this]
def bigN (n : Nat) : Str := Str.ofString "1" ++ Txt.mul (Str.ofString "0") (n : Int)
theorem bigN_tl {n : Nat} (h : 2 ≤ n) : tl (bigN n) = 49 :: List.replicate n 48 := by
  unfold bigN
  rw [tl_append, mul_tl n h]
  rfl
theorem bigN_len {n : Nat} (h : 2 ≤ n) : (bigN n).length = n + 1 := by rw [len_tl, bigN_tl h, List.length_cons, List.length_replicate]
theorem bigN_ok {n : Nat} (h : 100 ≤ n) (h2 : n ≤ 4999) : ∃ o, OkI (bigN n) o := by
  refine ⟨none, okI_no ⟨⟨by rw [bigN_len (by omega)]; omega, fun c hc => ?_⟩, fun hc => ?_, ?_⟩⟩
  · rw [bigN_tl (by omega)] at hc
    rcases List.mem_cons.mp hc with rfl | hc
    · decide
    · rw [List.eq_of_mem_replicate hc]; decide
  · rw [bigN_tl (by omega)] at hc
    rcases List.mem_cons.mp hc with hc | hc
    · cases hc
    · exact absurd (List.eq_of_mem_replicate hc) (by decide)
  · have e : dgt (bigN n) = 49 :: List.replicate n 48 := by
      unfold dgt
      rw [rp_tl, bigN_tl (by omega), if_neg (by rw [List.take_succ_cons]; simp)]
    unfold ntB
    rw [e, decide_eq_false (show ¬ (49 :: List.replicate n 48).length ≤ 60 by rw [List.length_cons, List.length_replicate]; omega), Bool.and_false]
    rfl
def bigS : Str := Str.ofString "1" ++ Txt.mul (Str.ofString "0") 4000
theorem big_n : bigS = bigN 4000 := rfl
theorem big_len : bigS.length = 4001 := by rw [big_n, bigN_len (by omega)]
theorem big_ok : ∃ o, OkI bigS o := by rw [big_n]; exact bigN_ok (by omega) (by omega)
def oddS : List Str := [Str.ofString "", Str.ofString "5", Str.ofString "0", Str.ofString "1", Str.ofString "2", Str.ofString "00", Str.ofString "01", Str.ofString "-1", Str.ofString "-0", Str.ofString "+1", Str.ofString "1.0", Str.ofString ":", Str.ofString "::", Str.ofString "a", Str.ofString "\n", Str.ofString "1\n", Str.ofString "\t1", Str.ofString "10", Str.ofString "1_0", Str.ofString "--1", Str.ofString "-", Txt.mul (Str.ofString "9") 60, Txt.mul (Str.ofString "9") 61, Str.ofString "-" ++ Txt.mul (Str.ofString "9") 60, bigS, Str.ofString "60", Str.ofString "61", Str.ofString "59", Str.ofString "None", Str.ofString "(0,)"]
theorem od_no {y : Str} (h : ((y.length ≤ 100 ∧ ∀ c ∈ tl y, c < 1114112) ∧ 32 ∉ tl y ∧ ntB y = false)) : (∃ o, OkI y o) ∧ y.length ≤ 4001 := by
  have h1 := h.1.1
  exact ⟨⟨none, okI_no ⟨⟨Nat.le_trans h1 (by decide), h.1.2⟩, h.2⟩⟩, Nat.le_trans h1 (by decide)⟩
theorem od_int {y : Str} (c : Int) (h : y = nS c ∧ c.natAbs < 10 ^ 60) : (∃ o, OkI y o) ∧ y.length ≤ 4001 := by
  obtain ⟨rfl, h⟩ := h
  exact ⟨⟨some c, okI_nS h⟩, Nat.le_trans (nS_len (k := 60) (by decide) h) (by decide)⟩
theorem od0 : (∃ o, OkI (Str.ofString "") o) ∧ (Str.ofString "").length ≤ 4001 := od_no (by decide +kernel)
theorem od1 : (∃ o, OkI (Str.ofString "5") o) ∧ (Str.ofString "5").length ≤ 4001 := od_int (5) (by decide +kernel)
theorem od2 : (∃ o, OkI (Str.ofString "0") o) ∧ (Str.ofString "0").length ≤ 4001 := od_int (0) (by decide +kernel)
theorem od3 : (∃ o, OkI (Str.ofString "1") o) ∧ (Str.ofString "1").length ≤ 4001 := od_int (1) (by decide +kernel)
theorem od4 : (∃ o, OkI (Str.ofString "2") o) ∧ (Str.ofString "2").length ≤ 4001 := od_int (2) (by decide +kernel)
theorem od5 : (∃ o, OkI (Str.ofString "00") o) ∧ (Str.ofString "00").length ≤ 4001 := od_no (by decide +kernel)
theorem od6 : (∃ o, OkI (Str.ofString "01") o) ∧ (Str.ofString "01").length ≤ 4001 := od_no (by decide +kernel)
theorem od7 : (∃ o, OkI (Str.ofString "-1") o) ∧ (Str.ofString "-1").length ≤ 4001 := od_int (-1) (by decide +kernel)
theorem od8 : (∃ o, OkI (Str.ofString "-0") o) ∧ (Str.ofString "-0").length ≤ 4001 := od_no (by decide +kernel)
theorem od9 : (∃ o, OkI (Str.ofString "+1") o) ∧ (Str.ofString "+1").length ≤ 4001 := od_no (by decide +kernel)
theorem od10 : (∃ o, OkI (Str.ofString "1.0") o) ∧ (Str.ofString "1.0").length ≤ 4001 := od_no (by decide +kernel)
theorem od11 : (∃ o, OkI (Str.ofString ":") o) ∧ (Str.ofString ":").length ≤ 4001 := od_no (by decide +kernel)
theorem od12 : (∃ o, OkI (Str.ofString "::") o) ∧ (Str.ofString "::").length ≤ 4001 := od_no (by decide +kernel)
theorem od13 : (∃ o, OkI (Str.ofString "a") o) ∧ (Str.ofString "a").length ≤ 4001 := od_no (by decide +kernel)
theorem od14 : (∃ o, OkI (Str.ofString "\n") o) ∧ (Str.ofString "\n").length ≤ 4001 := od_no (by decide +kernel)
theorem od15 : (∃ o, OkI (Str.ofString "1\n") o) ∧ (Str.ofString "1\n").length ≤ 4001 := od_no (by decide +kernel)
theorem od16 : (∃ o, OkI (Str.ofString "\t1") o) ∧ (Str.ofString "\t1").length ≤ 4001 := od_no (by decide +kernel)
theorem od17 : (∃ o, OkI (Str.ofString "10") o) ∧ (Str.ofString "10").length ≤ 4001 := od_int (10) (by decide +kernel)
theorem od18 : (∃ o, OkI (Str.ofString "1_0") o) ∧ (Str.ofString "1_0").length ≤ 4001 := od_no (by decide +kernel)
theorem od19 : (∃ o, OkI (Str.ofString "--1") o) ∧ (Str.ofString "--1").length ≤ 4001 := od_no (by decide +kernel)
theorem od20 : (∃ o, OkI (Str.ofString "-") o) ∧ (Str.ofString "-").length ≤ 4001 := od_no (by decide +kernel)
theorem od21 : (∃ o, OkI (Txt.mul (Str.ofString "9") 60) o) ∧ (Txt.mul (Str.ofString "9") 60).length ≤ 4001 := od_int (999999999999999999999999999999999999999999999999999999999999) (by decide +kernel)
theorem od22 : (∃ o, OkI (Txt.mul (Str.ofString "9") 61) o) ∧ (Txt.mul (Str.ofString "9") 61).length ≤ 4001 := od_no (by decide +kernel)
theorem od23 : (∃ o, OkI (Str.ofString "-" ++ Txt.mul (Str.ofString "9") 60) o) ∧ (Str.ofString "-" ++ Txt.mul (Str.ofString "9") 60).length ≤ 4001 := od_int (-999999999999999999999999999999999999999999999999999999999999) (by decide +kernel)
theorem od24 : (∃ o, OkI (bigS) o) ∧ (bigS).length ≤ 4001 := ⟨big_ok, by rw [big_len]; exact Nat.le_refl _⟩
theorem od25 : (∃ o, OkI (Str.ofString "60") o) ∧ (Str.ofString "60").length ≤ 4001 := od_int (60) (by decide +kernel)
theorem od26 : (∃ o, OkI (Str.ofString "61") o) ∧ (Str.ofString "61").length ≤ 4001 := od_int (61) (by decide +kernel)
theorem od27 : (∃ o, OkI (Str.ofString "59") o) ∧ (Str.ofString "59").length ≤ 4001 := od_int (59) (by decide +kernel)
theorem od28 : (∃ o, OkI (Str.ofString "None") o) ∧ (Str.ofString "None").length ≤ 4001 := od_no (by decide +kernel)
theorem od29 : (∃ o, OkI (Str.ofString "(0,)") o) ∧ (Str.ofString "(0,)").length ≤ 4001 := od_no (by decide +kernel)
theorem oddS_ok : ∀ y ∈ oddS, (∃ o, OkI y o) ∧ y.length ≤ 4001 := List.forall_mem_cons.mpr ⟨od0, List.forall_mem_cons.mpr ⟨od1, List.forall_mem_cons.mpr ⟨od2, List.forall_mem_cons.mpr ⟨od3, List.forall_mem_cons.mpr ⟨od4, List.forall_mem_cons.mpr ⟨od5, List.forall_mem_cons.mpr ⟨od6, List.forall_mem_cons.mpr ⟨od7, List.forall_mem_cons.mpr ⟨od8, List.forall_mem_cons.mpr ⟨od9, List.forall_mem_cons.mpr ⟨od10, List.forall_mem_cons.mpr ⟨od11, List.forall_mem_cons.mpr ⟨od12, List.forall_mem_cons.mpr ⟨od13, List.forall_mem_cons.mpr ⟨od14, List.forall_mem_cons.mpr ⟨od15, List.forall_mem_cons.mpr ⟨od16, List.forall_mem_cons.mpr ⟨od17, List.forall_mem_cons.mpr ⟨od18, List.forall_mem_cons.mpr ⟨od19, List.forall_mem_cons.mpr ⟨od20, List.forall_mem_cons.mpr ⟨od21, List.forall_mem_cons.mpr ⟨od22, List.forall_mem_cons.mpr ⟨od23, List.forall_mem_cons.mpr ⟨od24, List.forall_mem_cons.mpr ⟨od25, List.forall_mem_cons.mpr ⟨od26, List.forall_mem_cons.mpr ⟨od27, List.forall_mem_cons.mpr ⟨od28, List.forall_mem_cons.mpr ⟨od29, (fun _ h => nomatch h)⟩⟩⟩⟩⟩⟩⟩⟩⟩⟩⟩⟩⟩⟩⟩⟩⟩⟩⟩⟩⟩⟩⟩⟩⟩⟩⟩⟩⟩⟩
theorem mulN_len {n : Nat} (h : 2 ≤ n) : (Txt.mul (Str.ofString "0") (n : Int)).length = n := by rw [len_tl, mul_tl n h, List.length_replicate]
theorem cut_D' (ys : List Str) (k : Nat) : cutV (ys.map V.str) (some (k : Int)) none = (ys.drop k).map V.str := by
  unfold cutV
  rw [HT.sIx_none, HT.sIx_nat, List.length_map, ← List.map_drop]
  by_cases c : k ≤ ys.length
  · rw [Nat.min_eq_left c, List.take_of_length_le (by simp)]
  · rw [Nat.min_eq_right (by omega), List.drop_eq_nil_of_le (show ys.length ≤ ys.length from Nat.le_refl _), List.drop_eq_nil_of_le (show ys.length ≤ k by omega)]
    simp
theorem cut_2 (ys : List Str) (m : Nat) (h : m ≤ ys.length) : cutV (ys.map V.str) (some (m : Int)) (some ((m + 2 : Nat) : Int)) = ((ys.drop m).take 2).map V.str := by
  unfold cutV
  rw [HT.sIx_nat, HT.sIx_nat, List.length_map, Nat.min_eq_left h, ← List.map_drop, ← List.map_take]
  congr 1
  by_cases c : m + 2 ≤ ys.length
  · rw [Nat.min_eq_left c, Nat.add_sub_cancel_left]
  · rw [Nat.min_eq_right (by omega), List.take_of_length_le (by rw [List.length_drop]; omega), List.take_of_length_le (by rw [List.length_drop]; omega)]
theorem figs_rev (a : List Str) : figs a.reverse = figs a := by
  unfold figs
  rw [List.map_reverse, List.sum_reverse]
theorem figs_one (y : Str) : figs [y] = y.length := by simp [figs]
def spBent : Sp := sp2 fun b l H Q _ => ∃ (p : Addr) (n : Int) (L : Addr) (ys : List Str), b = .ref p ∧ l = .ref L ∧ H L = some (.lst (ys.map V.str)) ∧ Good ys ∧ n ≤ 90000 ∧ Bag H p n ∧
  ∀ q zs H', Bg p H H' → Bag H' p (n + 3) → H q = none → H' q = some (.lst (zs.map V.str)) → zs.length ≤ ys.length + 1 → figs zs ≤ figs ys + 4100 → AllI zs → Q (.ref q) H'
theorem ok__law_bent {P : Program} {w : World} {K : PySem.W.Frag} {mg : Str → Option Value} {base : Heap} (T : Txt K mg) : ∃ fd, FnOk P w K mg base (L2.CX P w) 3 (He.ga K "_law_bent") fd ["ark", "items"] (spBent) ∧ Binds K fd ["ark", "items"] [] := by
  obtain ⟨fd, F⟩ := T.d__law_bent
  obtain ⟨fd__law_fish, F__law_fish, B__law_fish⟩ := ok__law_fish (P := P) (w := w) (base := base) T
  obtain ⟨fd__law_haul, F__law_haul, B__law_haul⟩ := ok__law_haul (P := P) (w := w) (base := base) T
  refine ⟨fd, F.ok sc__law_bent sp2_len (fun cdv A outer s H vs Q E hr h => ?_), F.bindsN fun _ _ _ _ _ _ us hl => match us, hl with | [_, _], _ => rfl⟩
  have hr__law_fish : Room 2 _ := hr.mono (by decide)
  have hr__law_haul : Room 1 _ := hr.mono (by decide)
  obtain ⟨b0, l0, rfl, p, n, L, ys, rfl, rfl, hL, gd, hn, hb, k⟩ := sp2_is h
  refine ⟨_, (pss_cons (ps_par (i := 2) (j := 3) (by rfl) sc__law_bent.nd rfl rfl (by decide) rfl rfl (pa_cons (pe_call F__law_haul hr__law_haul (by rfl) T.g__law_haul T.k__law_haul B__law_haul .nil passL (pa_cons (pv 0) (pa_cons (pe_callB (kx_lens rfl) (by rfl) T.b_len PySem.boot_len (pa_cons (pv 1) pa_nil)) pa_nil))) (pa_cons (pe_call F__law_haul hr__law_haul (by rfl) T.g__law_haul T.k__law_haul B__law_haul .nil passL (pa_cons (pv 0) (pa_cons pe_int pa_nil))) pa_nil)) (by rfl))
      (pss_cons (ps_set (i := 4) sc__law_bent.nd rfl (Or.inl rfl) (pe_lst (pa_cons pe_str (pa_cons pe_str (pa_cons pe_str (pa_cons pe_str (pa_cons pe_str (pa_cons pe_str (pa_cons pe_str (pa_cons pe_str (pa_cons pe_str (pa_cons pe_str (pa_cons pe_str (pa_cons pe_str (pa_cons pe_str (pa_cons pe_str (pa_cons pe_str (pa_cons pe_str (pa_cons pe_str (pa_cons pe_str (pa_cons pe_str (pa_cons pe_str (pa_cons pe_str pa_nil)))))))))))))))))))))))
      (pss_cons (ps_set (i := 5) sc__law_bent.nd rfl (Or.inl rfl) (pe_call F__law_fish hr__law_fish (by rfl) T.g__law_fish T.k__law_fish B__law_fish .nil passL (pa_cons (pv 0) (pa_cons (pe_op op_cat (pv 4) (pe_lst (pa_cons (pe_op op_mulS pe_str pe_int) (pa_cons (pe_op op_mulS pe_str pe_int) (pa_cons (pe_op op_add_str pe_str (pe_op op_mulS pe_str pe_int)) (pa_cons (pe_op op_add_str pe_str (pe_op op_mulS pe_str pe_int)) (pa_cons pe_str (pa_cons pe_str (pa_cons pe_str (pa_cons pe_str (pa_cons pe_str pa_nil))))))))))) pa_nil))))
      (pss_cons (ps_if (pt_cmpR op_lt (pv 3) pe_int (nomark _)) (pss_one (ps_ret (pe_op op_cat (pe_op op_cat (pe_slice sl_list (pv 1) po_none (po_some (pv 2))) (pe_lst (pa_cons (pv 5) pa_nil))) (pe_slice sl_list (pv 1) (po_some (pe_op op_add (pv 2) pe_int)) po_none)))) pss_nil)
      (pss_cons (ps_if (pt_cmpR op_eq (pv 3) pe_int (nomark _)) (pss_one (ps_ret (pe_op op_cat (pe_op op_cat (pe_slice sl_list (pv 1) po_none (po_some (pv 2))) (pe_lst (pa_cons (pv 5) pa_nil))) (pe_slice sl_list (pv 1) (po_some (pv 2)) po_none)))) pss_nil)
      (pss_cons (ps_if (pt_cmpR op_eq (pv 3) pe_int (nomark _)) (pss_one (ps_ret (pe_op op_cat (pe_slice sl_list (pv 1) po_none (po_some (pv 2))) (pe_slice sl_list (pv 1) (po_some (pe_op op_add (pv 2) pe_int)) po_none)))) pss_nil)
      (pss_cons (ps_if (pt_cmpR op_eq (pv 3) pe_int (nomark _)) (pss_one (ps_ret (pe_op op_cat (pe_op op_cat (pe_slice sl_list (pv 1) po_none (po_some (pv 2))) (pe_revL (pe_slice sl_list (pv 1) (po_some (pv 2)) (po_some (pe_op op_add (pv 2) pe_int))))) (pe_slice sl_list (pv 1) (po_some (pe_op op_add (pv 2) pe_int)) po_none)))) pss_nil)
      (pss_cons (ps_if (pt_cmpR op_eq (pv 3) pe_int (nomark _)) (pss_one (ps_ret (pe_op op_cat (pe_slice sl_list (pv 1) po_none (po_some (pe_op op_add (pv 2) pe_int))) (pe_slice sl_list (pv 1) (po_some (pv 2)) po_none)))) pss_nil)
      (pss_one (ps_ret (pe_ifExp (pt_cmpR op_eq (pv 3) pe_int (nomark _)) (pe_slice sl_list (pv 1) po_none (po_some (pv 2))) (pe_op op_cat (pv 1) (pe_lst (pa_cons (pv 5) pa_nil)))))))))))))), ?_⟩
  have h0 : 0 < ys.length := List.length_pos_iff.mpr gd.ne
  have hlen := gd.many
  have hall := gd.all
  have hLp : L ≠ p := hb.ne hL strs_ne
  walk_at "rd"
  refine r_lenL hL ?_
  walk_at "rd"
  refine r_DrawG hb (by omega) (by rw [List.length_map]; omega) (zsm (by rw [List.length_map]; omega)) fun r H1 r0 r1 g1 b1 => ?_
  walk_at "rd"
  refine r_DrawG b1 (by omega) (by decide) (zsm (by decide)) fun way H2 w0 w1 g2 b2 => ?_
  walk_at "rd"
  rw [List.length_map] at r1
  obtain ⟨m, rfl⟩ : ∃ m : Nat, r = (m : Int) := ⟨r.toNat, by omega⟩
  have hL2 := (g1.trans g2).at_ hLp hL
  refine r_newL (sz_le (by simp)) fun o0 H3 ho0 e3 h3 => ?_
  walk_at "rd"
  refine ⟨_, 60, rfl, rfl, mulOk_small (by decide) (by decide) (by decide), ?_⟩
  walk_at "rd"
  refine ⟨_, 61, rfl, rfl, mulOk_small (by decide) (by decide) (by decide), ?_⟩
  walk_at "rd"
  refine ⟨_, 60, rfl, rfl, mulOk_small (by decide) (by decide) (by decide), ?_⟩
  walk_at "rd"
  refine ⟨_, _, rfl, rfl, (by decide +kernel), ?_⟩
  walk_at "rd"
  refine ⟨_, 4000, rfl, rfl, mulOk_small (by decide) (by decide) (by decide), ?_⟩
  walk_at "rd"
  refine ⟨_, _, rfl, rfl, ?_, ?_⟩
  · have := mulN_len (n := 4000) (by omega)
    rw [show (4000 : Int) = ((4000 : Nat) : Int) from rfl, this]
    exact sz_le (by show 1 + 4000 ≤ 100000; decide)
  walk_at "rd"
  refine r_newL (sz_le (by simp)) fun o1 H4 ho1 e4 h4 => ?_
  refine r_cat (e4 _ _ h3) h4 (by simp) fun o2 H5 ho2 e5 h5 => ?_
  walk_at "rd"
  have ho : H5 o2 = some (.lst (oddS.map V.str)) := h5
  clear h3 h4 h5
  have e35 := e3.trans (e4.trans e5)
  refine r_One (H0 := H5) (b2.ex e35) ho strs_ne (by simp [oddS]) (by simp [oddS]) (by omega) fun v H6 hv g6 b6 => ?_
  obtain ⟨odd, hodd, rfl⟩ := List.mem_map.mp hv
  obtain ⟨hoI, hol⟩ := oddS_ok odd hodd
  have hL6 := g6.at_ hLp (e35 _ _ hL2)
  have g16 : Bg p H H6 := ((g1.trans g2).trans (Bg.of e35)).trans g6
  have b16 : Bag H6 p (n + 3) := b6.le (by omega)
  clear g1 b1 g2 b2 ho0 ho1 ho2 e3 e4 e5 e35 ho hv g6 b6 hL2
  walk_at "rd"
  have hm : m < ys.length := by omega
  have fin : ∀ {H7 : Hp} {q : Addr} (zs : List Str), Ex H6 H7 → H6 q = none → H7 q = some (.lst (zs.map V.str)) → zs.length ≤ ys.length + 1 → figs zs ≤ figs ys + 4100 → AllI zs → Q (.ref q) H7 := fun zs e hq h1 h2 h3 h4 => k _ zs _ (g16.trans (Bg.of e)) (b16.ex e) (Bg.free g16 hb hq) h1 h2 h3 h4
  have aT : ∀ j, AllI (ys.take j) := fun j y hy => hall y (List.mem_of_mem_take hy)
  have aD : ∀ j, AllI (ys.drop j) := fun j y hy => hall y (List.mem_of_mem_drop hy)
  have aA : ∀ {as bs : List Str}, AllI as → AllI bs → AllI (as ++ bs) := fun h1 h2 y hy => (List.mem_append.mp hy).elim (h1 y) (h2 y)
  have aO : AllI [odd] := fun y hy => by rw [List.mem_singleton.mp hy]; exact hoI
  have em : ((m : Int) + 1) = ((m + 1 : Nat) : Int) := by push_cast; rfl
  have em2 : ((m : Int) + 2) = ((m + 2 : Nat) : Int) := by push_cast; rfl
  have fO : figs [odd] ≤ 4001 := by rw [figs_one]; exact hol
  have fT := fun j => figs_take ys j
  have f61 : figs (ys.take (m + 1)) ≤ figs (ys.take m) + 61 := by
    rw [List.take_add_one, figs_app, List.getElem?_eq_getElem hm]
    show _ + figs [ys[m]] ≤ _
    rw [figs_one]
    have := gd.each ys[m] (List.getElem_mem hm)
    omega
  have f60 : figs (ys.take m) ≤ figs (ys.take (m + 1)) := by
    rw [List.take_add_one, figs_app]
    omega
  have fm := fT m
  have fm1 := fT (m + 1)
  have fm2 := fT (m + 2)
  by_cases c2 : way < 2
  · refine ite_t (decide_eq_true c2) ?_
    walk_at "rd"
    refine ⟨_, rfl, _, rfl, _, rfl, r_sl hL6 (cut_T ys m) fun q5 H7 hq5 e5 h5 => ?_⟩
    walk_at "rd"
    refine r_newL (sz_le (by simp)) fun q6 H8 hq6 e6 h6 => ?_
    refine r_cat (e6 _ _ h5) h6 (by simp; omega) fun q7 H9 hq7 e7 h7 => ?_
    refine ⟨_, rfl, _, rfl, _, _, rfl, rfl, _, rfl, ?_⟩
    rw [em]
    dsimp only
    refine r_noPart ?_
    refine r_sl (((e5.trans e6).trans e7) _ _ hL6) (cut_D' ys (m + 1)) fun q8 Ha hq8 e8 h8 => ?_
    refine r_cat (e8 _ _ h7) h8 (by simp; omega) fun q9 Hb hq9 e9 h9 => ?_
    refine fin (ys.take m ++ [odd] ++ ys.drop (m + 1)) ((((e5.trans e6).trans e7).trans e8).trans e9) ((((e5.trans e6).trans e7).trans e8).free hq9) (by rw [h9, List.map_append, List.map_append]; rfl) (by simp; omega) ?_ (aA (aA (aT _) aO) (aD _))
    rw [figs_app, figs_app]
    omega
  refine ite_f (decide_eq_false c2) ?_
  walk_at "rd"
  by_cases c3 : way = 2
  · refine ite_t (decide_eq_true c3) ?_
    walk_at "rd"
    refine ⟨_, rfl, _, rfl, _, rfl, r_sl hL6 (cut_T ys m) fun q5 H7 hq5 e5 h5 => ?_⟩
    walk_at "rd"
    refine r_newL (sz_le (by simp)) fun q6 H8 hq6 e6 h6 => ?_
    refine r_cat (e6 _ _ h5) h6 (by simp; omega) fun q7 H9 hq7 e7 h7 => ?_
    refine ⟨_, rfl, _, rfl, _, rfl, ?_⟩
    dsimp only
    refine r_noPart ?_
    refine r_sl (((e5.trans e6).trans e7) _ _ hL6) (cut_D' ys m) fun q8 Ha hq8 e8 h8 => ?_
    refine r_cat (e8 _ _ h7) h8 (by simp; omega) fun q9 Hb hq9 e9 h9 => ?_
    refine fin (ys.take m ++ [odd] ++ ys.drop m) ((((e5.trans e6).trans e7).trans e8).trans e9) ((((e5.trans e6).trans e7).trans e8).free hq9) (by rw [h9, List.map_append, List.map_append]; rfl) (by simp; omega) ?_ (aA (aA (aT _) aO) (aD _))
    rw [figs_app, figs_app]
    omega
  refine ite_f (decide_eq_false c3) ?_
  walk_at "rd"
  by_cases c4 : way = 3
  · refine ite_t (decide_eq_true c4) ?_
    walk_at "rd"
    refine ⟨_, rfl, _, rfl, _, rfl, r_sl hL6 (cut_T ys m) fun q5 H7 hq5 e5 h5 => ?_⟩
    refine ⟨_, rfl, _, rfl, _, _, rfl, rfl, _, rfl, ?_⟩
    rw [em]
    dsimp only
    refine r_noPart ?_
    refine r_sl (e5 _ _ hL6) (cut_D' ys (m + 1)) fun q8 Ha hq8 e8 h8 => ?_
    refine r_cat (e8 _ _ h5) h8 (by simp; omega) fun q9 Hb hq9 e9 h9 => ?_
    refine fin (ys.take m ++ ys.drop (m + 1)) ((e5.trans e8).trans e9) ((e5.trans e8).free hq9) (by rw [h9, List.map_append]) (by simp; omega) ?_ (aA (aT _) (aD _))
    rw [figs_app]
    omega
  refine ite_f (decide_eq_false c4) ?_
  walk_at "rd"
  by_cases c5 : way = 4
  · refine ite_t (decide_eq_true c5) ?_
    walk_at "rd"
    refine ⟨_, rfl, _, rfl, _, rfl, r_sl hL6 (cut_T ys m) fun q5 H7 hq5 e5 h5 => ?_⟩
    refine ⟨_, rfl, _, rfl, _, rfl, _, rfl, _, _, rfl, rfl, _, rfl, ?_⟩
    rw [em2]
    refine r_sl (e5 _ _ hL6) (cut_2 ys m (by omega)) fun q6 H8 hq6 e6 h6 => ⟨q6, _, rfl, SqL.of h6, fun q7 hq7 => ?_⟩
    have e7 : Ex H8 (upd H8 q7 (.lst ((((ys.drop m).take 2).map V.str).reverse))) := Ex.new hq7
    have h7 : (upd H8 q7 (.lst ((((ys.drop m).take 2).map V.str).reverse))) q7 = some (.lst ((((ys.drop m).take 2).map V.str).reverse)) := upd_same
    generalize upd H8 q7 (.lst ((((ys.drop m).take 2).map V.str).reverse)) = H9 at e7 h7 ⊢
    refine r_cat (e7 _ _ (e6 _ _ h5)) h7 (by simp; omega) fun q8 Ha hq8 e8 h8 => ?_
    refine ⟨_, rfl, _, rfl, _, _, rfl, rfl, _, rfl, ?_⟩
    rw [em2]
    dsimp only
    refine r_noPart ?_
    refine r_sl (((e5.trans e6).trans (e7.trans e8)) _ _ hL6) (cut_D' ys (m + 2)) fun q9 Hb hq9 e9 h9 => ?_
    refine r_cat (e9 _ _ h8) h9 (by simp; omega) fun qa Hc hqa ea ha => ?_
    refine fin (ys.take m ++ ((ys.drop m).take 2).reverse ++ ys.drop (m + 2)) ((((e5.trans e6).trans e7).trans e8).trans (e9.trans ea)) ((((e5.trans e6).trans e7).trans (e8.trans e9)).free hqa) (by rw [ha, List.map_append, List.map_append, List.map_reverse]) (by simp; omega) ?_ (aA (aA (aT _) fun y hy => aD m y (List.mem_of_mem_take (List.mem_reverse.mp hy))) (aD _))
    rw [figs_app, figs_app, figs_rev]
    have e1 := figs_take (ys.drop m) 2
    rw [List.drop_drop] at e1
    omega
  refine ite_f (decide_eq_false c5) ?_
  walk_at "rd"
  by_cases c6 : way = 5
  · refine ite_t (decide_eq_true c6) ?_
    walk_at "rd"
    refine ⟨_, rfl, _, rfl, _, _, rfl, rfl, _, rfl, ?_⟩
    rw [em]
    refine r_sl hL6 (cut_T ys (m + 1)) fun q5 H7 hq5 e5 h5 => ?_
    refine ⟨_, rfl, _, rfl, _, rfl, ?_⟩
    dsimp only
    refine r_noPart ?_
    refine r_sl (e5 _ _ hL6) (cut_D' ys m) fun q8 Ha hq8 e8 h8 => ?_
    refine r_cat (e8 _ _ h5) h8 (by simp; omega) fun q9 Hb hq9 e9 h9 => ?_
    refine fin (ys.take (m + 1) ++ ys.drop m) ((e5.trans e8).trans e9) ((e5.trans e8).free hq9) (by rw [h9, List.map_append]) (by simp; omega) ?_ (aA (aT _) (aD _))
    rw [figs_app]
    omega
  refine ite_f (decide_eq_false c6) ?_
  walk_at "rd"
  refine ite_b (fun _ => ?_) fun _ => ?_
  · walk_at "rd"
    refine ⟨_, rfl, _, rfl, _, rfl, r_sl hL6 (cut_T ys m) fun q5 H7 hq5 e5 h5 => ?_⟩
    exact fin (ys.take m) e5 hq5 h5 (by simp; omega) (by omega) (aT _)
  · walk_at "rd"
    refine r_newL (sz_le (by simp)) fun q6 H8 hq6 e6 h6 => ?_
    refine r_cat (e6 _ _ hL6) h6 (by simp; omega) fun q7 H9 hq7 e7 h7 => ?_
    refine fin (ys ++ [odd]) (e6.trans e7) (e6.free hq7) (by rw [h7, List.map_append]; rfl) (by simp) ?_ (aA hall aO)
    rw [figs_app]
    omega

end K02
namespace K02
open PySem PySem.Spec PyProof.Rows L2 GS TL LamX
local macro_rules | `(tactic| walk_at "rd") => `(tactic| (repeat (first
  | with_reducible refine r_next ?_
  | with_reducible refine r_seq ?_
  | with_reducible refine r_ret ?_
  | with_reducible refine r_ifS ?_
  | with_reducible refine r_asg ?_
  | with_reducible refine r_drop ?_
  | with_reducible refine r_op ?_
  | with_reducible refine r_un ?_
  | with_reducible refine r_cbInt ?_
  | with_reducible refine r_cbAbs ?_
  | with_reducible refine r_cbLen ?_
  | with_reducible refine r_cbList ?_
  | with_reducible refine r_cbTup ?_
  | with_reducible refine r_iEnT ?_
  | with_reducible refine r_iEnL ?_
  | with_reducible refine r_zipA ?_
  | with_reducible refine r_zipX ?_
  | with_reducible refine r_augS ?_
  | with_reducible refine r_cb ?_
  | with_reducible refine r_call ?_
  | with_reducible refine r_make ?_
  | with_reducible refine r_callN0 ?_
  | with_reducible refine r_makeK0 ?_
  | with_reducible refine r_makeS ?_
  | with_reducible refine r_callS ?_
  | with_reducible refine r_cons ?_
  | with_reducible refine r_nil ?_
  | with_reducible refine r_test ?_
  | with_reducible refine r_B ?_
  | with_reducible refine r_and ?_
  | with_reducible refine r_or ?_
  | with_reducible refine r_not ?_
  | with_reducible refine r_andV ?_
  | with_reducible refine r_orV ?_
  | with_reducible refine r_notV ?_
  | with_reducible refine r_if ?_
  | with_reducible refine r_tup ?_
  | with_reducible refine r_lst ?_
  | with_reducible refine r_c ?_
  | with_reducible refine r_lc ?_
  | with_reducible refine r_chain ?_
  | with_reducible refine r_iT ?_
  | with_reducible refine r_iL ?_
  | with_reducible refine r_iR1 ?_
  | with_reducible refine r_iR2 ?_
  | with_reducible refine r_iR3 ?_
  | with_reducible refine r_asgG ?_
  | with_reducible refine r_gSub ?_
  | with_reducible refine r_for ?_
  | with_reducible refine r_smeth ?_
  | with_reducible refine r_par ?_
  | with_reducible refine r_parK ?_
  | with_reducible refine r_gCons ?_
  | with_reducible refine r_gNil ?_
  | with_reducible refine r_gName ?_
  | with_reducible refine r_intI ?_
  | with_reducible refine r_intB ?_
  | with_reducible refine r_absI ?_
  | with_reducible refine r_k ?_
  | with_reducible refine r_kV ?_
  | ((with_reducible show tVar _ _ _ _); refine r_var3 ?_ (by rfl))
  | with_reducible refine r_I0 ?_
  | with_reducible refine r_U ?_
  | with_reducible refine r_eqI ?_
  | with_reducible refine r_neI ?_
  | dsimp only)))
local macro_rules | `(tactic| walk_at "rx") => `(tactic| (repeat (first
  | with_reducible refine r_next ?_
  | with_reducible refine r_ret ?_
  | with_reducible refine r_ifS ?_
  | with_reducible refine r_asg ?_
  | with_reducible refine r_drop ?_
  | with_reducible refine r_op ?_
  | with_reducible refine r_un ?_
  | with_reducible refine r_cbInt ?_
  | with_reducible refine r_cbAbs ?_
  | with_reducible refine r_cbLen ?_
  | with_reducible refine r_cbList ?_
  | with_reducible refine r_cbTup ?_
  | with_reducible refine r_iEnT ?_
  | with_reducible refine r_iEnL ?_
  | with_reducible refine r_zipA ?_
  | with_reducible refine r_zipX ?_
  | with_reducible refine r_augS ?_
  | with_reducible refine r_cb ?_
  | with_reducible refine r_call ?_
  | with_reducible refine r_make ?_
  | with_reducible refine r_callN0 ?_
  | with_reducible refine r_makeK0 ?_
  | with_reducible refine r_makeS ?_
  | with_reducible refine r_callS ?_
  | with_reducible refine r_cons ?_
  | with_reducible refine r_nil ?_
  | with_reducible refine r_test ?_
  | with_reducible refine r_B ?_
  | with_reducible refine r_and ?_
  | with_reducible refine r_or ?_
  | with_reducible refine r_not ?_
  | with_reducible refine r_andV ?_
  | with_reducible refine r_orV ?_
  | with_reducible refine r_notV ?_
  | with_reducible refine r_if ?_
  | with_reducible refine r_tup ?_
  | with_reducible refine r_lst ?_
  | with_reducible refine r_c ?_
  | with_reducible refine r_lc ?_
  | with_reducible refine r_chain ?_
  | with_reducible refine r_iT ?_
  | with_reducible refine r_iL ?_
  | with_reducible refine r_iR1 ?_
  | with_reducible refine r_iR2 ?_
  | with_reducible refine r_iR3 ?_
  | with_reducible refine r_asgG ?_
  | with_reducible refine r_gSub ?_
  | with_reducible refine r_for ?_
  | with_reducible refine r_smeth ?_
  | with_reducible refine r_par ?_
  | with_reducible refine r_parK ?_
  | with_reducible refine r_gCons ?_
  | with_reducible refine r_gNil ?_
  | with_reducible refine r_gName ?_
  | with_reducible refine r_intI ?_
  | with_reducible refine r_intB ?_
  | with_reducible refine r_absI ?_
  | with_reducible refine r_k ?_
  | with_reducible refine r_kV ?_
  | ((with_reducible show tVar _ _ _ _); refine r_var3 ?_ (by rfl))
  | with_reducible refine r_I0 ?_
  | with_reducible refine r_U ?_
  | with_reducible refine r_eqI ?_
  | with_reducible refine r_neI ?_
  | dsimp only)))
/-! ### what is heard -/
theorem exm_one {K : PySem.W.Frag} {cls c : Value} {b : Bool} (h : PySem.W.exmOne K cls c = some b) : PySem.W.exmAny K cls [c] = some b := by
  unfold PySem.W.exmAny
  rw [h]
  cases b <;> rfl
def HeardE (K : PySem.W.Frag) (n : Nat) (Q : VK) : XK := fun cls d H' => ∃ dd : Addr, cls = .ref (He.ga K "BadText") ∧ d = some dd ∧ H' dd = some (.xd [("item", .int n), ("line", .int 0)]) ∧ ∀ t H'', Ex H' H'' → H'' t = some (.tup [.int 0, .int n]) → Q (.ref t) H''
def TTHeard (K : PySem.W.Frag) (tl : XK → Hp → VK → Prop) (H : Hp) (Q : VK) : Prop := ∃ n : Nat, ∀ Qn : VK, tl (HeardE K n Q) H Qn
theorem gives__law_heard {X : Cx} {g : Addr} {cdg : Value} {q : Str} (T : Txt X.K X.mg) : GivesS X ["ask", "caught", "error"] "_law_heard" (defScope s__law_heard) g cdg (defBody s__law_heard) "ask" q (TTHeard X.K) := by
  intro f c' s H Q tl act hc h
  refine ⟨_, (pss_cons (ps_set (i := 1) sc__law_heard.nd rfl (Or.inl rfl) pe_non)
      (pss_cons (ps_try_keep (Wout := fun _ _ _ _ => False) (i := 2) rfl rfl rfl L2.takes0 (fun W pn xe tk po => (pss_one (ps_ask (fun E p1 p2 => act W pn xe E p1 p2) tk))) (.name ⟨rfl, by decide, Or.inl T.g_SignsError⟩) sc__law_heard.nd rfl rfl (fun a oe cls d pn hz hf => (pss_one (ps_set (i := 1) sc__law_heard.nd rfl (Or.inl rfl) (pv 2)))))
      (pss_cons (ps_if (pt_cmpR op_isN (pv 1) pe_non (nomark _)) (pss_one (ps_ret pe_non)) pss_nil)
      (pss_one (ps_ret (pe_ifExp (pt_val (pe_callB (cr_isO rfl) (by rfl) T.b_isinstance (by decide +kernel) (pa_cons (pv 1) (pa_cons (pe_glob (v := .ref (He.ga X.K "BadText")) rfl T.g_BadText rfl) pa_nil)))) (pe_tup (pa_cons (pe_xO rfl (pv 1)) (pa_cons (pe_xO rfl (pv 1)) pa_nil))) (pe_tup (pa_cons pe_str (pa_cons pe_non pa_nil))))))))), ?_⟩
  obtain ⟨n, h⟩ := h
  walk_at "rd"
  refine ⟨HeardE X.K n Q, fun cls d H' hE => ?_, rfl, hc, ?_⟩
  · obtain ⟨dd, rfl, rfl, hd, k⟩ := hE
    refine ⟨true, exm_one (T.e_BadText.y "SignsError" (by simp)), fun _ a ha => ?_, fun z => by cases z⟩
    walk_at "rd"
    intro ha'
    have dne : dd ≠ a := by rintro rfl; rw [hd] at ha'; cases ha'
    have e1 : Ex H' (upd H' a (ErrO a (.ref (He.ga X.K "BadText")) (some dd))) := Ex.new ha'
    have h1 : (upd H' a (ErrO a (.ref (He.ga X.K "BadText")) (some dd))) a = some (ErrO a (.ref (He.ga X.K "BadText")) (some dd)) := upd_same
    generalize upd H' a (ErrO a (.ref (He.ga X.K "BadText")) (some dd)) = H1 at e1 h1 ⊢
    have hd1 := e1 _ _ hd
    walk_at "rd"
    refine ⟨rfl, _, rfl, ite_f (by simp) ?_⟩
    walk_at "rd"
    refine ⟨a, _, _, _, _, dd, _, rfl, fun u r => r, h1, T.x_BadText, T.ki_BadText_BadText, hd1, _, rfl, ite_t rfl ?_⟩
    walk_at "rd"
    refine ⟨_, rfl, a, _, dd, _, .int 0, rfl, h1, T.e_BadText.xf, T.e_BadText.no_ "line" (by simp), hd1, rfl, ?_⟩
    walk_at "rd"
    refine ⟨_, rfl, a, _, dd, _, .int n, rfl, h1, T.e_BadText.xf, T.e_BadText.no_ "item" (by simp), hd1, rfl, ?_⟩
    walk_at "rd"
    exact r_newT (sz_le (by simp)) fun t2 H3 _ e3 h3 => k t2 H3 (e1.trans e3) h3
  · exact h _
/-! ### texts of data -/
structure Sw (n k : Nat) (d : PyData) : Prop where
  sh : d.showable = true
  nd : d.hasDict = false
  ln : d.shown.length ≤ n
  dp : d.depth ≤ k
theorem Sw.int {c : Int} {k : Nat} (h : c.natAbs < 10 ^ 60) : Sw 61 k (.int c) := ⟨by simp only [PyData.showable]; exact decide_eq_true (nS_log h), by simp only [PyData.hasDict], by
  have e : PyData.shown (.int c) = nS c := by simp only [PyData.shown]; rfl
  rw [e]
  exact nS_len (k := 60) (by decide) h, Nat.zero_le _⟩
theorem sw_all {n k : Nat} : ∀ {ds : List PyData}, (∀ d ∈ ds, Sw n k d) → PyData.showableAll ds = true ∧ PyData.hasDictAll ds = false ∧ ((PyData.shownAll ds).map fun x => x.length).sum ≤ ds.length * n ∧ (PyData.shownAll ds).length = ds.length ∧ PyData.depthAll ds ≤ k
  | [], _ => ⟨by simp only [PyData.showableAll], by simp only [PyData.hasDictAll], by simp [PyData.shownAll], by simp [PyData.shownAll], Nat.zero_le _⟩
  | d :: ds, h => by
    obtain ⟨h1, h2, h3, h4, h5⟩ := sw_all fun e m => h e (List.mem_cons_of_mem _ m)
    have q := h d List.mem_cons_self
    refine ⟨by simp only [PyData.showableAll, q.sh, h1, Bool.and_self], by simp only [PyData.hasDictAll, q.nd, h2, Bool.or_self], ?_, by simp only [PyData.shownAll, List.length_cons, h4], ?_⟩
    · have := q.ln
      simp only [PyData.shownAll, List.map_cons, List.sum_cons, List.length_cons, Nat.succ_mul]
      omega
    · show max d.depth (PyData.depthAll ds) ≤ k
      have := q.dp
      omega
theorem Sw.list {n k : Nat} {ds : List PyData} (h : ∀ d ∈ ds, Sw n k d) : Sw (ds.length * n + 2 * ds.length + 3) (k + 1) (.list ds) := by
  obtain ⟨h1, h2, h3, h4, h5⟩ := sw_all h
  refine ⟨by simp only [PyData.showable]; exact h1, by simp only [PyData.hasDict]; exact h2, ?_, ?_⟩
  · simp only [PyData.shown]
    have := listText_len_le (PyData.shownAll ds)
    rw [h4] at this
    omega
  · show PyData.depthAll ds + 1 ≤ k + 1
    omega
theorem Sw.tup {n k : Nat} {ds : List PyData} (h : ∀ d ∈ ds, Sw n k d) : Sw (ds.length * n + 2 * ds.length + 3) (k + 1) (.tuple ds) := by
  obtain ⟨h1, h2, h3, h4, h5⟩ := sw_all h
  refine ⟨by simp only [PyData.showable]; exact h1, by simp only [PyData.hasDict]; exact h2, ?_, ?_⟩
  · simp only [PyData.shown]
    have := tupleText_len_le (PyData.shownAll ds)
    rw [h4] at this
    omega
  · show PyData.depthAll ds + 1 ≤ k + 1
    omega
theorem Sw.mono {n m k j : Nat} {d : PyData} (h : Sw n k d) (a : n ≤ m) (b : k ≤ j) : Sw m j d := ⟨h.sh, h.nd, Nat.le_trans h.ln a, Nat.le_trans h.dp b⟩
theorem sw_ints {ns : List Int} (h : ∀ c ∈ ns, c.natAbs < 10 ^ 60) : ∀ d ∈ ns.map PyData.int, Sw 61 0 d := fun d hd => by
  obtain ⟨c, hc, rfl⟩ := List.mem_map.mp hd
  exact Sw.int (h c hc)
/-- repr of data -/
theorem r_show {K : PySem.W.Frag} {H : Hp} {Q : VK} {a : Addr} {d : PyData} (hd : Dat K H (.ref a) d) (s : Sw 100000 50 d) (q : Q (.str d.shown) H) : rShow K [.ref a] H Q := ⟨a, d, rfl, hd, s.sh, s.nd, sz_le s.ln, Nat.le_trans s.dp (show 50 ≤ 60 by decide), q⟩
theorem r_lam {T : List (Addr × Str)} {TT : (XK → Hp → VK → Prop) → Hp → VK → Prop} {t : XK → TE} {σ : L2.St} {H : Hp} {Q : VK} (h : Tabs T H) (q : ∀ H1, ExtN H H1 → Tabs T H1 → TT (fun E H' Q' => t E σ H' Q') H1 Q) : tLam T TT t σ H Q := ⟨h, q⟩
theorem bStop_none {vs : List (Option Int)} (h : GX.bStop vs = none) : vs.length = 3 ∧ ∀ k, k < 3 → GX.okJ vs k (blB k) none = true := by
  have all : ∀ k, k < 3 → GX.okJ vs k (blB k) none = true := by
    have key : ∀ n k, k ≤ n → k < 3 → GX.okJ vs k (blB k) none = true := by
      intro n
      induction n with
      | zero =>
        intro k hk h3
        cases q : GX.okJ vs k (blB k) none with
        | true => rfl
        | false => rw [bStop_bad h3 (fun j hj => by omega) q] at h; cases h
      | succ n ih =>
        intro k hk h3
        cases q : GX.okJ vs k (blB k) none with
        | true => rfl
        | false => rw [bStop_bad h3 (fun j hj => ih j (by omega) (by omega)) q] at h; cases h
    exact fun k hk => key k k (Nat.le_refl _) hk
  rw [bStop_all all] at h
  refine ⟨?_, all⟩
  split at h
  · assumption
  · cases h
/-- items that all tell are the texts of what they tell -/
theorem its_all {ys : List Str} {vs : List (Option Int)} (hi : ItS ys vs) (h : ∀ k, k < vs.length → ∃ l m, GX.okJ vs k l m = true) : ys = (hd vs vs.length).map nS ∧ ∀ c ∈ hd vs vs.length, c.natAbs < 10 ^ 60 := by
  refine ⟨List.ext_getElem (by rw [hi.1]; simp [hd]) fun i h1 h2 => ?_, fun c hc => ?_⟩
  · have hv : i < vs.length := by rw [← hi.1]; exact h1
    obtain ⟨l, m, ok⟩ := h i hv
    have := (its_at hi ok).1
    rw [List.getElem?_eq_getElem h1] at this
    rw [Option.some.inj this]
    simp [hd]
  · obtain ⟨j, hj, rfl⟩ := List.mem_map.mp hc
    obtain ⟨l, m, ok⟩ := h j (List.mem_range.mp hj)
    exact (its_at hi ok).2
theorem stop_heard {K : PySem.W.Frag} {n : Nat} {H : Hp} {Q : VK} (k : ∀ t H', Ex H H' → H' t = some (.tup [.int 0, .int n]) → Q (.ref t) H') : Stop K n H (HeardE K n Q) := fun d H' e hd => ⟨d, rfl, rfl, hd, fun t H'' e2 ht => k t H'' (e.trans e2) ht⟩
def spBRight (K : PySem.W.Frag) : Sp := sp1 fun v H Q _ => ∃ (q : Addr) (ys : List Str) (vs : List (Option Int)), v = .ref q ∧ H q = some (.lst (ys.map V.str)) ∧ Tx ys vs ∧ Tabs (lamT K) H ∧ ∀ H', ExtN H H' → Tabs (lamT K) H' → Q (.bl true) H'
theorem ok__law_bound_right {P : Program} {w : World} {K : PySem.W.Frag} {mg : Str → Option Value} {base : Heap} (T : Txt K mg) (tb : TabB base mg (He.cT K ("_law_bound_right", none)).1 (He.cT K ("_law_bound_right", none)).2) : ∃ fd, FnG P w K mg base (L2.CX P w) 10 (He.ga K "_law_bound_right") fd ["items"] (spBRight K) ∧ Binds K fd ["items"] [] := by
  obtain ⟨fd, F⟩ := T.d__law_bound_right
  obtain ⟨fd_Bound_eq, F_Bound_eq, B_Bound_eq⟩ := ok_Bound_eq (P := P) (w := w) (base := base) T
  obtain ⟨fd_Bound_init, F_Bound_init, B_Bound_init⟩ := ok_Bound_init (P := P) (w := w) (base := base) T
  obtain ⟨fd_Bound_str, F_Bound_str, B_Bound_str⟩ := ok_Bound_str (P := P) (w := w) (base := base) T
  obtain ⟨fd_Bound_read, F_Bound_read, B_Bound_read, kb_Bound_read_0⟩ := ok_Bound_read (P := P) (w := w) (base := base) T
  obtain ⟨fd__law_bound_stop, F__law_bound_stop, B__law_bound_stop⟩ := ok__law_bound_stop (P := P) (w := w) (base := base) T
  obtain ⟨fd__law_heard, FD__law_heard⟩ := T.d__law_heard
  refine ⟨fd, okL (p := ("_law_bound_right", none)) rfl F sc__law_bound_right sp1_len (fun cdv A outer s H vs Q E cdE quiet hr h => ?_), F.bindsN fun _ _ _ _ _ _ us hl => match us, hl with | [_], _ => rfl⟩
  have hr_Bound_eq2 : Room 3 _ := hr.mono (by decide)
  have hr_Bound_init : Room 5 _ := hr.mono (by decide)
  have hr_Bound_str : Room 4 _ := hr.mono (by decide)
  have hr_Bound_read : Room 6 _ := hr.mono (by decide)
  have hr__law_bound_stop : Room 2 _ := hr.mono (by decide)
  obtain ⟨v, rfl, q, ys, vs, rfl, hq, tx, tabs, k⟩ := sp1_is h
  refine ⟨_, (pss_cons (ps_asg (pe_tup (pa_cons (pe_join pe_str (pv 0)) (pa_cons (pe_call F__law_bound_stop hr__law_bound_stop (by rfl) T.g__law_bound_stop T.k__law_bound_stop B__law_bound_stop .nil passL (pa_cons (pv 0) pa_nil)) pa_nil))) (pg_tup rfl (pgs_cons (pg_name (i := 1) sc__law_bound_right.nd rfl (Or.inr rfl)) (pgs_cons (pg_name (i := 2) sc__law_bound_right.nd rfl (Or.inl rfl)) pgs_nil))))
      (pss_cons (ps_if (pt_cmpR op_notN (pv 2) pe_non (nomark _)) (pss_one (ps_ret (pe_cmpR (op_eqD hr.units) (pe_lamT (T := lamT K) (k := 7) (TT := TTHeard K) (by rfl) T.g__law_heard T.k__law_heard FD__law_heard (FD__law_heard.bindsN fun _ _ _ _ _ _ us hl => match us, hl with | [_], _ => rfl) sc__law_heard rfl (Or.inl rfl) (fun cdg => gives__law_heard T) tb cdE (lam_mem__law_bound_right K) (lam_uq__law_bound_right T) (hr.mono (by decide)) (lamS_by (by rfl)) rfl (fun _ _ _ _ _ => rfl) (fun A outer s H E f c' hrL => (pe_smeth (pe_glob (v := .ref (He.ga K "Bound")) rfl T.g_Bound rfl) T.sm_Bound_read.2.1 T.sm_Bound_read.1 F_Bound_read T.sm_Bound_read.2.2 (hrL.mono (by decide)) B_Bound_read (passes_call (takes_of rfl rfl rfl rfl) (fun _ _ _ _ h => h)) (pa_cons (pv 1) pa_nil)))) (pe_tup (pa_cons pe_int (pa_cons (pv 2) pa_nil))) (nomark _)))) pss_nil)
      (pss_cons (ps_par (i := 3) (j := 4) (by rfl) sc__law_bound_right.nd rfl rfl (by decide) rfl rfl (pa_cons (pe_smethK0 (pe_glob (v := .ref (He.ga K "Bound")) rfl T.g_Bound rfl) T.sm_Bound_read.2.1 T.sm_Bound_read.1 F_Bound_read T.sm_Bound_read.2.2 hr_Bound_read kb_Bound_read_0 passL (pk_cons (pv 1) pk_nil)) (pa_cons (pe_lc (own := [("item", 5)]) (g := gName 5) (tt := tYes)  rfl sc__law_bound_right.nd (pi_list (pv 0)) (blkOk_by (own := [("item", 5)]) (N := ["items", "text", "stop", "told", "numbers", "item"]) (sc := defScope s__law_bound_right) (by decide +kernel)) (fun _ _ _ _ _ => (pg_name (i := 5) sc__law_bound_right.nd rfl (Or.inl rfl))) (fun _ _ _ _ _ => pts_nil) (fun _ _ _ _ _ => (pe_callTy call_int_str (by rfl) T.b_int (by decide +kernel) (pa_cons (pv 5) pa_nil)))) pa_nil)) (by rfl))
      (pss_cons (ps_if (PW.pt (pw_or (pt_cmpR op_ne (pe_callTy (call_strOwn F_Bound_str hr_Bound_str T.me_Bound_str.at_ T.me_Bound_str.fn B_Bound_str passL) (by rfl) T.b_str (by decide +kernel) (pa_cons (pv 3) pa_nil)) (pv 1) (nomark _)) (pw_or1 (pt_cmpR (op_neOwn F_Bound_eq (hr_Bound_eq2) T.ne_Bound T.cc_Bound.hm T.me_Bound_eq.at_ T.me_Bound_eq.fn B_Bound_eq passL) (pv 3) (pe_make T.mk_Bound F_Bound_init hr_Bound_init (by rfl) T.g_Bound B_Bound_init .nil passL (pa_cons (pe_ix (kx_ixl rfl) (pv 4) pe_int (fun _ _ => rfl)) (pa_cons (pe_ix (kx_ixl rfl) (pv 4) pe_int (fun _ _ => rfl)) (pa_cons (pe_ix (kx_ixl rfl) (pv 4) pe_int (fun _ _ => rfl)) pa_nil)))) (nomark _))))) (pss_one (ps_ret pe_bl)) pss_nil)
      (pss_one (ps_ret (pe_cmpR op_eq (pe_callB (cr_show quiet hr.units) (by rfl) T.b_repr (by decide +kernel) (pa_cons (pe_lst (pa_cons (kx_fld rfl (pv 3) rfl) (pa_cons (kx_fld rfl (pv 3) rfl) (pa_cons (kx_fld rfl (pv 3) rfl) pa_nil)))) pa_nil)) (pe_callB (cr_show quiet hr.units) (by rfl) T.b_repr (by decide +kernel) (pa_cons (pv 4) pa_nil)) (nomark _)))))))), ?_⟩
  have fgs : (ys.map fun x => x.length).sum + ys.length * 1 ≤ 16777216 := by
    have := tx.fg
    unfold figs at this
    omega
  walk_at "rx"
  refine r_seqJ (fun σ' H' => Ex H H' ∧ σ' = [some (.ref q), some (.str (tS ys)), some (oV (GX.bStop vs)), none, none, none]) (fun N hN => ?_) ?_
  · walk_at "rx"
    refine ⟨⟨_, rfl⟩, ?_⟩
    walk_at "rx"
    refine ⟨_, q, ys, rfl, rfl, .inl (SqL.of hq), fgs, ?_⟩
    walk_at "rx"
    refine ⟨q, ys, vs, rfl, hq, tx, fun H1 e1 => ?_⟩
    walk_at "rx"
    refine r_newT (sz_le (by simp)) fun t0 H2 _ e2 h2 => ?_
    refine r_gTup h2 rfl (r_gCons (r_gName (r_gCons (r_gName (r_gNil ?_)))))
    exact hN _ _ ⟨e1.trans e2, rfl⟩
  rintro σ' H1 ⟨e1, rfl⟩
  have tb1 := tabs.ext e1
  have hq1 := e1 _ _ hq
  cases hst : GX.bStop vs with
  | some j =>
    walk_at "rd"
    refine ⟨rfl, _, rfl, ite_t (by simp [oV]) ?_⟩
    walk_at "rx"
    refine r_lam tb1 fun H2 e2 tb2 => ⟨j, fun Qn => ?_⟩
    walk_at "rx"
    refine .inl ⟨ys, vs, rfl, tx, fun j' hj' => ?_, fun hn => by rw [hst] at hn; cases hn⟩
    rw [hst] at hj'
    cases hj'
    refine stop_heard fun t H3 e3 ht => ?_
    walk_at "rx"
    refine r_newT (sz_le (by simp)) fun t2 H4 _ e4 ht2 => ?_
    refine r_eqInts (xs := [0, (j : Int)]) (ys := [0, (j : Int)]) (e4 _ _ ht) ht2 ?_
    rw [decide_eq_true rfl]
    exact k H4 ((ExtN.of e1).trans (e2.trans (ExtN.of (e3.trans e4)))) (tb2.ext (e3.trans e4))
  | none =>
    obtain ⟨l3, all⟩ := bStop_none hst
    walk_at "rd"
    refine ⟨rfl, _, rfl, ite_f (by simp [oV]) ?_⟩
    walk_at "rd"
    have okall : ∀ k, k < vs.length → ∃ l m, GX.okJ vs k l m = true := fun k hk => ⟨_, _, all k (by omega)⟩
    obtain ⟨ey, ez⟩ := its_all tx.S okall
    have z := fun j (hj : j < 3) => (its_at tx.S (all j hj)).2
    have ehd : hd vs vs.length = [GX.vl vs 0, GX.vl vs 1, GX.vl vs 2] := by rw [l3]; rfl
    refine ⟨rfl, ?_⟩
    walk_at "rd"
    refine ⟨rfl, ?_⟩
    refine .inl ⟨ys, vs, rfl, tx, fun j hj => (by rw [hst] at hj; cases hj), fun _ p H2 e2 hb => ?_⟩
    have hq2 := e2 _ _ hq1
    walk_at "rd"
    refine ⟨q, rfl, ⟨_, SqL.of hq2⟩, ?_⟩
    refine r_lcM (n := ys.length) (k := 5) (by simpa using walk_list (xs := ys.map V.str)) (fun j => .int (GX.vl vs j)) (by have := tx.many; omega) (fun H' e => SqL.of (e _ _ hq2)) (fun _ => rfl) ?_ ?_
    · rintro j y H0 H' hj e0 ⟨rfl, hy⟩
      refine ⟨Ex.refl _, fun H3 e3 R r => ?_⟩
      obtain ⟨l, m, ok⟩ := okall j (by rw [← tx.vlen]; exact hj)
      obtain ⟨hz1, hz2⟩ := its_at tx.S ok
      rw [List.getElem?_map, hz1] at hy
      cases hy
      walk_at "rd"
      exact ⟨_, _, rfl, (nS_I hz2).1, (nS_I hz2).2, r H3 (Ex.refl _)⟩
    intro D H3 hD e3 h3
    have h3' : H3 D = some (.lst ([GX.vl vs 0, GX.vl vs 1, GX.vl vs 2].map V.int)) := by
      rw [h3, ← ehd, tx.vlen]
      simp [hd]
    have hb3 := hb.ex e3
    obtain ⟨dx, fs, hi⟩ := hb3.inst
    walk_at "rd"
    refine ⟨p, dx, fs, rfl, hi, p, _, _, _, rfl, hb3, z 0 (by omega), z 1 (by omega), z 2 (by omega), fun H4 e4 => ⟨⟨_, rfl⟩, ?_⟩⟩
    walk_at "rd"
    refine r_ne rfl ?_
    walk_at "rd"
    have es : tS (bI (GX.vl vs 0) (GX.vl vs 1) (GX.vl vs 2)) = tS ys := by rw [ey, ehd]; rfl
    refine ite_f (by rw [es]; simp) ?_
    walk_at "rd"
    have hD4 := e4 _ _ h3'
    refine r_ixL hD4 (v := .int (GX.vl vs 0)) rfl ?_
    walk_at "rd"
    refine r_ixL hD4 (v := .int (GX.vl vs 1)) rfl ?_
    walk_at "rd"
    refine r_ixL hD4 (v := .int (GX.vl vs 2)) rfl ?_
    walk_at "rd"
    refine r_Bound hb.1 fun p2 H5 _ e5 hb5 => ?_
    obtain ⟨dx5, fs5, hi5⟩ := hb5.inst
    have hbp := (hb3.ex e4).ex e5
    obtain ⟨dx6, fs6, hi6⟩ := hbp.inst
    refine ⟨p, dx6, fs6, _, rfl, hi6, ty_own T (by decide) hi5, T.cc_Bound.nf, p, p2, _, _, _, rfl, rfl, hbp, hb5, true, rfl, ?_⟩
    refine ⟨_, rfl, ite_f rfl ?_⟩
    walk_at "rd"
    refine r_bw T hbp ?_
    walk_at "rd"
    refine r_bp T hbp ?_
    walk_at "rd"
    refine r_bu T hbp ?_
    walk_at "rd"
    refine r_newL (sz_le (by simp)) fun L6 H6 _ e6 h6 => ?_
    have h6' : H6 L6 = some (.lst ([GX.vl vs 0, GX.vl vs 1, GX.vl vs 2].map V.int)) := h6
    rw [ehd] at ez
    have sw : Sw 100000 50 (.list ([GX.vl vs 0, GX.vl vs 1, GX.vl vs 2].map PyData.int)) := (Sw.list (sw_ints ez)).mono (by simp) (by decide)
    walk_at "rd"
    refine r_show (.lst (SqL.of h6') (Dats.ints _)) sw ?_
    walk_at "rd"
    refine r_show (.lst (SqL.of (e6 _ _ (e5 _ _ hD4))) (Dats.ints _)) sw ?_
    refine r_eq rfl ?_
    rw [decide_eq_true rfl]
    exact k H6 (ExtN.of (e1.trans (e2.trans (e3.trans (e4.trans (e5.trans e6)))))) (tb1.ext (e2.trans (e3.trans (e4.trans (e5.trans e6)))))

end K02
namespace K02
open PySem PySem.Spec PyProof.Rows L2 GS TL LamX
local macro_rules | `(tactic| walk_at "rd") => `(tactic| (repeat (first
  | with_reducible refine r_next ?_
  | with_reducible refine r_seq ?_
  | with_reducible refine r_ret ?_
  | with_reducible refine r_ifS ?_
  | with_reducible refine r_asg ?_
  | with_reducible refine r_drop ?_
  | with_reducible refine r_op ?_
  | with_reducible refine r_un ?_
  | with_reducible refine r_cbInt ?_
  | with_reducible refine r_cbAbs ?_
  | with_reducible refine r_cbLen ?_
  | with_reducible refine r_cbList ?_
  | with_reducible refine r_cbTup ?_
  | with_reducible refine r_iEnT ?_
  | with_reducible refine r_iEnL ?_
  | with_reducible refine r_zipA ?_
  | with_reducible refine r_zipX ?_
  | with_reducible refine r_augS ?_
  | with_reducible refine r_cb ?_
  | with_reducible refine r_call ?_
  | with_reducible refine r_make ?_
  | with_reducible refine r_callN0 ?_
  | with_reducible refine r_makeK0 ?_
  | with_reducible refine r_makeS ?_
  | with_reducible refine r_callS ?_
  | with_reducible refine r_cons ?_
  | with_reducible refine r_nil ?_
  | with_reducible refine r_test ?_
  | with_reducible refine r_B ?_
  | with_reducible refine r_and ?_
  | with_reducible refine r_or ?_
  | with_reducible refine r_not ?_
  | with_reducible refine r_andV ?_
  | with_reducible refine r_orV ?_
  | with_reducible refine r_notV ?_
  | with_reducible refine r_if ?_
  | with_reducible refine r_tup ?_
  | with_reducible refine r_lst ?_
  | with_reducible refine r_c ?_
  | with_reducible refine r_lc ?_
  | with_reducible refine r_chain ?_
  | with_reducible refine r_iT ?_
  | with_reducible refine r_iL ?_
  | with_reducible refine r_iR1 ?_
  | with_reducible refine r_iR2 ?_
  | with_reducible refine r_iR3 ?_
  | with_reducible refine r_asgG ?_
  | with_reducible refine r_gSub ?_
  | with_reducible refine r_for ?_
  | with_reducible refine r_smeth ?_
  | with_reducible refine r_par ?_
  | with_reducible refine r_parK ?_
  | with_reducible refine r_gCons ?_
  | with_reducible refine r_gNil ?_
  | with_reducible refine r_gName ?_
  | with_reducible refine r_intI ?_
  | with_reducible refine r_intB ?_
  | with_reducible refine r_absI ?_
  | with_reducible refine r_k ?_
  | with_reducible refine r_kV ?_
  | ((with_reducible show tVar _ _ _ _); refine r_var3 ?_ (by rfl))
  | with_reducible refine r_I0 ?_
  | with_reducible refine r_U ?_
  | with_reducible refine r_eqI ?_
  | with_reducible refine r_neI ?_
  | dsimp only)))
local macro_rules | `(tactic| walk_at "rx") => `(tactic| (repeat (first
  | with_reducible refine r_next ?_
  | with_reducible refine r_ret ?_
  | with_reducible refine r_ifS ?_
  | with_reducible refine r_asg ?_
  | with_reducible refine r_drop ?_
  | with_reducible refine r_op ?_
  | with_reducible refine r_un ?_
  | with_reducible refine r_cbInt ?_
  | with_reducible refine r_cbAbs ?_
  | with_reducible refine r_cbLen ?_
  | with_reducible refine r_cbList ?_
  | with_reducible refine r_cbTup ?_
  | with_reducible refine r_iEnT ?_
  | with_reducible refine r_iEnL ?_
  | with_reducible refine r_zipA ?_
  | with_reducible refine r_zipX ?_
  | with_reducible refine r_augS ?_
  | with_reducible refine r_cb ?_
  | with_reducible refine r_call ?_
  | with_reducible refine r_make ?_
  | with_reducible refine r_callN0 ?_
  | with_reducible refine r_makeK0 ?_
  | with_reducible refine r_makeS ?_
  | with_reducible refine r_callS ?_
  | with_reducible refine r_cons ?_
  | with_reducible refine r_nil ?_
  | with_reducible refine r_test ?_
  | with_reducible refine r_B ?_
  | with_reducible refine r_and ?_
  | with_reducible refine r_or ?_
  | with_reducible refine r_not ?_
  | with_reducible refine r_andV ?_
  | with_reducible refine r_orV ?_
  | with_reducible refine r_notV ?_
  | with_reducible refine r_if ?_
  | with_reducible refine r_tup ?_
  | with_reducible refine r_lst ?_
  | with_reducible refine r_c ?_
  | with_reducible refine r_lc ?_
  | with_reducible refine r_chain ?_
  | with_reducible refine r_iT ?_
  | with_reducible refine r_iL ?_
  | with_reducible refine r_iR1 ?_
  | with_reducible refine r_iR2 ?_
  | with_reducible refine r_iR3 ?_
  | with_reducible refine r_asgG ?_
  | with_reducible refine r_gSub ?_
  | with_reducible refine r_for ?_
  | with_reducible refine r_smeth ?_
  | with_reducible refine r_par ?_
  | with_reducible refine r_parK ?_
  | with_reducible refine r_gCons ?_
  | with_reducible refine r_gNil ?_
  | with_reducible refine r_gName ?_
  | with_reducible refine r_intI ?_
  | with_reducible refine r_intB ?_
  | with_reducible refine r_absI ?_
  | with_reducible refine r_k ?_
  | with_reducible refine r_kV ?_
  | ((with_reducible show tVar _ _ _ _); refine r_var3 ?_ (by rfl))
  | with_reducible refine r_I0 ?_
  | with_reducible refine r_U ?_
  | with_reducible refine r_eqI ?_
  | with_reducible refine r_neI ?_
  | dsimp only)))
def spPRight (K : PySem.W.Frag) : Sp := sp1 fun v H Q _ => ∃ (q : Addr) (ys : List Str) (vs : List (Option Int)), v = .ref q ∧ H q = some (.lst (ys.map V.str)) ∧ Tx ys vs ∧ Tabs (lamT K) H ∧ ∀ H', ExtN H H' → Tabs (lamT K) H' → Q (.bl true) H'
theorem r_reprI {K : PySem.W.Frag} {H : Hp} {a t : Addr} {ns : List Int} {n : Int} (ha : H a = some (.tup [.ref t, .int n])) (ht : H t = some (.tup (ns.map V.int))) : Dat K H (.ref a) (.tuple [.tuple (ns.map PyData.int), .int n]) := .tup (SqT.of ha) (.cons (.tup (SqT.of ht) (Dats.ints ns)) (.cons (.int n) .nil))
theorem ok__law_poly_right {P : Program} {w : World} {K : PySem.W.Frag} {mg : Str → Option Value} {base : Heap} (T : Txt K mg) (tb : TabB base mg (He.cT K ("_law_poly_right", none)).1 (He.cT K ("_law_poly_right", none)).2) : ∃ fd, FnG P w K mg base (L2.CX P w) 10 (He.ga K "_law_poly_right") fd ["items"] (spPRight K) ∧ Binds K fd ["items"] [] := by
  obtain ⟨fd, F⟩ := T.d__law_poly_right
  obtain ⟨fd_Poly_eq, F_Poly_eq, B_Poly_eq⟩ := ok_Poly_eq (P := P) (w := w) (base := base) T
  obtain ⟨fd_Poly_init, F_Poly_init, B_Poly_init⟩ := ok_Poly_init (P := P) (w := w) (base := base) T
  obtain ⟨fd_Poly_str, F_Poly_str, B_Poly_str⟩ := ok_Poly_str (P := P) (w := w) (base := base) T
  obtain ⟨fd_Poly_read, F_Poly_read, B_Poly_read, kb_Poly_read_0⟩ := ok_Poly_read (P := P) (w := w) (base := base) T
  obtain ⟨fd__law_poly_stop, F__law_poly_stop, B__law_poly_stop⟩ := ok__law_poly_stop (P := P) (w := w) (base := base) T
  obtain ⟨fd__law_heard, FD__law_heard⟩ := T.d__law_heard
  refine ⟨fd, okL (p := ("_law_poly_right", none)) rfl F sc__law_poly_right sp1_len (fun cdv A outer s H vs Q E cdE quiet hr h => ?_), F.bindsN fun _ _ _ _ _ _ us hl => match us, hl with | [_], _ => rfl⟩
  have hr_Poly_eq : Room 1 _ := hr.mono (by decide)
  have hr_Poly_init : Room 4 _ := hr.mono (by decide)
  have hr_Poly_str : Room 4 _ := hr.mono (by decide)
  have hr_Poly_read : Room 5 _ := hr.mono (by decide)
  have hr__law_poly_stop : Room 2 _ := hr.mono (by decide)
  obtain ⟨v, rfl, q, ys, vs, rfl, hq, tx, tabs, k⟩ := sp1_is h
  refine ⟨_, (pss_cons (ps_asg (pe_tup (pa_cons (pe_join pe_str (pv 0)) (pa_cons (pe_call F__law_poly_stop hr__law_poly_stop (by rfl) T.g__law_poly_stop T.k__law_poly_stop B__law_poly_stop .nil passL (pa_cons (pv 0) pa_nil)) pa_nil))) (pg_tup rfl (pgs_cons (pg_name (i := 1) sc__law_poly_right.nd rfl (Or.inr rfl)) (pgs_cons (pg_name (i := 2) sc__law_poly_right.nd rfl (Or.inl rfl)) pgs_nil))))
      (pss_cons (ps_if (pt_cmpR op_notN (pv 2) pe_non (nomark _)) (pss_one (ps_ret (pe_cmpR (op_eqD hr.units) (pe_lamT (T := lamT K) (k := 7) (TT := TTHeard K) (by rfl) T.g__law_heard T.k__law_heard FD__law_heard (FD__law_heard.bindsN fun _ _ _ _ _ _ us hl => match us, hl with | [_], _ => rfl) sc__law_heard rfl (Or.inl rfl) (fun cdg => gives__law_heard T) tb cdE (lam_mem__law_poly_right K) (lam_uq__law_poly_right T) (hr.mono (by decide)) (lamS_by (by rfl)) rfl (fun _ _ _ _ _ => rfl) (fun A outer s H E f c' hrL => (pe_smeth (pe_glob (v := .ref (He.ga K "Poly")) rfl T.g_Poly rfl) T.sm_Poly_read.2.1 T.sm_Poly_read.1 F_Poly_read T.sm_Poly_read.2.2 (hrL.mono (by decide)) B_Poly_read (passes_call (takes_of rfl rfl rfl rfl) (fun _ _ _ _ h => h)) (pa_cons (pv 1) pa_nil)))) (pe_tup (pa_cons pe_int (pa_cons (pv 2) pa_nil))) (nomark _)))) pss_nil)
      (pss_cons (ps_par (i := 3) (j := 4) (by rfl) sc__law_poly_right.nd rfl rfl (by decide) rfl rfl (pa_cons (pe_smethK0 (pe_glob (v := .ref (He.ga K "Poly")) rfl T.g_Poly rfl) T.sm_Poly_read.2.1 T.sm_Poly_read.1 F_Poly_read T.sm_Poly_read.2.2 hr_Poly_read kb_Poly_read_0 passL (pk_cons (pv 1) pk_nil)) (pa_cons (pe_lc (own := [("item", 5)]) (g := gName 5) (tt := tYes)  rfl sc__law_poly_right.nd (pi_list (pv 0)) (blkOk_by (own := [("item", 5)]) (N := ["items", "text", "stop", "told", "numbers", "item"]) (sc := defScope s__law_poly_right) (by decide +kernel)) (fun _ _ _ _ _ => (pg_name (i := 5) sc__law_poly_right.nd rfl (Or.inl rfl))) (fun _ _ _ _ _ => pts_nil) (fun _ _ _ _ _ => (pe_callTy call_int_str (by rfl) T.b_int (by decide +kernel) (pa_cons (pv 5) pa_nil)))) pa_nil)) (by rfl))
      (pss_one (ps_ret (pe_and (pe_cmpR op_eq (pe_callTy (call_strOwn F_Poly_str hr_Poly_str T.me_Poly_str.at_ T.me_Poly_str.fn B_Poly_str passL) (by rfl) T.b_str (by decide +kernel) (pa_cons (pv 3) pa_nil)) (pv 1) (nomark _)) (pe_and (pe_cmpR (op_eqOwn F_Poly_eq hr_Poly_eq T.me_Poly_eq.at_ T.me_Poly_eq.fn B_Poly_eq passL) (pv 3) (pe_make T.mk_Poly F_Poly_init hr_Poly_init (by rfl) T.g_Poly B_Poly_init .nil passL (pa_cons (pv 4) pa_nil)) (nomark _)) (pe_one (pe_cmpR op_eq (pe_callB (cr_show quiet hr.units) (by rfl) T.b_repr (by decide +kernel) (pa_cons (pe_tup (pa_cons (kx_fld rfl (pv 3) rfl) (pa_cons (kx_fld rfl (pv 3) rfl) pa_nil))) pa_nil)) (pe_callB (cr_show quiet hr.units) (by rfl) T.b_repr (by decide +kernel) (pa_cons (pe_tup (pa_cons (pe_callTy (kx_tupOf (K := K) rfl) (by rfl) T.b_tuple (by decide +kernel) (pa_cons (pv 4) pa_nil)) (pa_cons (pe_op op_sub (pe_callB (kx_lens rfl) (by rfl) T.b_len PySem.boot_len (pa_cons (pv 4) pa_nil)) pe_int) pa_nil))) pa_nil)) (nomark _)))))))))), ?_⟩
  have fgs : (ys.map fun x => x.length).sum + ys.length * 1 ≤ 16777216 := by
    have := tx.fg
    unfold figs at this
    omega
  walk_at "rx"
  refine r_seqJ (fun σ' H' => Ex H H' ∧ σ' = [some (.ref q), some (.str (tS ys)), some (oV (GX.pStop vs)), none, none, none]) (fun N hN => ?_) ?_
  · walk_at "rx"
    refine ⟨⟨_, rfl⟩, ?_⟩
    walk_at "rx"
    refine ⟨_, q, ys, rfl, rfl, .inl (SqL.of hq), fgs, ?_⟩
    walk_at "rx"
    refine ⟨q, ys, vs, rfl, hq, tx, fun H1 e1 => ?_⟩
    walk_at "rx"
    refine r_newT (sz_le (by simp)) fun t0 H2 _ e2 h2 => ?_
    refine r_gTup h2 rfl (r_gCons (r_gName (r_gCons (r_gName (r_gNil ?_)))))
    exact hN _ _ ⟨e1.trans e2, rfl⟩
  rintro σ' H1 ⟨e1, rfl⟩
  have tb1 := tabs.ext e1
  have hq1 := e1 _ _ hq
  cases hst : GX.pStop vs with
  | some j =>
    walk_at "rd"
    refine ⟨rfl, _, rfl, ite_t (by simp [oV]) ?_⟩
    walk_at "rx"
    refine r_lam tb1 fun H2 e2 tb2 => ⟨j, fun Qn => ?_⟩
    walk_at "rx"
    refine .inl ⟨ys, vs, rfl, tx, fun j' hj' => ?_, fun hn => by rw [hst] at hn; cases hn⟩
    rw [hst] at hj'
    cases hj'
    refine stop_heard fun t H3 e3 ht => ?_
    walk_at "rx"
    refine r_newT (sz_le (by simp)) fun t2 H4 _ e4 ht2 => ?_
    refine r_eqInts (xs := [0, (j : Int)]) (ys := [0, (j : Int)]) (e4 _ _ ht) ht2 ?_
    rw [decide_eq_true rfl]
    exact k H4 ((ExtN.of e1).trans (e2.trans (ExtN.of (e3.trans e4)))) (tb2.ext (e3.trans e4))
  | none =>
    obtain ⟨l64, all⟩ := GX.pStop_none hst
    walk_at "rd"
    refine ⟨rfl, _, rfl, ite_f (by simp [oV]) ?_⟩
    walk_at "rd"
    have l0 : 0 < vs.length := by rw [← tx.vlen]; exact List.length_pos_iff.mpr tx.ne
    have okall : ∀ k, k < vs.length → ∃ l m, GX.okJ vs k l m = true := fun k hk => ⟨_, _, all k hk⟩
    obtain ⟨ey, ez⟩ := its_all tx.S okall
    refine ⟨rfl, ?_⟩
    walk_at "rd"
    refine ⟨rfl, ?_⟩
    refine .inl ⟨ys, vs, rfl, tx, fun j hj => (by rw [hst] at hj; cases hj), fun _ p H2 e2 hb => ?_⟩
    have hq2 := e2 _ _ hq1
    walk_at "rd"
    refine ⟨q, rfl, ⟨_, SqL.of hq2⟩, ?_⟩
    refine r_lcM (n := ys.length) (k := 5) (by simpa using walk_list (xs := ys.map V.str)) (fun j => .int (GX.vl vs j)) (by have := tx.many; omega) (fun H' e => SqL.of (e _ _ hq2)) (fun _ => rfl) ?_ ?_
    · rintro j y H0 H' hj e0 ⟨rfl, hy⟩
      refine ⟨Ex.refl _, fun H3 e3 R r => ?_⟩
      obtain ⟨l, m, ok⟩ := okall j (by rw [← tx.vlen]; exact hj)
      obtain ⟨hz1, hz2⟩ := its_at tx.S ok
      rw [List.getElem?_map, hz1] at hy
      cases hy
      walk_at "rd"
      exact ⟨_, _, rfl, (nS_I hz2).1, (nS_I hz2).2, r H3 (Ex.refl _)⟩
    intro D H3 hD e3 h3
    have h3' : H3 D = some (.lst ((hd vs vs.length).map V.int)) := by
      rw [h3, tx.vlen]
      simp [hd]
    have hb3 := hb.ex e3
    obtain ⟨dx, fs, hi⟩ := hb3.inst
    walk_at "rd"
    refine ⟨p, dx, fs, rfl, hi, p, _, rfl, hb3, ez, fun H4 e4 => ⟨⟨_, rfl⟩, ?_⟩⟩
    walk_at "rd"
    refine r_eq rfl ?_
    walk_at "rd"
    refine ite_t (by rw [← ey]; simp) ?_
    walk_at "rd"
    have hD4 := e4 _ _ h3'
    have okn : okN (hd vs vs.length) := ⟨by rw [hd_len]; omega, by rw [hd_len]; omega, by
      rw [hd_head vs (by omega)]
      have := ib_le (GX.okJ_is (show GX.okJ vs 0 (some 1) none = true from all 0 l0)).2
      omega⟩
    refine r_Poly ⟨D, rfl, .inl hD4⟩ okn fun p2 H5 _ e5 hb5 => ?_
    obtain ⟨dx5, fs5, hi5⟩ := hb5.inst
    have hbp := (hb3.ex e4).ex e5
    obtain ⟨dx6, fs6, hi6⟩ := hbp.inst
    refine ⟨p, dx6, fs6, _, rfl, hi6, ty_own T (by decide) hi5, T.cc_Poly.nf, p, p2, _, rfl, rfl, hbp, hb5, ?_⟩
    refine ⟨_, rfl, ite_t rfl ?_⟩
    walk_at "rd"
    refine r_fn T hbp fun t5 h5 => ?_
    walk_at "rd"
    refine r_fd T hbp ?_
    walk_at "rd"
    refine r_newT (sz_le (by simp)) fun L6 H6 _ e6 h6 => ?_
    walk_at "rd"
    have sw : Sw 100000 50 (.tuple [.tuple ((hd vs vs.length).map PyData.int), .int (((hd vs vs.length).length : Int) - 1)]) := by
      have l1 := hd_len vs vs.length
      refine (Sw.tup (n := 5000) (k := 1) fun d hd' => ?_).mono (by simp) (by decide)
      simp only [List.mem_cons, List.mem_nil_iff, or_false] at hd'
      rcases hd' with rfl | rfl
      · exact (Sw.tup (sw_ints ez)).mono (by rw [List.length_map, l1]; omega) (by decide)
      · exact (Sw.int (k := 1) (by
          have : (10 : Nat) ^ 60 = 1000000000000000000000000000000000000000000000000000000000000 := rfl
          omega)).mono (by decide) (by decide)
    refine r_show (r_reprI h6 (e6 _ _ h5)) sw ?_
    walk_at "rd"
    have hD6 := e6 _ _ (e5 _ _ hD4)
    refine r_tupL (SqL.of hD6) fun l7 H7 _ e7 h7 => ?_
    walk_at "rd"
    refine ⟨D, _, rfl, .inl (SqL.of (e7 _ _ hD6)), ?_⟩
    walk_at "rd"
    rw [List.length_map]
    refine r_newT (sz_le (by simp)) fun L8 H8 _ e8 h8 => ?_
    walk_at "rd"
    refine r_show (r_reprI h8 (e8 _ _ h7)) sw ?_
    refine r_eq rfl ?_
    rw [decide_eq_true rfl]
    exact k H8 (ExtN.of (e1.trans (e2.trans (e3.trans (e4.trans (e5.trans (e6.trans (e7.trans e8)))))))) (tb1.ext (e2.trans (e3.trans (e4.trans (e5.trans (e6.trans (e7.trans e8)))))))

end K02
namespace K02
open PySem PySem.Spec PyProof.Rows L2 GS TL LamX
local macro_rules | `(tactic| walk_at "rd") => `(tactic| (repeat (first
  | with_reducible refine r_next ?_
  | with_reducible refine r_seq ?_
  | with_reducible refine r_ret ?_
  | with_reducible refine r_ifS ?_
  | with_reducible refine r_asg ?_
  | with_reducible refine r_drop ?_
  | with_reducible refine r_op ?_
  | with_reducible refine r_un ?_
  | with_reducible refine r_cbInt ?_
  | with_reducible refine r_cbAbs ?_
  | with_reducible refine r_cbLen ?_
  | with_reducible refine r_cbList ?_
  | with_reducible refine r_cbTup ?_
  | with_reducible refine r_iEnT ?_
  | with_reducible refine r_iEnL ?_
  | with_reducible refine r_zipA ?_
  | with_reducible refine r_zipX ?_
  | with_reducible refine r_augS ?_
  | with_reducible refine r_cb ?_
  | with_reducible refine r_call ?_
  | with_reducible refine r_make ?_
  | with_reducible refine r_callN0 ?_
  | with_reducible refine r_makeK0 ?_
  | with_reducible refine r_makeS ?_
  | with_reducible refine r_callS ?_
  | with_reducible refine r_cons ?_
  | with_reducible refine r_nil ?_
  | with_reducible refine r_test ?_
  | with_reducible refine r_B ?_
  | with_reducible refine r_and ?_
  | with_reducible refine r_or ?_
  | with_reducible refine r_not ?_
  | with_reducible refine r_andV ?_
  | with_reducible refine r_orV ?_
  | with_reducible refine r_notV ?_
  | with_reducible refine r_if ?_
  | with_reducible refine r_tup ?_
  | with_reducible refine r_lst ?_
  | with_reducible refine r_c ?_
  | with_reducible refine r_lc ?_
  | with_reducible refine r_chain ?_
  | with_reducible refine r_iT ?_
  | with_reducible refine r_iL ?_
  | with_reducible refine r_iR1 ?_
  | with_reducible refine r_iR2 ?_
  | with_reducible refine r_iR3 ?_
  | with_reducible refine r_asgG ?_
  | with_reducible refine r_gSub ?_
  | with_reducible refine r_for ?_
  | with_reducible refine r_smeth ?_
  | with_reducible refine r_par ?_
  | with_reducible refine r_parK ?_
  | with_reducible refine r_gCons ?_
  | with_reducible refine r_gNil ?_
  | with_reducible refine r_gName ?_
  | with_reducible refine r_intI ?_
  | with_reducible refine r_intB ?_
  | with_reducible refine r_absI ?_
  | with_reducible refine r_k ?_
  | with_reducible refine r_kV ?_
  | ((with_reducible show tVar _ _ _ _); refine r_var3 ?_ (by rfl))
  | with_reducible refine r_I0 ?_
  | with_reducible refine r_U ?_
  | with_reducible refine r_eqI ?_
  | with_reducible refine r_neI ?_
  | dsimp only)))
local macro_rules | `(tactic| walk_at "rx") => `(tactic| (repeat (first
  | with_reducible refine r_next ?_
  | with_reducible refine r_ret ?_
  | with_reducible refine r_ifS ?_
  | with_reducible refine r_asg ?_
  | with_reducible refine r_drop ?_
  | with_reducible refine r_op ?_
  | with_reducible refine r_un ?_
  | with_reducible refine r_cbInt ?_
  | with_reducible refine r_cbAbs ?_
  | with_reducible refine r_cbLen ?_
  | with_reducible refine r_cbList ?_
  | with_reducible refine r_cbTup ?_
  | with_reducible refine r_iEnT ?_
  | with_reducible refine r_iEnL ?_
  | with_reducible refine r_zipA ?_
  | with_reducible refine r_zipX ?_
  | with_reducible refine r_augS ?_
  | with_reducible refine r_cb ?_
  | with_reducible refine r_call ?_
  | with_reducible refine r_make ?_
  | with_reducible refine r_callN0 ?_
  | with_reducible refine r_makeK0 ?_
  | with_reducible refine r_makeS ?_
  | with_reducible refine r_callS ?_
  | with_reducible refine r_cons ?_
  | with_reducible refine r_nil ?_
  | with_reducible refine r_test ?_
  | with_reducible refine r_B ?_
  | with_reducible refine r_and ?_
  | with_reducible refine r_or ?_
  | with_reducible refine r_not ?_
  | with_reducible refine r_andV ?_
  | with_reducible refine r_orV ?_
  | with_reducible refine r_notV ?_
  | with_reducible refine r_if ?_
  | with_reducible refine r_tup ?_
  | with_reducible refine r_lst ?_
  | with_reducible refine r_c ?_
  | with_reducible refine r_lc ?_
  | with_reducible refine r_chain ?_
  | with_reducible refine r_iT ?_
  | with_reducible refine r_iL ?_
  | with_reducible refine r_iR1 ?_
  | with_reducible refine r_iR2 ?_
  | with_reducible refine r_iR3 ?_
  | with_reducible refine r_asgG ?_
  | with_reducible refine r_gSub ?_
  | with_reducible refine r_for ?_
  | with_reducible refine r_smeth ?_
  | with_reducible refine r_par ?_
  | with_reducible refine r_parK ?_
  | with_reducible refine r_gCons ?_
  | with_reducible refine r_gNil ?_
  | with_reducible refine r_gName ?_
  | with_reducible refine r_intI ?_
  | with_reducible refine r_intB ?_
  | with_reducible refine r_absI ?_
  | with_reducible refine r_k ?_
  | with_reducible refine r_kV ?_
  | ((with_reducible show tVar _ _ _ _); refine r_var3 ?_ (by rfl))
  | with_reducible refine r_I0 ?_
  | with_reducible refine r_U ?_
  | with_reducible refine r_eqI ?_
  | with_reducible refine r_neI ?_
  | dsimp only)))
def spWRight (K : PySem.W.Frag) : Sp := sp1 fun v H Q _ => ∃ (q : Addr) (ys : List Str) (vs : List (Option Int)), v = .ref q ∧ H q = some (.lst (ys.map V.str)) ∧ Tx ys vs ∧ Tabs (lamT K) H ∧ ∀ H', ExtN H H' → Tabs (lamT K) H' → Q (.bl true) H'
theorem dats_ps {K : PySem.W.Frag} {H : Hp} : ∀ {ts : List Addr} {ps : List (Int × Int)}, TP H ts ps → Dats K H (ts.map V.ref) (ps.map dPair)
  | [], [], _ => .nil
  | t :: ts, p :: ps, h => .cons (.tup (SqT.of (h.2 0 t p rfl rfl)) (.cons (.int _) (.cons (.int _) .nil))) (dats_ps ⟨by simpa using h.1, fun j u q h1 h2 => h.2 (j + 1) u q (by simpa using h1) (by simpa using h2)⟩)
  | [], _ :: _, h => by have := h.1; simp at this
  | _ :: _, [], h => by have := h.1; simp at this
theorem r_reprW {K : PySem.W.Frag} {H : Hp} {a t : Addr} {ts : List Addr} {ps : List (Int × Int)} {n : Int} (ha : H a = some (.tup [.int n, .ref t])) (ht : H t = some (.tup (ts.map V.ref))) (tp : TP H ts ps) : Dat K H (.ref a) (.tuple [.int n, dPs ps]) := .tup (SqT.of ha) (.cons (.int n) (.cons (.tup (SqT.of ht) (dats_ps tp)) .nil))
/-- the items of a web that is read -/
theorem web_items {ys : List Str} {vs : List (Option Int)} {m : Nat} (hi : ItS ys vs) (hc : ys[1]? = some (Str.ofString ":")) (g0 : GX.okJ vs 0 (some 1) (some 60) = true) (hl : vs.length = 2 + 2 * m) (all : ∀ k, k < m → GX.okJ vs (2 + 2 * k) (some 0) none = true ∧ GX.okJ vs (3 + 2 * k) (some 0) none = true) : ys = wI (GX.vl vs 0) (GX.wPs vs m) ∧ wz (GX.wPs vs m) := by
  have key : ∀ i, i ≤ m → ys.take (2 + 2 * i) = wI (GX.vl vs 0) (GX.wPs vs i) := by
    intro i
    induction i with
    | zero =>
      intro _
      have l2 : 2 ≤ ys.length := by rw [hi.1]; omega
      have e0 := (its_at hi g0).1
      match ys, l2, e0, hc with
      | a :: b :: r, _, e0, hc =>
        have e0 : a = nS (GX.vl vs 0) := Option.some.inj e0
        have hc : b = Str.ofString ":" := Option.some.inj hc
        rw [e0, hc]
        rfl
    | succ i ih =>
      intro him
      obtain ⟨a1, a2⟩ := all i (by omega)
      rw [show 2 + 2 * (i + 1) = 2 + 2 * i + 1 + 1 by omega, List.take_add_one, List.take_add_one, ih (by omega), (its_at hi a1).1]
      rw [show 2 + 2 * i + 1 = 3 + 2 * i by omega, (its_at hi a2).1, GX.wPs_succ]
      simp [wI]
  refine ⟨?_, fun p hp => ?_⟩
  · rw [← key m (Nat.le_refl _), List.take_of_length_le (by rw [hi.1]; omega)]
  · obtain ⟨k, hk, rfl⟩ := List.mem_map.mp hp
    obtain ⟨a1, a2⟩ := all k (List.mem_range.mp hk)
    exact ⟨(its_at hi a1).2, (its_at hi a2).2⟩
theorem tp_of {H : Hp} {ys : List V} {ps : List (Int × Int)} {n : Nat} (hn : ps.length = n) (hl : ys.length = n) (h : ∀ (i : Nat) (y : V), ys[i]? = some y → ∃ t, y = .ref t ∧ H t = some (.tup [.int (ps.getD i (0, 0)).1, .int (ps.getD i (0, 0)).2])) : ∃ ts : List Addr, ys = ts.map V.ref ∧ TP H ts ps := by
  have e : ys = (ys.map fun x => match x with | .ref t => t | _ => 0).map V.ref := by
    refine List.ext_getElem (by simp) fun i h1 h2 => ?_
    obtain ⟨t, ht, _⟩ := h i ys[i] (by simp [h1])
    simp [ht]
  refine ⟨_, e, by rw [List.length_map, hl, hn], fun j t r ht hr => ?_⟩
  have hj : j < ys.length := by rw [hl, ← hn]; exact (List.getElem?_eq_some_iff.mp hr).1
  obtain ⟨t', h1, h2⟩ := h j ys[j] (by simp [hj])
  rw [List.getElem?_map, List.getElem?_eq_getElem hj, h1] at ht
  cases ht
  rw [List.getD_eq_getElem?_getD, hr] at h2
  exact h2
theorem ok__law_web_right {P : Program} {w : World} {K : PySem.W.Frag} {mg : Str → Option Value} {base : Heap} (T : Txt K mg) (tb : TabB base mg (He.cT K ("_law_web_right", none)).1 (He.cT K ("_law_web_right", none)).2) : ∃ fd, FnG P w K mg base (L2.CX P w) 10 (He.ga K "_law_web_right") fd ["items"] (spWRight K) ∧ Binds K fd ["items"] [] := by
  obtain ⟨fd, F⟩ := T.d__law_web_right
  obtain ⟨fd_Web_eq, F_Web_eq, B_Web_eq⟩ := ok_Web_eq (P := P) (w := w) (base := base) T
  obtain ⟨fd_Web_init, F_Web_init, B_Web_init⟩ := ok_Web_init (P := P) (w := w) (base := base) T
  obtain ⟨fd_Web_str, F_Web_str, B_Web_str⟩ := ok_Web_str (P := P) (w := w) (base := base) T
  obtain ⟨fd_Web_read, F_Web_read, B_Web_read, kb_Web_read_0⟩ := ok_Web_read (P := P) (w := w) (base := base) T
  obtain ⟨fd__law_web_stop, F__law_web_stop, B__law_web_stop⟩ := ok__law_web_stop (P := P) (w := w) (base := base) T
  obtain ⟨fd__law_heard, FD__law_heard⟩ := T.d__law_heard
  refine ⟨fd, okL (p := ("_law_web_right", none)) rfl F sc__law_web_right sp1_len (fun cdv A outer s H vs Q E cdE quiet hr h => ?_), F.bindsN fun _ _ _ _ _ _ us hl => match us, hl with | [_], _ => rfl⟩
  have hr_Web_eq : Room 1 _ := hr.mono (by decide)
  have hr_Web_init : Room 6 _ := hr.mono (by decide)
  have hr_Web_str : Room 3 _ := hr.mono (by decide)
  have hr_Web_read : Room 7 _ := hr.mono (by decide)
  have hr__law_web_stop : Room 2 _ := hr.mono (by decide)
  obtain ⟨v, rfl, q, ys, vs, rfl, hq, tx, tabs, k⟩ := sp1_is h
  refine ⟨_, (pss_cons (ps_asg (pe_tup (pa_cons (pe_join pe_str (pv 0)) (pa_cons (pe_call F__law_web_stop hr__law_web_stop (by rfl) T.g__law_web_stop T.k__law_web_stop B__law_web_stop .nil passL (pa_cons (pv 0) pa_nil)) pa_nil))) (pg_tup rfl (pgs_cons (pg_name (i := 1) sc__law_web_right.nd rfl (Or.inr rfl)) (pgs_cons (pg_name (i := 2) sc__law_web_right.nd rfl (Or.inl rfl)) pgs_nil))))
      (pss_cons (ps_if (pt_cmpR op_notN (pv 2) pe_non (nomark _)) (pss_one (ps_ret (pe_cmpR (op_eqD hr.units) (pe_lamT (T := lamT K) (k := 7) (TT := TTHeard K) (by rfl) T.g__law_heard T.k__law_heard FD__law_heard (FD__law_heard.bindsN fun _ _ _ _ _ _ us hl => match us, hl with | [_], _ => rfl) sc__law_heard rfl (Or.inl rfl) (fun cdg => gives__law_heard T) tb cdE (lam_mem__law_web_right K) (lam_uq__law_web_right T) (hr.mono (by decide)) (lamS_by (by rfl)) rfl (fun _ _ _ _ _ => rfl) (fun A outer s H E f c' hrL => (pe_smeth (pe_glob (v := .ref (He.ga K "Web")) rfl T.g_Web rfl) T.sm_Web_read.2.1 T.sm_Web_read.1 F_Web_read T.sm_Web_read.2.2 (hrL.mono (by decide)) B_Web_read (passes_call (takes_of rfl rfl rfl rfl) (fun _ _ _ _ h => h)) (pa_cons (pv 1) pa_nil)))) (pe_tup (pa_cons pe_int (pa_cons (pv 2) pa_nil))) (nomark _)))) pss_nil)
      (pss_cons (ps_par (i := 3) (j := 4) (by rfl) sc__law_web_right.nd rfl rfl (by decide) rfl rfl (pa_cons (pe_smethK0 (pe_glob (v := .ref (He.ga K "Web")) rfl T.g_Web rfl) T.sm_Web_read.2.1 T.sm_Web_read.1 F_Web_read T.sm_Web_read.2.2 hr_Web_read kb_Web_read_0 passL (pk_cons (pv 1) pk_nil)) (pa_cons (pe_lc (own := [("at", 5)]) (g := gName 5) (tt := tYes)  rfl sc__law_web_right.nd (pi_range3 (by rfl) T.b_range (pa_cons pe_int (pa_cons (pe_callB (kx_lens rfl) (by rfl) T.b_len PySem.boot_len (pa_cons (pv 0) pa_nil)) (pa_cons pe_int pa_nil)))) (blkOk_by (own := [("at", 5)]) (N := ["items", "text", "stop", "told", "ties", "at"]) (sc := defScope s__law_web_right) (by decide +kernel)) (fun _ _ _ _ _ => (pg_name (i := 5) sc__law_web_right.nd rfl (Or.inl rfl))) (fun _ _ _ _ _ => pts_nil) (fun _ _ _ _ _ => (pe_tup (pa_cons (pe_callTy call_int_str (by rfl) T.b_int (by decide +kernel) (pa_cons (pe_ix (kx_ixl rfl) (pv 0) (pv 5) (fun _ _ => rfl)) pa_nil)) (pa_cons (pe_callTy call_int_str (by rfl) T.b_int (by decide +kernel) (pa_cons (pe_ix (kx_ixl rfl) (pv 0) (pe_op op_add (pv 5) pe_int) (fun _ _ => rfl)) pa_nil)) pa_nil))))) pa_nil)) (by rfl))
      (pss_one (ps_ret (pe_and (pe_cmpR op_eq (pe_callTy (call_strOwn F_Web_str hr_Web_str T.me_Web_str.at_ T.me_Web_str.fn B_Web_str passL) (by rfl) T.b_str (by decide +kernel) (pa_cons (pv 3) pa_nil)) (pv 1) (nomark _)) (pe_and (pe_cmpR (op_eqOwn F_Web_eq hr_Web_eq T.me_Web_eq.at_ T.me_Web_eq.fn B_Web_eq passL) (pv 3) (pe_make T.mk_Web F_Web_init hr_Web_init (by rfl) T.g_Web B_Web_init .nil passL (pa_cons (pe_callTy call_int_str (by rfl) T.b_int (by decide +kernel) (pa_cons (pe_ix (kx_ixl rfl) (pv 0) pe_int (fun _ _ => rfl)) pa_nil)) (pa_cons (pv 4) pa_nil))) (nomark _)) (pe_one (pe_cmpR op_eq (pe_callB (cr_show quiet hr.units) (by rfl) T.b_repr (by decide +kernel) (pa_cons (pe_tup (pa_cons (kx_fld rfl (pv 3) rfl) (pa_cons (kx_fld rfl (pv 3) rfl) pa_nil))) pa_nil)) (pe_callB (cr_show quiet hr.units) (by rfl) T.b_repr (by decide +kernel) (pa_cons (pe_tup (pa_cons (pe_callTy call_int_str (by rfl) T.b_int (by decide +kernel) (pa_cons (pe_ix (kx_ixl rfl) (pv 0) pe_int (fun _ _ => rfl)) pa_nil)) (pa_cons (pe_callTy (kx_tupOf (K := K) rfl) (by rfl) T.b_tuple (by decide +kernel) (pa_cons (pv 4) pa_nil)) pa_nil))) pa_nil)) (nomark _)))))))))), ?_⟩
  have fgs : (ys.map fun x => x.length).sum + ys.length * 1 ≤ 16777216 := by
    have := tx.fg
    unfold figs at this
    omega
  walk_at "rx"
  refine r_seqJ (fun σ' H' => Ex H H' ∧ σ' = [some (.ref q), some (.str (tS ys)), some (oV (GX.wStop vs (colB ys))), none, none, none]) (fun N hN => ?_) ?_
  · walk_at "rx"
    refine ⟨⟨_, rfl⟩, ?_⟩
    walk_at "rx"
    refine ⟨_, q, ys, rfl, rfl, .inl (SqL.of hq), fgs, ?_⟩
    walk_at "rx"
    refine ⟨q, ys, vs, rfl, hq, tx, fun H1 e1 => ?_⟩
    walk_at "rx"
    refine r_newT (sz_le (by simp)) fun t0 H2 _ e2 h2 => ?_
    refine r_gTup h2 rfl (r_gCons (r_gName (r_gCons (r_gName (r_gNil ?_)))))
    exact hN _ _ ⟨e1.trans e2, rfl⟩
  rintro σ' H1 ⟨e1, rfl⟩
  have tb1 := tabs.ext e1
  have hq1 := e1 _ _ hq
  cases hst : GX.wStop vs (colB ys) with
  | some j =>
    walk_at "rd"
    refine ⟨rfl, _, rfl, ite_t (by simp [oV]) ?_⟩
    walk_at "rx"
    refine r_lam tb1 fun H2 e2 tb2 => ⟨j, fun Qn => ?_⟩
    walk_at "rx"
    refine .inl ⟨ys, vs, rfl, tx, fun j' hj' => ?_, fun hn => by rw [hst] at hn; cases hn⟩
    rw [hst] at hj'
    cases hj'
    refine stop_heard fun t H3 e3 ht => ?_
    walk_at "rx"
    refine r_newT (sz_le (by simp)) fun t2 H4 _ e4 ht2 => ?_
    refine r_eqInts (xs := [0, (j : Int)]) (ys := [0, (j : Int)]) (e4 _ _ ht) ht2 ?_
    rw [decide_eq_true rfl]
    exact k H4 ((ExtN.of e1).trans (e2.trans (ExtN.of (e3.trans e4)))) (tb2.ext (e3.trans e4))
  | none =>
    obtain ⟨g0, hc, m, xx, yy, lm, wt⟩ := GX.wStop_none hst
    have hcol : ys[1]? = some (Str.ofString ":") := of_decide_eq_true hc
    obtain ⟨ey, ez⟩ := web_items tx.S hcol g0 lm wt.all
    have n60 := (its_at tx.S g0).2
    have b0 := (GX.okJ_is g0).2
    simp only [GX.ib, Bool.and_eq_true, decide_eq_true_eq] at b0
    have et : tiesOf vs = GX.wPs vs m := by unfold tiesOf; rw [show (vs.length - 2) / 2 = m by omega]
    have m200 : m ≤ 200 := by have := tx.many; rw [tx.vlen] at this; omega
    have lps : (GX.wPs vs m).length = m := by simp [GX.wPs]
    walk_at "rd"
    refine ⟨rfl, _, rfl, ite_f (by simp [oV]) ?_⟩
    walk_at "rd"
    refine ⟨rfl, ?_⟩
    walk_at "rd"
    refine ⟨rfl, ?_⟩
    refine .inl ⟨ys, vs, rfl, tx, fun j hj => (by rw [hst] at hj; cases hj), fun _ p H2 e2 hb => ?_⟩
    rw [et] at hb
    have hq2 := e2 _ _ hq1
    walk_at "rd"
    refine ⟨q, _, rfl, .inl (SqL.of hq2), ?_⟩
    rw [List.length_map, tx.vlen]
    walk_at "rd"
    refine ⟨2, _, 2, _, rfl, rg2 (by have := tx.many; rw [tx.vlen] at this; exact this), ?_⟩
    rw [show (vs.length - 1) / 2 = m by omega]
    refine r_lcI (n := m) (k := 5) walk_rangeC (fun i => [.int ((GX.wPs vs m).getD i (0, 0)).1, .int ((GX.wPs vs m).getD i (0, 0)).2]) (by omega) (fun _ _ => trivial) (fun _ => rfl) ?_ ?_
    · rintro i y H3 H4 hi e3 ⟨rfl, rfl⟩
      refine ⟨Ex.refl _, fun R kR => ?_⟩
      obtain ⟨a1, a2⟩ := wt.all i hi
      have z1 := (its_at tx.S a1).2
      have z2 := (its_at tx.S a2).2
      have hq4 := e3 _ _ hq2
      simp only [show (2 : Int) + ((i : Nat) : Int) * 2 = ((2 + 2 * i : Nat) : Int) from by push_cast; omega]
      walk_at "rd"
      refine r_ixN hq4 tx a1 rfl ?_
      walk_at "rd"
      refine ⟨_, _, rfl, (nS_I z1).1, (nS_I z1).2, ?_⟩
      walk_at "rd"
      refine r_ixN hq4 tx a2 (by push_cast; omega) ?_
      walk_at "rd"
      refine ⟨_, _, rfl, (nS_I z2).1, (nS_I z2).2, ?_⟩
      walk_at "rd"
      refine r_newT (sz_le (by simp)) fun t H5 _ e5 h5 => kR t H5 e5 ?_
      rw [h5]
      have eg : (GX.wPs vs m).getD i (0, 0) = (GX.vl vs (2 + 2 * i), GX.vl vs (3 + 2 * i)) := by
        rw [List.getD_eq_getElem?_getD]
        simp [GX.wPs, hi]
      rw [eg]
    intro D zs H3 hD e3 h3 hlen hit
    obtain ⟨ts, rfl, tp⟩ := tp_of lps hlen hit
    have hb3 := hb.ex e3
    obtain ⟨dx, fs, hi⟩ := hb3.inst
    have hq3 := e3 _ _ hq2
    walk_at "rd"
    refine ⟨p, dx, fs, rfl, hi, p, _, _, rfl, hb3, n60, ez, by omega, fun H4 e4 => ⟨⟨_, rfl⟩, ?_⟩⟩
    walk_at "rd"
    refine r_eq rfl ?_
    walk_at "rd"
    refine ite_t (by rw [← ey]; simp) ?_
    walk_at "rd"
    have hq4 := e4 _ _ hq3
    refine r_ixN hq4 tx g0 rfl ?_
    walk_at "rd"
    refine ⟨_, _, rfl, (nS_I n60).1, (nS_I n60).2, ?_⟩
    walk_at "rd"
    have hD4 := e4 _ _ h3
    have tp4 := tp.ex e4
    refine r_Web hD4 tp4 (by omega) b0.1 b0.2 wt.ties fun p2 H5 _ e5 hb5 => ?_
    obtain ⟨dx5, fs5, hi5⟩ := hb5.inst
    have hbp := (hb3.ex e4).ex e5
    obtain ⟨dx6, fs6, hi6⟩ := hbp.inst
    refine ⟨p, dx6, fs6, _, rfl, hi6, ty_own T (by decide) hi5, T.cc_Web.nf, p, p2, _, _, rfl, rfl, hbp, hb5, ?_⟩
    refine ⟨_, rfl, ite_t rfl ?_⟩
    walk_at "rd"
    refine r_wp T hbp ?_
    walk_at "rd"
    refine r_wt T hbp fun t5 ts5 h5 tp5 => ?_
    walk_at "rd"
    refine r_newT (sz_le (by simp)) fun L6 H6 _ e6 h6 => ?_
    walk_at "rd"
    have sw : Sw 100000 50 (.tuple [.int (GX.vl vs 0), dPs (GX.wPs vs m)]) := by
      have sp : ∀ d ∈ (GX.wPs vs m).map dPair, Sw 200 2 d := fun d hd' => by
        obtain ⟨q, hq', rfl⟩ := List.mem_map.mp hd'
        obtain ⟨w1, w2⟩ := ez q hq'
        refine (Sw.tup (n := 61) (k := 0) fun d hd'' => ?_).mono (by simp) (by decide)
        simp only [List.mem_cons, List.mem_nil_iff, or_false] at hd''
        rcases hd'' with rfl | rfl
        · exact Sw.int w1
        · exact Sw.int w2
      refine (Sw.tup (n := 49000) (k := 4) fun d hd' => ?_).mono (by simp) (by decide)
      simp only [List.mem_cons, List.mem_nil_iff, or_false] at hd'
      rcases hd' with rfl | rfl
      · exact (Sw.int (k := 1) n60).mono (by decide) (by decide)
      · exact (Sw.tup sp).mono (by rw [List.length_map, lps]; omega) (by decide)
    refine r_show (r_reprW h6 (e6 _ _ h5) (tp5.ex e6)) sw ?_
    walk_at "rd"
    refine r_ixN (e6 _ _ (e5 _ _ hq4)) tx g0 rfl ?_
    walk_at "rd"
    refine ⟨_, _, rfl, (nS_I n60).1, (nS_I n60).2, ?_⟩
    walk_at "rd"
    have hD6 := e6 _ _ (e5 _ _ hD4)
    refine r_tupL (SqL.of hD6) fun l7 H7 _ e7 h7 => ?_
    walk_at "rd"
    refine r_newT (sz_le (by simp)) fun L8 H8 _ e8 h8 => ?_
    walk_at "rd"
    refine r_show (r_reprW h8 (e8 _ _ h7) ((((tp4.ex e5).ex e6).ex e7).ex e8)) sw ?_
    refine r_eq rfl ?_
    rw [decide_eq_true rfl]
    exact k H8 (ExtN.of (e1.trans (e2.trans (e3.trans (e4.trans (e5.trans (e6.trans (e7.trans e8)))))))) (tb1.ext (e2.trans (e3.trans (e4.trans (e5.trans (e6.trans (e7.trans e8)))))))

end K02
namespace K02
open PySem PySem.Spec PyProof.Rows L2 GS TL LamX
local macro_rules | `(tactic| walk_at "rd") => `(tactic| (repeat (first
  | with_reducible refine r_next ?_
  | with_reducible refine r_seq ?_
  | with_reducible refine r_ret ?_
  | with_reducible refine r_ifS ?_
  | with_reducible refine r_asg ?_
  | with_reducible refine r_drop ?_
  | with_reducible refine r_op ?_
  | with_reducible refine r_un ?_
  | with_reducible refine r_cbInt ?_
  | with_reducible refine r_cbAbs ?_
  | with_reducible refine r_cbLen ?_
  | with_reducible refine r_cbList ?_
  | with_reducible refine r_cbTup ?_
  | with_reducible refine r_iEnT ?_
  | with_reducible refine r_iEnL ?_
  | with_reducible refine r_zipA ?_
  | with_reducible refine r_zipX ?_
  | with_reducible refine r_augS ?_
  | with_reducible refine r_cb ?_
  | with_reducible refine r_call ?_
  | with_reducible refine r_make ?_
  | with_reducible refine r_callN0 ?_
  | with_reducible refine r_makeK0 ?_
  | with_reducible refine r_makeS ?_
  | with_reducible refine r_callS ?_
  | with_reducible refine r_cons ?_
  | with_reducible refine r_nil ?_
  | with_reducible refine r_test ?_
  | with_reducible refine r_B ?_
  | with_reducible refine r_and ?_
  | with_reducible refine r_or ?_
  | with_reducible refine r_not ?_
  | with_reducible refine r_andV ?_
  | with_reducible refine r_orV ?_
  | with_reducible refine r_notV ?_
  | with_reducible refine r_if ?_
  | with_reducible refine r_tup ?_
  | with_reducible refine r_lst ?_
  | with_reducible refine r_c ?_
  | with_reducible refine r_lc ?_
  | with_reducible refine r_chain ?_
  | with_reducible refine r_iT ?_
  | with_reducible refine r_iL ?_
  | with_reducible refine r_iR1 ?_
  | with_reducible refine r_iR2 ?_
  | with_reducible refine r_iR3 ?_
  | with_reducible refine r_asgG ?_
  | with_reducible refine r_gSub ?_
  | with_reducible refine r_for ?_
  | with_reducible refine r_smeth ?_
  | with_reducible refine r_par ?_
  | with_reducible refine r_parK ?_
  | with_reducible refine r_gCons ?_
  | with_reducible refine r_gNil ?_
  | with_reducible refine r_gName ?_
  | with_reducible refine r_intI ?_
  | with_reducible refine r_intB ?_
  | with_reducible refine r_absI ?_
  | with_reducible refine r_k ?_
  | with_reducible refine r_kV ?_
  | ((with_reducible show tVar _ _ _ _); refine r_var3 ?_ (by rfl))
  | with_reducible refine r_I0 ?_
  | with_reducible refine r_U ?_
  | with_reducible refine r_eqI ?_
  | with_reducible refine r_neI ?_
  | dsimp only)))
local macro_rules | `(tactic| walk_at "rx") => `(tactic| (repeat (first
  | with_reducible refine r_next ?_
  | with_reducible refine r_ret ?_
  | with_reducible refine r_ifS ?_
  | with_reducible refine r_asg ?_
  | with_reducible refine r_drop ?_
  | with_reducible refine r_op ?_
  | with_reducible refine r_un ?_
  | with_reducible refine r_cbInt ?_
  | with_reducible refine r_cbAbs ?_
  | with_reducible refine r_cbLen ?_
  | with_reducible refine r_cbList ?_
  | with_reducible refine r_cbTup ?_
  | with_reducible refine r_iEnT ?_
  | with_reducible refine r_iEnL ?_
  | with_reducible refine r_zipA ?_
  | with_reducible refine r_zipX ?_
  | with_reducible refine r_augS ?_
  | with_reducible refine r_cb ?_
  | with_reducible refine r_call ?_
  | with_reducible refine r_make ?_
  | with_reducible refine r_callN0 ?_
  | with_reducible refine r_makeK0 ?_
  | with_reducible refine r_makeS ?_
  | with_reducible refine r_callS ?_
  | with_reducible refine r_cons ?_
  | with_reducible refine r_nil ?_
  | with_reducible refine r_test ?_
  | with_reducible refine r_B ?_
  | with_reducible refine r_and ?_
  | with_reducible refine r_or ?_
  | with_reducible refine r_not ?_
  | with_reducible refine r_andV ?_
  | with_reducible refine r_orV ?_
  | with_reducible refine r_notV ?_
  | with_reducible refine r_if ?_
  | with_reducible refine r_tup ?_
  | with_reducible refine r_lst ?_
  | with_reducible refine r_c ?_
  | with_reducible refine r_lc ?_
  | with_reducible refine r_chain ?_
  | with_reducible refine r_iT ?_
  | with_reducible refine r_iL ?_
  | with_reducible refine r_iR1 ?_
  | with_reducible refine r_iR2 ?_
  | with_reducible refine r_iR3 ?_
  | with_reducible refine r_asgG ?_
  | with_reducible refine r_gSub ?_
  | with_reducible refine r_for ?_
  | with_reducible refine r_smeth ?_
  | with_reducible refine r_par ?_
  | with_reducible refine r_parK ?_
  | with_reducible refine r_gCons ?_
  | with_reducible refine r_gNil ?_
  | with_reducible refine r_gName ?_
  | with_reducible refine r_intI ?_
  | with_reducible refine r_intB ?_
  | with_reducible refine r_absI ?_
  | with_reducible refine r_k ?_
  | with_reducible refine r_kV ?_
  | ((with_reducible show tVar _ _ _ _); refine r_var3 ?_ (by rfl))
  | with_reducible refine r_I0 ?_
  | with_reducible refine r_U ?_
  | with_reducible refine r_eqI ?_
  | with_reducible refine r_neI ?_
  | dsimp only)))
/-! ### the law -/
theorem r_dnewK {σ : L2.St} {H : Hp} {Q : VK} (q : ∀ p H', H p = none → Ex H H' → H' p = some (.dK []) → Q (.ref p) H') : tDNewK σ H Q := fun p hp => q p _ hp (Ex.new hp) upd_same
def Od (K : PySem.W.Frag) (H : Hp) (v : V) : Prop := v = .non ∨ v = .int 5 ∨ v = .bl true ∨ (∃ t, v = .ref t ∧ H t = some (.lst [.str "0", .str "0", .str "1"])) ∨ (∃ t, v = .ref t ∧ H t = some (.tup [.str "1", .str ":"])) ∨ (∃ t, v = .ref t ∧ H t = some (.dK [])) ∨ ∃ t, v = .ref t ∧ Bd K H t 0 0 0
theorem Od.to {K : PySem.W.Frag} {H H' : Hp} {v : V} (h : Od K H v) (e : ∀ t o, H t = some o → (∀ L x y, o ≠ .lst [.ref L, .int x, .int y]) → (∀ ps, o ≠ .tbl ps) → H' t = some o) : Od K H' v := by
  rcases h with h | h | h | ⟨t, h, q⟩ | ⟨t, h, q⟩ | ⟨t, h, q⟩ | ⟨t, h, q1, dx, q⟩
  · exact .inl h
  · exact .inr (.inl h)
  · exact .inr (.inr (.inl h))
  · exact .inr (.inr (.inr (.inl ⟨t, h, e t _ q (fun _ _ _ z => by cases z) fun _ z => by cases z⟩)))
  · exact .inr (.inr (.inr (.inr (.inl ⟨t, h, e t _ q (fun _ _ _ z => by cases z) fun _ z => by cases z⟩))))
  · exact .inr (.inr (.inr (.inr (.inr (.inl ⟨t, h, e t _ q (fun _ _ _ z => by cases z) fun _ z => by cases z⟩)))))
  · exact .inr (.inr (.inr (.inr (.inr (.inr ⟨t, h, q1, dx, e t _ q (fun _ _ _ z => by cases z) fun _ z => by cases z⟩)))))
theorem od_upd {K : PySem.W.Frag} {H : Hp} {v : V} {D x : Addr} {o : HO} (h : Od K H v) (hD : H D = some (.lst [.ref x])) : Od K (upd H D o) v := by
  have ne : ∀ {t : Addr} {u : HO}, H t = some u → u ≠ .lst [.ref x] → (upd H D o) t = some u := fun {t u} h n => by
    rw [upd_ne (by rintro rfl; rw [hD] at h; exact n (Option.some.inj h).symm)]
    exact h
  rcases h with h | h | h | ⟨t, h, q⟩ | ⟨t, h, q⟩ | ⟨t, h, q⟩ | ⟨t, h, q1, dx, q⟩
  · exact .inl h
  · exact .inr (.inl h)
  · exact .inr (.inr (.inl h))
  · exact .inr (.inr (.inr (.inl ⟨t, h, ne q (fun z => by cases z)⟩)))
  · exact .inr (.inr (.inr (.inr (.inl ⟨t, h, ne q (fun z => by cases z)⟩))))
  · exact .inr (.inr (.inr (.inr (.inr (.inl ⟨t, h, ne q (fun z => by cases z)⟩)))))
  · exact .inr (.inr (.inr (.inr (.inr (.inr ⟨t, h, q1, dx, ne q (fun z => by cases z)⟩)))))
theorem Od.no {K : PySem.W.Frag} {mg : Str → Option Value} {H : Hp} {v : V} (T : Txt K mg) (h : Od K H v) : NoS K H v := by
  have ty : ∀ {T1 : String}, T1 ∈ tys → kitR T1 "str" = false → PySem.W.kitOne K (.type T1) (.type "str") = some false := fun {T1} h e => by
    have := kit_ty (K := K) (kit_all T1 h "str" (by decide))
    rw [e] at this
    exact this
  rcases h with rfl | rfl | rfl | ⟨t, rfl, q⟩ | ⟨t, rfl, q⟩ | ⟨t, rfl, q⟩ | ⟨t, rfl, q1, dx, q⟩
  · exact ⟨_, .base .non, ty (T1 := "NoneType") (by decide) (by decide)⟩
  · exact ⟨_, .base (.int 5), ty (T1 := "int") (by decide) (by decide)⟩
  · exact ⟨_, .base (.bl true), ty (T1 := "bool") (by decide) (by decide)⟩
  · exact ⟨_, .base (.lst q), ty (T1 := "list") (by decide) (by decide)⟩
  · exact ⟨_, .base (.tup q), ty (T1 := "tuple") (by decide) (by decide)⟩
  · exact ⟨_, .base (.dK q), ty (T1 := "dict") (by decide) (by decide)⟩
  · exact ⟨_, ty_own T (C := "Bound") (by decide) q, ((own_facts T (C := "Bound") (by decide)).2.ty "str" (by decide)).2.1⟩
theorem Bag.extN {H H' : Hp} {b : Addr} {n : Int} (h : Bag H b n) (e : ExtN H H') : Bag H' b n := by
  obtain ⟨L, xs, a, l, h1, h2, h3⟩ := h.is
  exact ⟨L, xs, a, l, e _ _ h1 (fun _ z => by cases z), e _ _ h2 (fun _ z => by cases z), h3⟩
theorem tabs_bg {T : List (Addr × Str)} {H H' : Hp} {p : Addr} {n : Int} (t : Tabs T H) (g : Bg p H H') (hb : Bag H p n) : Tabs T H' := fun q hq => by
  obtain ⟨ps, h1, h2, h3⟩ := t q hq
  refine ⟨ps, g.at_ (hb.ne h1 fun _ _ _ z => by cases z) h1, h2, fun pos cv hc => ?_⟩
  obtain ⟨c, e1, e2⟩ := h3 pos cv hc
  exact ⟨c, e1, g.at_ (hb.ne e2 fun _ _ _ z => by unfold CodeO at z; cases z) e2⟩
theorem tabs_upd {T : List (Addr × Str)} {H : Hp} {a : Addr} {xs : List V} {o : HO} (t : Tabs T H) (h : H a = some (.lst xs)) : Tabs T (upd H a o) := fun q hq => by
  obtain ⟨ps, h1, h2, h3⟩ := t q hq
  refine ⟨ps, by rw [upd_ne (by rintro rfl; rw [h] at h1; cases h1)]; exact h1, h2, fun pos cv hc => ?_⟩
  obtain ⟨c, e1, e2⟩ := h3 pos cv hc
  refine ⟨c, e1, ?_⟩
  rw [upd_ne (by rintro rfl; rw [h] at e2; unfold CodeO at e2; cases e2)]
  exact e2
theorem figs_each {ys : List Str} (h : ∀ y ∈ ys, y.length ≤ 61) : figs ys ≤ ys.length * 61 := sum_len (n := 61) ys h
theorem Good.tx {ys : List Str} (g : Good ys) : ∃ vs, Tx ys vs := by
  obtain ⟨vs, h⟩ := Its.of g.all
  have := figs_each g.each
  have := g.many
  exact ⟨vs, g.ne, h, by omega, by omega⟩
def spl (zs : List Str) : List Str := Txt.split (Txt.join (Str.ofString " ") zs) (Str.ofString " ")
theorem bent_tx {zs : List Str} (h1 : zs.length ≤ 111) (h2 : figs zs ≤ 11000) (h3 : AllI zs) : ∃ vs, Tx (spl zs) vs := by
  by_cases c : zs = []
  · subst c
    have e : spl [] = [Str.ofString ""] := by decide +kernel
    rw [e]
    exact ⟨[none], by simp, .cons (okI_no (by decide +kernel)) .nil, by decide, by decide⟩
  · obtain ⟨vs, h⟩ := Its.of h3
    have e : spl zs = zs := split_join (y := Str.ofString " ") (s := 32) (S := []) rfl (by decide +kernel) c fun y hy => (h.free y hy).1
    rw [e]
    exact ⟨vs, c, h, by omega, by omega⟩
structure LI (K : PySem.W.Frag) (b : Addr) (n : Int) (H : Hp) : Prop where
  bag : Bag H b n
  tabs : Tabs (lamT K) H
theorem LI.bg {K : PySem.W.Frag} {b : Addr} {n m : Int} {H H' : Hp} (h : LI K b n H) (g : Bg b H H') (hb : Bag H' b m) : LI K b m H' := ⟨hb, tabs_bg h.tabs g h.bag⟩
theorem LI.ext {K : PySem.W.Frag} {b : Addr} {n : Int} {H H' : Hp} (h : LI K b n H) (e : Ex H H') : LI K b n H' := ⟨h.bag.ex e, h.tabs.ext e⟩
theorem LI.en {K : PySem.W.Frag} {b : Addr} {n : Int} {H H' : Hp} (h : LI K b n H) (e : ExtN H H') (t : Tabs (lamT K) H') : LI K b n H' := ⟨Bag.extN h.bag e, t⟩
theorem LI.le {K : PySem.W.Frag} {b : Addr} {n m : Int} {H : Hp} (h : LI K b n H) (e : n ≤ m) : LI K b m H := ⟨h.bag.le e, h.tabs⟩
/-- a drawn text held -/
structure Dr (K : PySem.W.Frag) (b : Addr) (n : Int) (B : Addr) (ys : List Str) (H : Hp) : Prop where
  li : LI K b n H
  at_ : H B = some (.lst (ys.map V.str))
  gd : Good ys
theorem Dr.ne {b B : Addr} {n : Int} {ys : List Str} {H : Hp} (h : H B = some (.lst (ys.map V.str))) (hb : Bag H b n) : B ≠ b := hb.ne h strs_ne
/-- ' '.join(..).split(' ') of a bent text -/
theorem r_bent {K : PySem.W.Frag} {σ : L2.St} {H : Hp} {Q : VK} {b B : Addr} {n : Int} {i : Nat} {ys : List Str} (h0 : σ[1]? = some (some (.ref b))) (hi : σ[i]? = some (some (.ref B))) (li : LI K b n H) (hn : n ≤ 90000) (hB : H B = some (.lst (ys.map V.str))) (gd : Good ys)
    (k : ∀ q zs vs H', LI K b (n + 3) H' → Bg b H H' → H' q = some (.lst (zs.map V.str)) → Tx zs vs → Q (.ref q) H') :
    tM1 (fun x xs H Q => ∃ a b, x = V.str a ∧ xs = [V.str b] ∧ (b.length == 0) = false ∧ a.length + 2 ≤ sizeLine ∧ rNewStrs (Txt.split a b) H Q) (tM1 (fun x xs H_1 Q => ∃ a p ys, x = V.str a ∧ xs = [V.ref p] ∧ (SqL K H_1 p (List.map V.str ys) ∨ SqT K H_1 p (List.map V.str ys)) ∧ (List.map (fun x => x.length) ys).sum + ys.length * a.length ≤ 16777216 ∧ Q (V.str (Txt.join a ys)) H_1) (tC (V.str (Str.ofString " "))) (tCall spBent [] E0 (tCons (tVar 1) (tCons (tVar i) tNil)))) (tC (V.str (Str.ofString " "))) σ H Q := by
  refine ⟨⟨_, rfl⟩, ?_⟩
  refine ⟨_, h0, _, hi, ?_⟩
  refine ⟨b, n, B, ys, rfl, rfl, hB, gd, hn, li.bag, fun q zs H1 g1 b1 hq h1 hl hf ha => ?_⟩
  have f1 := figs_each gd.each
  have m1 := gd.many
  obtain ⟨vs, tx⟩ := bent_tx (zs := zs) (by omega) (by omega) ha
  refine ⟨_, q, zs, rfl, rfl, .inl (SqL.of h1), ?_, ⟨_, rfl⟩, _, _, rfl, rfl, rfl, ?_, fun p hp => ?_⟩
  · have : figs zs = (zs.map fun x => x.length).sum := rfl
    rw [show (Str.ofString " ").length = 1 from rfl, ← this]
    omega
  · have : (Txt.join (Str.ofString " ") zs).length ≤ 20000 := join_len (by omega)
    exact sz_le (by omega)
  · exact k p (spl zs) vs _ ((li.bg g1 b1).ext (Ex.new hp)) (g1.trans (Bg.of (Ex.new hp))) upd_same tx
def spLaw (K : PySem.W.Frag) : Sp := sp1 fun v H Q _ => ∃ (L : Addr) (xs : List Int), v = .ref L ∧ SqL K H L (xs.map V.int) ∧ (∀ x ∈ xs, Z 2000000 x) ∧ Tabs (lamT K) H ∧ ∀ H', Q (.bl true) H'
theorem ok_law {P : Program} {w : World} {K : PySem.W.Frag} {mg : Str → Option Value} {base : Heap} {fd : FuncData} (T : Txt K mg) (F : FunD K "law" "law" (defArgs s_law) (defBody s_law) (defScope s_law) [] [] (He.ga K "law") fd) (tb : TabB base mg (He.cT K ("law", none)).1 (He.cT K ("law", none)).2) (tb__law_web_right : TabB base mg (He.cT K ("_law_web_right", none)).1 (He.cT K ("_law_web_right", none)).2) (tb__law_poly_right : TabB base mg (He.cT K ("_law_poly_right", none)).1 (He.cT K ("_law_poly_right", none)).2) (tb__law_bound_right : TabB base mg (He.cT K ("_law_bound_right", none)).1 (He.cT K ("_law_bound_right", none)).2) : FnG P w K mg base (L2.CX P w) 11 (He.ga K "law") fd ["script"] (spLaw K) := by
  obtain ⟨fd_Web_read, F_Web_read, B_Web_read, kb_Web_read_0⟩ := ok_Web_read (P := P) (w := w) (base := base) T
  obtain ⟨fd_Poly_read, F_Poly_read, B_Poly_read, kb_Poly_read_0⟩ := ok_Poly_read (P := P) (w := w) (base := base) T
  obtain ⟨fd_Bound_read, F_Bound_read, B_Bound_read, kb_Bound_read_0⟩ := ok_Bound_read (P := P) (w := w) (base := base) T
  obtain ⟨fd__law_fish, F__law_fish, B__law_fish⟩ := ok__law_fish (P := P) (w := w) (base := base) T
  obtain ⟨fd_Bound_init, F_Bound_init, B_Bound_init⟩ := ok_Bound_init (P := P) (w := w) (base := base) T
  obtain ⟨fd__law_web_right, F__law_web_right, B__law_web_right⟩ := ok__law_web_right (P := P) (w := w) (base := base) T tb__law_web_right
  obtain ⟨fd__law_bent, F__law_bent, B__law_bent⟩ := ok__law_bent (P := P) (w := w) (base := base) T
  obtain ⟨fd__law_poly_right, F__law_poly_right, B__law_poly_right⟩ := ok__law_poly_right (P := P) (w := w) (base := base) T tb__law_poly_right
  obtain ⟨fd__law_bound_right, F__law_bound_right, B__law_bound_right⟩ := ok__law_bound_right (P := P) (w := w) (base := base) T tb__law_bound_right
  obtain ⟨fd__law_web, F__law_web, B__law_web⟩ := ok__law_web (P := P) (w := w) (base := base) T
  obtain ⟨fd__law_poly, F__law_poly, B__law_poly⟩ := ok__law_poly (P := P) (w := w) (base := base) T
  obtain ⟨fd__law_bound, F__law_bound, B__law_bound⟩ := ok__law_bound (P := P) (w := w) (base := base) T
  obtain ⟨fd__law_ark, F__law_ark, B__law_ark⟩ := ok__law_ark (P := P) (w := w) (base := base) T
  obtain ⟨fd__law_heard, FD__law_heard⟩ := T.d__law_heard
  refine okL (p := ("law", none)) rfl F sc_law sp1_len (fun cdv A outer s H vs Q E cdE quiet hr h => ?_)
  have hr_Web_read : Room 7 _ := hr.mono (by decide)
  have hr_Poly_read : Room 5 _ := hr.mono (by decide)
  have hr_Bound_read : Room 6 _ := hr.mono (by decide)
  have hr__law_fish : Room 2 _ := hr.mono (by decide)
  have hr_Bound_init : Room 5 _ := hr.mono (by decide)
  have hr__law_web_right : Room 10 _ := hr.mono (by decide)
  have hr__law_bent : Room 3 _ := hr.mono (by decide)
  have hr__law_poly_right : Room 10 _ := hr.mono (by decide)
  have hr__law_bound_right : Room 10 _ := hr.mono (by decide)
  have hr__law_web : Room 3 _ := hr.mono (by decide)
  have hr__law_poly : Room 4 _ := hr.mono (by decide)
  have hr__law_bound : Room 4 _ := hr.mono (by decide)
  have hr__law_ark : Room 1 _ := hr.mono (by decide)
  obtain ⟨v0, rfl, L, xs, rfl, hL, hz, tabs0, k⟩ := sp1_is h
  refine ⟨_, (pss_cons (ps_set (i := 1) sc_law.nd rfl (Or.inl rfl) (pe_call F__law_ark hr__law_ark (by rfl) T.g__law_ark T.k__law_ark B__law_ark .nil passL (pa_cons (pv 0) pa_nil)))
      (pss_cons (ps_for (passes_of rfl) rfl (pi_range1 (by rfl) T.b_range (pa_cons pe_int pa_nil)) (pg_name (i := 2) sc_law.nd rfl (Or.inl rfl)) (pss_cons (ps_par3 (i := 3) (j := 4) (l := 5) (by rfl) sc_law.nd rfl rfl rfl (by decide) (by decide) (by decide) rfl rfl rfl (pa_cons (pe_call F__law_bound hr__law_bound (by rfl) T.g__law_bound T.k__law_bound B__law_bound .nil passL (pa_cons (pv 1) pa_nil)) (pa_cons (pe_call F__law_poly hr__law_poly (by rfl) T.g__law_poly T.k__law_poly B__law_poly .nil passL (pa_cons (pv 1) pa_nil)) (pa_cons (pe_call F__law_web hr__law_web (by rfl) T.g__law_web T.k__law_web B__law_web .nil passL (pa_cons (pv 1) pa_nil)) pa_nil))) (by rfl))
      (pss_cons (ps_if (PW.pt (pw_or (pt_not (pt_val (pe_callG F__law_bound_right quiet hr__law_bound_right (by rfl) T.g__law_bound_right T.k__law_bound_right B__law_bound_right .nil passL (pa_cons (pv 3) pa_nil)))) (pw_or (pt_not (pt_val (pe_callG F__law_poly_right quiet hr__law_poly_right (by rfl) T.g__law_poly_right T.k__law_poly_right B__law_poly_right .nil passL (pa_cons (pv 4) pa_nil)))) (pw_or1 (pt_not (pt_val (pe_callG F__law_web_right quiet hr__law_web_right (by rfl) T.g__law_web_right T.k__law_web_right B__law_web_right .nil passL (pa_cons (pv 5) pa_nil)))))))) (pss_one (ps_ret pe_bl)) pss_nil)
      (pss_cons (ps_for (passes_of rfl) rfl (pi_range1 (by rfl) T.b_range (pa_cons pe_int pa_nil)) (pg_name (i := 6) sc_law.nd rfl (Or.inl rfl)) (pss_one (ps_if (PW.pt (pw_or (pt_not (pt_val (pe_callG F__law_bound_right quiet hr__law_bound_right (by rfl) T.g__law_bound_right T.k__law_bound_right B__law_bound_right .nil passL (pa_cons (pe_split (pe_join pe_str (pe_call F__law_bent hr__law_bent (by rfl) T.g__law_bent T.k__law_bent B__law_bent .nil passL (pa_cons (pv 1) (pa_cons (pv 3) pa_nil)))) pe_str) pa_nil)))) (pw_or1 (pt_not (pt_val (pe_callG F__law_poly_right quiet hr__law_poly_right (by rfl) T.g__law_poly_right T.k__law_poly_right B__law_poly_right .nil passL (pa_cons (pe_split (pe_join pe_str (pe_call F__law_bent hr__law_bent (by rfl) T.g__law_bent T.k__law_bent B__law_bent .nil passL (pa_cons (pv 1) (pa_cons (pv 4) pa_nil)))) pe_str) pa_nil))))))) (pss_one (ps_ret pe_bl)) pss_nil)))
      (pss_one (ps_for (passes_of rfl) rfl (pi_range1 (by rfl) T.b_range (pa_cons pe_int pa_nil)) (pg_name (i := 6) sc_law.nd rfl (Or.inl rfl)) (pss_one (ps_if (pt_not (pt_val (pe_callG F__law_web_right quiet hr__law_web_right (by rfl) T.g__law_web_right T.k__law_web_right B__law_web_right .nil passL (pa_cons (pe_split (pe_join pe_str (pe_call F__law_bent hr__law_bent (by rfl) T.g__law_bent T.k__law_bent B__law_bent .nil passL (pa_cons (pv 1) (pa_cons (pv 5) pa_nil)))) pe_str) pa_nil)))) (pss_one (ps_ret pe_bl)) pss_nil))))))))
      (pss_cons (ps_set (i := 7) sc_law.nd rfl (Or.inr rfl) (pe_call F__law_fish hr__law_fish (by rfl) T.g__law_fish T.k__law_fish B__law_fish .nil passL (pa_cons (pv 1) (pa_cons (pe_lst (pa_cons pe_non (pa_cons pe_int (pa_cons pe_bl (pa_cons (pe_lst (pa_cons pe_str (pa_cons pe_str (pa_cons pe_str pa_nil)))) (pa_cons (pe_tup (pa_cons pe_str (pa_cons pe_str pa_nil))) (pa_cons pe_dnewK (pa_cons (pe_make T.mk_Bound F_Bound_init hr_Bound_init (by rfl) T.g_Bound B_Bound_init .nil passL (pa_cons pe_int (pa_cons pe_int (pa_cons pe_int pa_nil)))) pa_nil)))))))) pa_nil))))
      (pss_cons (ps_set (i := 8) sc_law.nd rfl (Or.inl rfl) (pe_lst (pa_cons (pe_lamT (T := lamT K) (k := 7) (TT := TTHeard K) (by rfl) T.g__law_heard T.k__law_heard FD__law_heard (FD__law_heard.bindsN fun _ _ _ _ _ _ us hl => match us, hl with | [_], _ => rfl) sc__law_heard rfl (Or.inl rfl) (fun cdg => gives__law_heard T) tb cdE (lam_mem_law K) (lam_uq_law T) (hr.mono (by decide)) (lamS_by (by rfl)) rfl (fun _ _ _ _ _ => rfl) (fun A outer s H E f c' hrL => (pe_smeth (pe_glob (v := .ref (He.ga K "Bound")) rfl T.g_Bound rfl) T.sm_Bound_read.2.1 T.sm_Bound_read.1 F_Bound_read T.sm_Bound_read.2.2 (hrL.mono (by decide)) B_Bound_read (passes_call (takes_of rfl rfl rfl rfl) (fun _ _ _ _ h => h)) (pa_cons (pv 7) pa_nil)))) pa_nil)))
      (pss_cons (ps_expr (pe_bm PySem.F.plainAttrs_list PySem.F.slot_list_append PySem.F.type_list_append mt_append (pv 8) (pa_cons (pe_lamT (T := lamT K) (k := 7) (TT := TTHeard K) (by rfl) T.g__law_heard T.k__law_heard FD__law_heard (FD__law_heard.bindsN fun _ _ _ _ _ _ us hl => match us, hl with | [_], _ => rfl) sc__law_heard rfl (Or.inl rfl) (fun cdg => gives__law_heard T) tb cdE (lam_mem_law K) (lam_uq_law T) (hr.mono (by decide)) (lamS_by (by rfl)) rfl (fun _ _ _ _ _ => rfl) (fun A outer s H E f c' hrL => (pe_smeth (pe_glob (v := .ref (He.ga K "Poly")) rfl T.g_Poly rfl) T.sm_Poly_read.2.1 T.sm_Poly_read.1 F_Poly_read T.sm_Poly_read.2.2 (hrL.mono (by decide)) B_Poly_read (passes_call (takes_of rfl rfl rfl rfl) (fun _ _ _ _ h => h)) (pa_cons (pv 7) pa_nil)))) pa_nil)))
      (pss_cons (ps_expr (pe_bm PySem.F.plainAttrs_list PySem.F.slot_list_append PySem.F.type_list_append mt_append (pv 8) (pa_cons (pe_lamT (T := lamT K) (k := 7) (TT := TTHeard K) (by rfl) T.g__law_heard T.k__law_heard FD__law_heard (FD__law_heard.bindsN fun _ _ _ _ _ _ us hl => match us, hl with | [_], _ => rfl) sc__law_heard rfl (Or.inl rfl) (fun cdg => gives__law_heard T) tb cdE (lam_mem_law K) (lam_uq_law T) (hr.mono (by decide)) (lamS_by (by rfl)) rfl (fun _ _ _ _ _ => rfl) (fun A outer s H E f c' hrL => (pe_smeth (pe_glob (v := .ref (He.ga K "Web")) rfl T.g_Web rfl) T.sm_Web_read.2.1 T.sm_Web_read.1 F_Web_read T.sm_Web_read.2.2 (hrL.mono (by decide)) B_Web_read (passes_call (takes_of rfl rfl rfl rfl) (fun _ _ _ _ h => h)) (pa_cons (pv 7) pa_nil)))) pa_nil)))
      (pss_one (ps_ret (pe_cmpR (op_eqD hr.units) (pv 8) (pe_op op_rep (pe_lst (pa_cons (pe_tup (pa_cons pe_int (pa_cons pe_int pa_nil))) pa_nil)) pe_int) (nomark _)))))))))), ?_⟩
  refine r_seqJ (fun σ' H' => ∃ (b : Addr), σ' = [some (.ref L), some (.ref b), none, none, none, none, none, none, none] ∧ LI K b 0 H') (fun N hN => ?_) ?_
  · walk_at "rx"
    refine ⟨L, xs, rfl, hL, hz, fun b H1 e1 hb0 hb => ?_⟩
    walk_at "rx"
    exact hN _ _ ⟨b, rfl, hb, tabs0.ext e1⟩
  clear tabs0 hL
  rintro σ' H1 ⟨b, rfl, l1⟩
  refine r_seqJ (fun σ' H' => ∃ s2 s3 s4 s5 s6, σ' = [some (.ref L), some (.ref b), s2, s3, s4, s5, s6, none, none] ∧ LI K b 6000 H') (fun N hN => ?_) ?_
  · walk_at "rd"
    refine ⟨_, rfl, by decide, by decide, ?_⟩
    refine for_of (walk_range (lo := 0) (n := 3)) (fun i σ H' => ∃ s2 s3 s4 s5 s6, σ = [some (.ref L), some (.ref b), s2, s3, s4, s5, s6, none, none] ∧ LI K b (2000 * (i : Nat)) H') ⟨_, _, _, _, _, rfl, l1.le (by omega)⟩ (fun _ _ _ _ _ => trivial) ?_ ?_
    · rintro i x σ H2 H2' hi ⟨s2, s3, s4, s5, s6, rfl, l2⟩ ⟨rfl, rfl⟩
      refine r_gName ?_
      walk_at "rx"
      refine r_seqJ (fun σ' H' => ∃ (s2 s6 : Option V) (B1 B2 B3 : Addr) (y1 y2 y3 : List Str), σ' = [some (.ref L), some (.ref b), s2, some (.ref B1), some (.ref B2), some (.ref B3), s6, none, none] ∧ LI K b (2000 * (i : Nat) + 1200) H' ∧ (H' B1 = some (.lst (y1.map V.str)) ∧ Good y1) ∧ (H' B2 = some (.lst (y2.map V.str)) ∧ Good y2) ∧ (H' B3 = some (.lst (y3.map V.str)) ∧ Good y3)) (fun N' hN' => ?_) ?_
      · unfold tPar3
        walk_at "rd"
        refine ⟨b, _, rfl, by omega, l2.bag, fun B1 y1 H3 g3 b3 _ h3 gd3 => ?_⟩
        walk_at "rd"
        refine ⟨b, _, rfl, by omega, b3, fun B2 y2 H4 g4 b4 _ h4 gd4 => ?_⟩
        walk_at "rd"
        refine ⟨b, _, rfl, by omega, b4, fun B3 y3 H5 g5 b5 _ h5 gd5 => ?_⟩
        walk_at "rd"
        refine ⟨_, _, _, rfl, ?_⟩
        refine hN' _ _ ⟨_, _, B1, B2, B3, y1, y2, y3, rfl, (((l2.bg g3 b3).bg g4 b4).bg g5 b5).le (by omega), ⟨g5.at_ (Dr.ne (g4.at_ (Dr.ne h3 b3) h3) b4) (g4.at_ (Dr.ne h3 b3) h3), gd3⟩, ⟨g5.at_ (Dr.ne h4 b4) h4, gd4⟩, ⟨h5, gd5⟩⟩
      rintro σ' H3 ⟨s2, s6, B1, B2, B3, y1, y2, y3, rfl, l3, ⟨h1, gd1⟩, ⟨h2, gd2⟩, ⟨h3, gd3⟩⟩
      refine r_seqJ (fun σ' H' => σ' = [some (.ref L), some (.ref b), s2, some (.ref B1), some (.ref B2), some (.ref B3), s6, none, none] ∧ LI K b (2000 * (i : Nat) + 1200) H' ∧ ExtN H3 H') (fun N' hN' => ?_) ?_
      · obtain ⟨v1, tx1⟩ := gd1.tx
        obtain ⟨v2, tx2⟩ := gd2.tx
        obtain ⟨v3, tx3⟩ := gd3.tx
        walk_at "rd"
        refine ⟨B1, y1, v1, rfl, h1, tx1, l3.tabs, fun H4 e4 t4 => ⟨_, rfl, ?_⟩⟩
        refine ite_f rfl ?_
        walk_at "rd"
        refine ⟨B2, y2, v2, rfl, e4 _ _ h2 (fun _ z => by cases z), tx2, t4, fun H5 e5 t5 => ⟨_, rfl, ?_⟩⟩
        refine ite_f rfl ?_
        walk_at "rd"
        refine ⟨B3, y3, v3, rfl, e5 _ _ (e4 _ _ h3 (fun _ z => by cases z)) (fun _ z => by cases z), tx3, t5, fun H6 e6 t6 => ⟨_, rfl, ?_⟩⟩
        refine ite_f rfl ?_
        exact hN' _ _ ⟨rfl, l3.en ((e4.trans e5).trans e6) t6, (e4.trans e5).trans e6⟩
      rintro σ' H4 ⟨rfl, l4, e4⟩
      have h1 := e4 _ _ h1 (fun _ z => by cases z)
      have h2 := e4 _ _ h2 (fun _ z => by cases z)
      have h3 := e4 _ _ h3 (fun _ z => by cases z)
      refine r_seqJ (fun σ' H' => ∃ s6, σ' = [some (.ref L), some (.ref b), s2, some (.ref B1), some (.ref B2), some (.ref B3), s6, none, none] ∧ LI K b (2000 * (i : Nat) + 1300) H' ∧ H' B3 = some (.lst (y3.map V.str))) (fun N' hN' => ?_) ?_
      · walk_at "rd"
        refine ⟨_, rfl, by decide, by decide, ?_⟩
        refine for_of (walk_range (lo := 0) (n := 2)) (fun j σ H' => ∃ s6, σ = [some (.ref L), some (.ref b), s2, some (.ref B1), some (.ref B2), some (.ref B3), s6, none, none] ∧ LI K b (2000 * (i : Nat) + 1200 + 10 * (j : Nat)) H' ∧ H' B1 = some (.lst (y1.map V.str)) ∧ H' B2 = some (.lst (y2.map V.str)) ∧ H' B3 = some (.lst (y3.map V.str))) ⟨_, rfl, l4.le (by omega), h1, h2, h3⟩ (fun _ _ _ _ _ => trivial) ?_ ?_
        · rintro j x σ H5 H5' hj ⟨s6, rfl, l5, h1, h2, h3⟩ ⟨rfl, rfl⟩
          refine r_gName ?_
          walk_at "rd"
          refine r_bent rfl rfl l5 (by omega) h1 gd1 fun q1 z1 v1 H6 l6 g6 hq6 tx6 => ?_
          have h2 := g6.at_ (Dr.ne h2 l5.bag) h2
          have h3 := g6.at_ (Dr.ne h3 l5.bag) h3
          have h1 := g6.at_ (Dr.ne h1 l5.bag) h1
          walk_at "rd"
          refine ⟨q1, z1, v1, rfl, hq6, tx6, l6.tabs, fun H7 e7 t7 => ⟨_, rfl, ite_f rfl ?_⟩⟩
          have l7 := l6.en e7 t7
          have h1 := e7 _ _ h1 (fun _ z => by cases z)
          have h2 := e7 _ _ h2 (fun _ z => by cases z)
          have h3 := e7 _ _ h3 (fun _ z => by cases z)
          walk_at "rd"
          refine r_bent rfl rfl l7 (by omega) h2 gd2 fun q2 z2 v2 H8 l8 g8 hq8 tx8 => ?_
          have h1 := g8.at_ (Dr.ne h1 l7.bag) h1
          have h3 := g8.at_ (Dr.ne h3 l7.bag) h3
          have h2 := g8.at_ (Dr.ne h2 l7.bag) h2
          walk_at "rd"
          refine ⟨q2, z2, v2, rfl, hq8, tx8, l8.tabs, fun H9 e9 t9 => ⟨_, rfl, ite_f rfl ?_⟩⟩
          exact ⟨_, rfl, (l8.en e9 t9).le (by push_cast; omega), e9 _ _ h1 (fun _ z => by cases z), e9 _ _ h2 (fun _ z => by cases z), e9 _ _ h3 (fun _ z => by cases z)⟩
        · rintro σ H5 ⟨s6, rfl, l5, h1, h2, h3⟩
          exact hN' _ _ ⟨_, rfl, l5.le (by omega), h3⟩
      clear h1 h2 h3 l4
      rintro σ' H5 ⟨s6, rfl, l5, h3⟩
      walk_at "rd"
      refine ⟨_, rfl, by decide, by decide, ?_⟩
      refine for_of (walk_range (lo := 0) (n := 4)) (fun j σ H' => ∃ s6, σ = [some (.ref L), some (.ref b), s2, some (.ref B1), some (.ref B2), some (.ref B3), s6, none, none] ∧ LI K b (2000 * (i : Nat) + 1300 + 10 * (j : Nat)) H' ∧ H' B3 = some (.lst (y3.map V.str))) ⟨_, rfl, l5.le (by omega), h3⟩ (fun _ _ _ _ _ => trivial) ?_ ?_
      · rintro j x σ H6 H6' hj ⟨s6, rfl, l6, h3⟩ ⟨rfl, rfl⟩
        refine r_gName ?_
        walk_at "rd"
        refine r_bent rfl rfl l6 (by omega) h3 gd3 fun q1 z1 v1 H7 l7 g7 hq7 tx7 => ?_
        have h3 := g7.at_ (Dr.ne h3 l6.bag) h3
        walk_at "rd"
        refine ⟨q1, z1, v1, rfl, hq7, tx7, l7.tabs, fun H8 e8 t8 => ⟨_, rfl, ite_f rfl ?_⟩⟩
        exact ⟨_, rfl, (l7.en e8 t8).le (by push_cast; omega), e8 _ _ h3 (fun _ z => by cases z)⟩
      · rintro σ H6 ⟨s6, rfl, l6, h3⟩
        exact ⟨_, _, _, _, _, rfl, l6.le (by push_cast; omega)⟩
    · rintro σ H2 ⟨s2, s3, s4, s5, s6, rfl, l2⟩
      exact hN _ _ ⟨_, _, _, _, _, rfl, l2⟩
  clear l1
  rintro σ' H2 ⟨s2, s3, s4, s5, s6, rfl, l2⟩
  refine r_seqJ (fun σ' H' => ∃ od, σ' = [some (.ref L), some (.ref b), s2, s3, s4, s5, s6, some od, none] ∧ LI K b 6001 H' ∧ Od K H' od) (fun N hN => ?_) ?_
  · walk_at "rx"
    refine r_newL (sz_le (by simp)) fun t1 H3 _ e3 h3 => ?_
    walk_at "rx"
    refine r_newT (sz_le (by simp)) fun t2 H4 _ e4 h4 => ?_
    walk_at "rx"
    refine r_dnewK fun t3 H5 _ e5 h5 => ?_
    walk_at "rx"
    refine r_Bound (Int.le_refl _) fun t4 H6 _ e6 h6 => ?_
    walk_at "rx"
    refine r_newL (sz_le (by simp)) fun t5 H7 _ e7 h7 => ?_
    walk_at "rx"
    have e27 := e3.trans (e4.trans (e5.trans (e6.trans e7)))
    refine r_One (H0 := H7) (l2.bag.ex e27) h7 (fun _ _ _ z => by cases z) (by simp) (by simp) (by decide) fun v H8 hv g8 b8 => ?_
    walk_at "rx"
    have l8 : LI K b 6001 H8 := ((l2.ext e27).bg g8 b8).le (by decide)
    have kp : ∀ t o, H7 t = some o → (∀ L x y, o ≠ .lst [.ref L, .int x, .int y]) → (∀ ps, o ≠ .tbl ps) → H8 t = some o := fun t o h n _ => g8.at_ ((l2.bag.ex e27).ne h n) h
    refine hN _ _ ⟨_, rfl, l8, ?_⟩
    have : Od K H7 v := by
      simp only [List.mem_cons, List.mem_nil_iff, or_false] at hv
      rcases hv with rfl | rfl | rfl | rfl | rfl | rfl | rfl
      · exact .inl rfl
      · exact .inr (.inl rfl)
      · exact .inr (.inr (.inl rfl))
      · exact .inr (.inr (.inr (.inl ⟨t1, rfl, e7 _ _ (e6 _ _ (e5 _ _ (e4 _ _ h3)))⟩)))
      · exact .inr (.inr (.inr (.inr (.inl ⟨t2, rfl, e7 _ _ (e6 _ _ (e5 _ _ h4))⟩))))
      · exact .inr (.inr (.inr (.inr (.inr (.inl ⟨t3, rfl, e7 _ _ (e6 _ _ h5)⟩)))))
      · exact .inr (.inr (.inr (.inr (.inr (.inr ⟨t4, rfl, h6.ex e7⟩)))))
    exact this.to kp
  clear l2
  rintro σ' H3 ⟨od, rfl, l3, od3⟩
  have nos : ∀ {H H' : Hp}, Od K H od → ExtN H H' → Od K H' od := fun h e => h.to fun t o h1 _ n => e t o h1 n
  walk_at "rd"
  refine r_lam l3.tabs fun H4 e4 t4 => ⟨0, fun Qn => ?_⟩
  have od4 := nos od3 e4
  walk_at "rd"
  refine .inr ⟨od4.no T, stop_heard fun ta Ha ea hta => ?_⟩
  walk_at "rd"
  refine r_newL (sz_le (by simp)) fun D H5 _ e5 h5 => ?_
  walk_at "rd"
  have t5 := t4.ext (ea.trans e5)
  have od5 := nos od4 (ExtN.of (ea.trans e5))
  have ha5 := e5 _ _ hta
  refine r_bm ?_
  walk_at "rd"
  refine ⟨tyL h5, ?_⟩
  walk_at "rd"
  refine r_lam t5 fun H6 e6 t6 => ⟨0, fun Qn => ?_⟩
  have od6 := nos od5 e6
  walk_at "rd"
  refine .inr ⟨od6.no T, stop_heard fun tb Hb eb htb => ?_⟩
  have h5b := eb _ _ (e6 _ _ h5 (fun _ z => by cases z))
  walk_at "rd"
  refine r_app h5b (by simp) ?_
  have tab7 : Tabs (lamT K) (upd Hb D (.lst ([V.ref ta] ++ [V.ref tb]))) := tabs_upd (t6.ext eb) h5b
  have keep : ∀ (t : Addr) (o : HO), Hb t = some o → t ≠ D → (upd Hb D (.lst ([V.ref ta] ++ [V.ref tb]))) t = some o := fun t o h n => by rw [upd_ne n]; exact h
  have tup_ne : ∀ {t : Addr} {xs : List V}, Hb t = some (.tup xs) → t ≠ D := fun h z => by rw [z, h5b] at h; cases h
  have ha7 := keep ta _ (eb _ _ (e6 _ _ ha5 (fun _ z => by cases z))) (tup_ne (eb _ _ (e6 _ _ ha5 (fun _ z => by cases z))))
  have hb7 := keep tb _ htb (tup_ne htb)
  have od7 : Od K (upd Hb D (.lst ([V.ref ta] ++ [V.ref tb]))) od := od_upd (nos od6 (ExtN.of eb)) h5b
  have h7 : (upd Hb D (.lst ([V.ref ta] ++ [V.ref tb]))) D = some (.lst [V.ref ta, V.ref tb]) := upd_same
  generalize upd Hb D (.lst ([V.ref ta] ++ [V.ref tb])) = H7 at tab7 ha7 hb7 od7 h7 ⊢
  walk_at "rd"
  refine r_bm ?_
  walk_at "rd"
  refine ⟨tyL h7, ?_⟩
  walk_at "rd"
  refine r_lam tab7 fun H8 e8 t8 => ⟨0, fun Qn => ?_⟩
  have od8 := nos od7 e8
  walk_at "rd"
  refine .inr ⟨od8.no T, stop_heard fun tc Hc ec htc => ?_⟩
  have h7c := ec _ _ (e8 _ _ h7 (fun _ z => by cases z))
  walk_at "rd"
  refine r_app h7c (by simp) ?_
  have keep8 : ∀ (t : Addr) (xs : List V), Hc t = some (.tup xs) → (upd Hc D (.lst ([V.ref ta, V.ref tb] ++ [V.ref tc]))) t = some (.tup xs) := fun t xs h => by
    rw [upd_ne (by rintro rfl; rw [h7c] at h; cases h)]
    exact h
  have ha9 := keep8 _ _ (ec _ _ (e8 _ _ ha7 (fun _ z => by cases z)))
  have hb9 := keep8 _ _ (ec _ _ (e8 _ _ hb7 (fun _ z => by cases z)))
  have hc9 := keep8 _ _ htc
  have h9 : (upd Hc D (.lst ([V.ref ta, V.ref tb] ++ [V.ref tc]))) D = some (.lst [V.ref ta, V.ref tb, V.ref tc]) := upd_same
  generalize upd Hc D (.lst ([V.ref ta, V.ref tb] ++ [V.ref tc])) = H9 at ha9 hb9 hc9 h9 ⊢
  walk_at "rd"
  refine r_newT (sz_le (by simp)) fun td Hd _ ed htd => ?_
  walk_at "rd"
  refine r_newL (sz_le (by simp)) fun le He _ ee hle => ?_
  walk_at "rd"
  refine ⟨le, 3, [.ref td], rfl, rfl, hle, by decide, by decide, sz_le (by simp), fun p hp => ?_⟩
  have ef : Ex He (upd He p (.lst (List.replicate (3 : Int).toNat [V.ref td]).flatten)) := Ex.new hp
  have hf : (upd He p (.lst (List.replicate (3 : Int).toNat [V.ref td]).flatten)) p = some (.lst [V.ref td, V.ref td, V.ref td]) := upd_same
  have all := ed.trans (ee.trans ef)
  have pr : ∀ {t : Addr} {H' : Hp}, H' t = some (.tup [.int 0, .int ((0 : Nat) : Int)]) → Dp K H' (.ref t) (.tuple [.int 0, .int 0]) := fun h => .tup (SqT.of h) (.cons (.int 0) (.cons (.int 0) .nil))
  refine ⟨_, _, .lst (SqL.of (all _ _ h9)) (.cons (pr (all _ _ ha9)) (.cons (pr (all _ _ hb9)) (.cons (pr (all _ _ hc9)) .nil))), .lst (SqL.of hf) (.cons (pr (ef _ _ (ee _ _ htd))) (.cons (pr (ef _ _ (ee _ _ htd))) (.cons (pr (ef _ _ (ee _ _ htd))) .nil))), by decide +kernel, by decide +kernel, ?_⟩
  have e : PyData.eqv (.list [.tuple [.int 0, .int 0], .tuple [.int 0, .int 0], .tuple [.int 0, .int 0]]) (.list [.tuple [.int 0, .int 0], .tuple [.int 0, .int 0], .tuple [.int 0, .int 0]]) = true := by decide +kernel
  rw [e]
  exact k _

end K02
set_option maxHeartbeats 0
namespace K02
open PySem PySem.Spec PyProof.Rows L2 GS LamX
theorem law_fact {P : Program} {w : World} {K : PySem.W.Frag} {h : Heap} {mg : Str → Option Value} {f : Addr} (X : K.In h) (G : h.Ns mainGlobals mg) (hf : mg ("law" : Str) = some (.ref f)) (c : SaysM fa_all ex_all fn_all K) :
    ∃ fd : FuncData, (∀ (s : Shared) (u : Value), BindsTo s fd ⟨[u], []⟩ [("script", u)]) ∧ ∀ base : Heap, (∀ p ∈ tfs, TabB base mg (He.cT K p).1 (He.cT K p).2) → FnG P w K mg base (L2.CX P w) 11 f fd ["script"] (spLaw K) := by
  have T := txt_of X G c
  obtain ⟨fd, F⟩ := T.d_law
  have e := hf.symm.trans T.g_law
  cases e
  refine ⟨fd, fun s u => ?_, fun base tb => ok_law T F (tb _ (by simp)) (tb _ (by simp)) (tb _ (by simp)) (tb _ (by simp))⟩
  exact F.bindsA (ps := ["script"]) (fun _ _ _ _ _ _ us hl => match us, hl with | [_], _ => rfl) s [u] rfl
theorem bits_lt (n : Int) : n.natAbs < 2 ^ Builtin.Int.intBits n := by
  unfold Builtin.Int.intBits
  split
  · rename_i h
    have : n = 0 := by simpa using h
    subst this
    decide
  · exact Nat.lt_log2_self
theorem tabs_nil {K : PySem.W.Frag} {H : Hp} (ht : ∀ p ∈ tfs, H (He.cT K p).2 = some (.tbl #[])) : Tabs (lamT K) H := by
  intro p hp
  simp only [lamT, List.mem_cons, List.mem_nil_iff, or_false] at hp
  rcases hp with rfl | rfl | rfl | rfl
  · exact TabS.nil (ht ("_law_bound_right", none) (by simp))
  · exact TabS.nil (ht ("_law_poly_right", none) (by simp))
  · exact TabS.nil (ht ("_law_web_right", none) (by simp))
  · exact TabS.nil (ht ("law", none) (by simp))
theorem law_sp {K : PySem.W.Frag} {H : Hp} {a : Addr} {ns : List Int} (bits : ∀ z ∈ ns, Builtin.Int.intBits z ≤ 1048576) (ht : ∀ p ∈ tfs, H (He.cT K p).2 = some (.tbl #[])) (hs : SqL K H a (ns.map V.int)) : spLaw K [.ref a] H (fun v _ => v = .bl true) fun _ _ _ => False := by
  refine ⟨a, ns, rfl, hs, fun x hx => ?_, tabs_nil ht, fun _ => rfl⟩
  exact Nat.lt_of_lt_of_le (bits_lt x) (Nat.pow_le_pow_right (by decide) (Nat.le_trans (bits x hx) (by decide)))
end K02
open PySem PySem.W PySem.Calls PyProof.Rows
theorem PySem.Challenge.cw_goodsigns_k02_texts_bent_anywhere_holds : PySem.Challenge.rw_goodsigns_k02_texts_bent_anywhere.Holds := by
  w_on; o_law
  refine HandSHeadRun.head_any (r := K02.R) (q := view K02.R.prog [56]) (H := K02.hk) (ob := K02.ob) (M := 12000) (loose := K02.loose) (d := HandSHeadRun.topDef K02.R.prog 56) (kwd := []) K02.ob_eq ?a1 (fun s => ?a2) K02.run ?a3 ?a4 ?a5 ?a6 ?a7 ?a8 ?a9 ?hw ?hc
  case a1 => kernel_rfl
  case a2 => kernel_rfl
  case a3 => kernel_rfl
  case a4 => kernel_rfl
  case a5 => kernel_rfl
  case a6 => rfl
  case a7 => first | assumption | decide +kernel
  case a8 => decide +kernel
  case a9 => exact ⟨rfl, rfl, rfl, rfl, rfl, by decide +kernel⟩
  case hw => w_witness2
  case hc =>
    refine GS.end_show (l := PySem.Challenge.rw_goodsigns_k02_texts_bent_anywhere) (n := 63) (k := 11) (x := "script") rfl (by decide) (by kernel_rfl) ⟨rfl, by decide, by decide⟩ fun w mg fa h Y G named => ?_
    obtain ⟨K, KX, c⟩ := Y
    have hmg : mg ("law" : PySem.Str) = some (.ref fa) := by
      have e : (HandSHeadRun.topDef K02.R.prog 56).name = ("law" : PySem.Str) := by kernel_rfl
      rw [← e]
      exact named
    obtain ⟨fd, hb, hF⟩ := K02.law_fact (P := (PySem.Challenge.rw_goodsigns_k02_texts_bent_anywhere).prog) (w := w) KX G hmg c.m
    have inm : ∀ p ∈ K02.tfs, He.cT K p ∈ K02.tfs.map (He.cT K) := fun p hp => List.mem_map.mpr ⟨p, hp, rfl⟩
    refine ⟨K, fd, K02.tfs.map (He.cT K), K02.spLaw K, KX, fun p hp => ?_, fun p hp => ?_, fun p hp => ?_, hb, fun H a ns _ bits ht hs => K02.law_sp bits (fun p hp => ht _ (inm p hp)) hs, fun base inK ns' tb => hF base (fun p hp => tb _ (inm p hp))⟩
    · obtain ⟨q, hq, rfl⟩ := List.mem_map.mp hp; exact c.empty _ hq
    · obtain ⟨q, hq, rfl⟩ := List.mem_map.mp hp; exact c.out _ hq
    · obtain ⟨q, hq, rfl⟩ := List.mem_map.mp hp; exact GS.SaysL.code KX c _ hq
